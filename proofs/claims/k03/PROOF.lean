import PyProof.Rows.All
import OpenK.KLine
import OpenK.KOwn
import KE.KxBytes
import KE.KPairTest
import KE.KDictOf
import OpenK.KEqL
import KE.KFromBytes
import KE.KIsAll
import KE.KItem
import PySem.Challenge.RW_halftold_k03_whole_counted
set_option Elab.async false
section
open PySem PySem.W PyProof.Rows
structure HZ.W1 (T : Prop) : Prop where
  out : T
structure HZ.W2 (T : Prop) : Prop where
  out : T
open Lean in
local macro_rules
  | `(tactic| refine $f:ident $args*) => do
    let mut met := false
    let mut as := #[]
    for a in args do
      if a.raw.isOfKind `Lean.Parser.Term.syntheticHole && a.raw[1].getId == `hl then
        met := true
        as := as.push ⟨(← `((HZ.W1.out (by assumption)))).raw⟩
      else if a.raw.isOfKind `Lean.Parser.Term.syntheticHole && a.raw[1].getId == `hc then
        as := as.push ⟨(← `((HZ.W2.out (by assumption)))).raw⟩
      else as := as.push a
    if met then `(tactic| refine $f:ident $as*) else Lean.Macro.throwUnsupported
set_option maxRecDepth 100000 in
set_option maxHeartbeats 0 in
noncomputable def HZ.cap : (T : Prop) ×' (C : Prop) ×' (T → C → PySem.Challenge.rw_halftold_k03_whole_counted.Holds) := ⟨_, _, by
  intro h1 h2
  have hT := HZ.W1.mk h1
  have hC := HZ.W2.mk h2
  clear h1 h2
  w_on; o_law; k_head
  w_witness2⟩
noncomputable def HZ.ofL : List Obj → Nat → BT → BT
  | [], _, t => t
  | o :: l, n, t => HZ.ofL l (n + 1) (t.ins n o)
noncomputable def HZ.runT (tb : String → Option Builtin) (p : Program) (w : World) (n₀ : Nat) (ann : Option Value) : Nat → SharedT → Thread → Option SharedT
  | 0, _, _ => none
  | n + 1, s, t => match through t with
    | true => some s
    | false => match stepOk n₀ ann t with
      | false => none
      | true => match stepT (denote tb) p w s t with
        | some (s', t') => HZ.runT tb p w n₀ ann n s' t'
        | none => none
theorem HZ.run_of {tb : String → Option Builtin} {p : Program} {w : World} {n₀ : Nat} {ann : Option Value} : ∀ {n : Nat} {s r : SharedT} {t : Thread}, HZ.runT tb p w n₀ ann n s t = some r → topRun tb p w n₀ ann n s.abs t = some r.abs
  | 0, _, _, _, h => by cases h
  | n + 1, s, r, t, h => by
    unfold HZ.runT at h
    unfold topRun
    cases he : through t with
    | true => rw [he] at h; cases h; rfl
    | false =>
      rw [he] at h
      cases hk : stepOk n₀ ann t with
      | false => rw [hk] at h; cases h
      | true =>
        rw [hk] at h
        cases hs : stepT (denote tb) p w s t with
        | none => rw [hs] at h; cases h
        | some q => obtain ⟨s₂, t₂⟩ := q; rw [hs] at h; rw [stepT_spec hs]; exact HZ.run_of h
noncomputable def HZ.bootT (P : Params) : BT := HZ.ofL (boot_heap P).objs.toList 0 .nil
noncomputable def HZ.bootS (w : World) (os : OsState) : SharedT := ⟨HZ.bootT w.params, (boot_heap w.params).objs.size, (boot_heap w.params).life, Array.mk [], boot_drawn, boot_toks, os⟩
set_option maxRecDepth 100000 in
set_option maxHeartbeats 0 in
theorem HZ.boot_abs (w : World) : absHeap (HZ.bootT w.params) (boot_heap w.params).objs.size (boot_heap w.params).life = boot_heap w.params := by kernel_rfl
theorem HZ.lift {p : Program} {N : Nat} {w : World} {os : OsState} {n₀ : Nat} {ann : Option Value} {t : Thread} {α : Type} {F : Shared → α} {a : α} (h : (HZ.runT treeTable p w n₀ ann N (HZ.bootS w os) t).map (fun r => F r.abs) = some a) :
    (topRun treeTable p w n₀ ann N ⟨boot_heap w.params, Array.mk [], boot_drawn, boot_toks, os⟩ t).map F = some a := by
  obtain ⟨r, h1, h2⟩ := Option.map_eq_some_iff.mp h
  have e := HZ.run_of h1
  have b : (HZ.bootS w os).abs = ⟨boot_heap w.params, Array.mk [], boot_drawn, boot_toks, os⟩ := congrArg (fun h => Shared.mk h (Array.mk []) boot_drawn boot_toks os) (HZ.boot_abs w)
  rw [b] at e
  rw [e]
  exact congrArg some h2
theorem HZ.two {α β γ : Type} {o : Option α} {f : α → β} {g : α → γ} {a : β} {b : γ} (h1 : o.map f = some a) (h2 : o.map g = some b) : o.map (fun s => (f s, g s)) = some (a, b) := by
  cases o with
  | none => cases h1
  | some x => cases h1; cases h2; rfl
theorem HZ.boot {p : Program} {N : Nat} {w : World} {α : Type} {F : Shared → α} {a : α} (b : (fencedOpening treeTable p w N).map (fun s => (s.heap, s.gens, s.drawn, s.toks)) = some (boot_heap w.params, Array.mk [], boot_drawn, boot_toks))
    (h : ∀ os, (topFrom treeTable p w N ⟨boot_heap w.params, Array.mk [], boot_drawn, boot_toks, os⟩).map F = some a) : (openEnds treeTable p w N).map F = some a := by
  obtain ⟨s, hs, hv⟩ := Option.map_eq_some_iff.mp b
  unfold openEnds
  rw [hs]
  obtain ⟨hp, g, d, t, os⟩ := s
  cases hv
  exact h os
theorem HZ.top {p : Program} {N : Nat} {w : World} {S : Shared} {α : Type} {F : Shared → α} {a : α} (c : (S.heap.isNs mainGlobals && S.gens.size == 0) = true)
    (r1 : (topRun treeTable p w S.heap.objs.size (S.heap.nsMap mainGlobals "__annotations__") N S (topStub p)).map (fun t => staticsOk (importedModules p.main.body) S.heap t.heap && namesBound p t.heap && gensDone t && laidKept S.heap t.heap) = some true)
    (r2 : (topRun treeTable p w S.heap.objs.size (S.heap.nsMap mainGlobals "__annotations__") N S (topStub p)).map F = some a) : (topFrom treeTable p w N S).map F = some a := by
  obtain ⟨t, h1, e1⟩ := Option.map_eq_some_iff.mp r1
  unfold topFrom
  rw [c]
  dsimp only
  rw [h1] at r2 ⊢
  rw [Option.bind_some, e1]
  exact r2
set_option maxRecDepth 100000 in
set_option maxHeartbeats 0 in
noncomputable def HZ.cut : (A : World → OsState → Prop) ×' (B : World → OsState → Prop) ×' (C : World → OsState → Prop) ×' (D : World → OsState → Prop) ×' (E : World → OsState → Prop) ×' (F : World → OsState → Prop) ×' (G : World → OsState → Prop) ×'
    ((∀ w os, A w os) → (∀ w os, B w os) → (∀ w os, C w os) → (∀ w os, D w os) → (∀ w os, E w os) → (∀ w os, F w os) → (∀ w os, G w os) → HZ.cap.1) := ⟨_, _, _, _, _, _, _, by
  delta HZ.cap; dsimp only
  exact fun h1 h2 h3 h4 h5 h6 h7 w => HZ.boot (boot_open rfl rfl (fun _ => rfl) w) fun os => HZ.top (by kernel_rfl) (HZ.lift (h1 w os)) (HZ.two (HZ.two (HZ.lift (h2 w os)) (HZ.two (HZ.lift (h3 w os)) (HZ.two (HZ.lift (h4 w os)) (HZ.two (HZ.lift (h5 w os)) (HZ.lift (h6 w os)))))) (HZ.lift (h7 w os)))⟩
set_option maxRecDepth 100000 in
set_option maxHeartbeats 0 in
theorem HZ.left1 : ∀ w os, HZ.cut.1 w os := by
  delta HZ.cut; dsimp only
  intro w os; kernel_rfl
set_option maxRecDepth 100000 in
set_option maxHeartbeats 0 in
theorem HZ.left2 : ∀ w os, HZ.cut.2.1 w os := by
  delta HZ.cut; dsimp only
  intro w os; kernel_rfl
set_option maxRecDepth 100000 in
set_option maxHeartbeats 0 in
theorem HZ.left3 : ∀ w os, HZ.cut.2.2.1 w os := by
  delta HZ.cut; dsimp only
  intro w os; kernel_rfl
set_option maxRecDepth 100000 in
set_option maxHeartbeats 0 in
theorem HZ.left4 : ∀ w os, HZ.cut.2.2.2.1 w os := by
  delta HZ.cut; dsimp only
  intro w os; kernel_rfl
set_option maxRecDepth 100000 in
set_option maxHeartbeats 0 in
theorem HZ.left5 : ∀ w os, HZ.cut.2.2.2.2.1 w os := by
  delta HZ.cut; dsimp only
  intro w os; kernel_rfl
set_option maxRecDepth 100000 in
set_option maxHeartbeats 0 in
theorem HZ.left6 : ∀ w os, HZ.cut.2.2.2.2.2.1 w os := by
  delta HZ.cut; dsimp only
  intro w os; kernel_rfl
set_option maxRecDepth 100000 in
set_option maxHeartbeats 0 in
theorem HZ.left7 : ∀ w os, HZ.cut.2.2.2.2.2.2.1 w os := by
  delta HZ.cut; dsimp only
  intro w os; kernel_rfl
theorem HZ.left : HZ.cap.1 := HZ.cut.2.2.2.2.2.2.2 HZ.left1 HZ.left2 HZ.left3 HZ.left4 HZ.left5 HZ.left6 HZ.left7
end
set_option Elab.async false
set_option linter.all false
set_option maxRecDepth 100000
namespace L2
open PySem PySem.Spec PyProof.Rows
/-- a key: an int or a str -/
abbrev Key := Sum Int Str
def keyIs : Key → Value → Bool
  | .inl k, v => Value.isInt k v
  | .inr x, v => Value.isStrOf x v
def keyH (w : World) : Key → Int
  | .inl k => hashInt k
  | .inr x => hashStr w x
theorem keyIs_shape : ∀ {k : Key} {v : Value}, keyIs k v = true → (∃ i t, k = Sum.inl i ∧ v = Value.int i t) ∨ (∃ x t, k = Sum.inr x ∧ v = Value.str x t)
  | .inl i, v, h => by
    obtain ⟨t, e⟩ := Value.isInt_shape (k := i) (v := v) h
    exact .inl ⟨i, t, rfl, e⟩
  | .inr x, v, h => by
    obtain ⟨t, e⟩ := Value.isStrOf_shape (x := x) (v := v) h
    exact .inr ⟨x, t, rfl, e⟩
theorem keyIs_int (i : Int) (t : Tok) : keyIs (.inl i) (.int i t) = true := by simp [keyIs, Value.isInt]
theorem keyIs_str (x : Str) (t : Tok) : keyIs (.inr x) (.str x t) = true := by simp [keyIs, Value.isStrOf]
theorem key_ll (a b : Int) : decide ((Sum.inl a : Key) = Sum.inl b) = (a == b) := by
  by_cases e : a = b
  · subst e; simp
  · have h : ¬ (Sum.inl a : Key) = Sum.inl b := fun q => e (Sum.inl.inj q)
    rw [decide_eq_false h]
    exact (beq_eq_false_iff_ne.mpr e).symm
theorem key_rr (a b : Str) : decide ((Sum.inr a : Key) = Sum.inr b) = decide (a = b) := by
  by_cases e : a = b
  · subst e; simp
  · have h : ¬ (Sum.inr a : Key) = Sum.inr b := fun q => e (Sum.inr.inj q)
    rw [decide_eq_false h, decide_eq_false e]
theorem key_lr (a : Int) (b : Str) : decide ((Sum.inl a : Key) = Sum.inr b) = false := decide_eq_false (fun q => nomatch q)
theorem key_rl (a : Str) (b : Int) : decide ((Sum.inr a : Key) = Sum.inl b) = false := decide_eq_false (fun q => nomatch q)
def mixKind (prog : Program) (w : World) : PySem.KeyKind prog w Key where
  is := keyIs
  hash := keyH w
  inj := fun v a b ha hb => by
    rcases keyIs_shape ha with ⟨i, t, rfl, rfl⟩ | ⟨x, t, rfl, rfl⟩
    · rcases keyIs_shape hb with ⟨j, u, rfl, e⟩ | ⟨y, u, rfl, e⟩
      · injection e with e1 _; rw [e1]
      · exact nomatch e
    · rcases keyIs_shape hb with ⟨j, u, rfl, e⟩ | ⟨y, u, rfl, e⟩
      · exact nomatch e
      · injection e with e1 _; rw [e1]
  byValue := fun k v h => by
    rcases keyIs_shape h with ⟨i, t, rfl, rfl⟩ | ⟨x, t, rfl, rfl⟩ <;> rfl
  pyHash := fun hv h => by
    rcases keyIs_shape hv with ⟨i, t, rfl, rfl⟩ | ⟨x, t, rfl, rfl⟩
    · exact wpAny_pyHash_int h
    · exact wpAny_pyHash_str h
  eqBool := fun hu hv h => by
    rcases keyIs_shape hu with ⟨i, t, rfl, rfl⟩ | ⟨x, t, rfl, rfl⟩
    · rcases keyIs_shape hv with ⟨j, u, rfl, rfl⟩ | ⟨y, u, rfl, rfl⟩
      · rw [key_ll] at h; exact wpAny_eqBool_int h
      · rw [key_lr] at h; exact SeqAt.EqAt.int_str i t y u _ _ _ _ h
    · rcases keyIs_shape hv with ⟨j, u, rfl, rfl⟩ | ⟨y, u, rfl, rfl⟩
      · rw [key_rl] at h; exact SeqAt.EqAt.str_int x t j u _ _ _ _ h
      · rw [key_rr] at h; exact wpAny_eqBool_str h
  «strs» := fun k x t v h => by
    rcases keyIs_shape h with ⟨i, u, rfl, e⟩ | ⟨y, u, rfl, e⟩
    · exact nomatch e
    · injection e with e1 _
      subst e1
      cases v <;> rfl
theorem mixKind_int (prog : Program) (w : World) (i : Int) (t : Tok) : (mixKind prog w).is (.inl i) (.int i t) = true := keyIs_int i t
theorem mixKind_str (prog : Program) (w : World) (x : Str) (t : Tok) : (mixKind prog w).is (.inr x) (.str x t) = true := keyIs_str x t
end L2
namespace L2
open PySem PySem.Spec PyProof.Rows
/-- a value, without the heap -/
inductive V where
  | non | bl (b : Bool) | int (i : Int) | str (x : Str) | byt (b : Array UInt8) | flt (b : UInt64) | ref (a : Addr) | ty (n : String)
  deriving DecidableEq
def RelV : V → Value → Prop
  | .non, u => u = Value.none
  | .bl b, u => u = Value.bool b
  | .int i, u => ∃ t, u = Value.int i t
  | .str x, u => ∃ t, u = Value.str x t
  | .byt b, u => ∃ t, u = Value.bytes b t
  | .flt b, u => ∃ t, u = Value.float b t
  | .ref a, u => u = Value.ref a
  | .ty n, u => u = Value.type n
abbrev Vals : List V → List Value → Prop := Paired RelV
theorem Vals.length {xs : List V} {us : List Value} (r : Vals xs us) : xs.length = us.length := Paired.length r
theorem Vals.get : ∀ {xs : List V} {us : List Value} {i : Nat} {x : V}, Vals xs us → xs[i]? = some x → ∃ u, us[i]? = some u ∧ RelV x u
  | _, _, _, _, .nil, e => by simp at e
  | _, _, 0, _, .cons r _, e => by simp at e; subst e; exact ⟨_, rfl, r⟩
  | _, _, i + 1, x, .cons _ t, e => by
    obtain ⟨u, h1, h2⟩ := Vals.get (i := i) (x := x) t (by simpa using e)
    exact ⟨u, by simpa using h1, h2⟩
theorem Vals.set {x : V} {u : Value} (r : RelV x u) : ∀ {xs : List V} {us : List Value} (i : Nat), Vals xs us → Vals (xs.set i x) (us.set i u)
  | _, _, _, .nil => .nil
  | _, _, 0, .cons _ t => .cons r t
  | _, _, i + 1, .cons q t => .cons q (Vals.set r i t)
theorem Vals.append : ∀ {xs ys : List V} {us ws : List Value}, Vals xs us → Vals ys ws → Vals (xs ++ ys) (us ++ ws)
  | _, _, _, _, .nil, s => s
  | _, _, _, _, .cons r t, s => .cons r (Vals.append t s)
theorem Vals.take : ∀ {xs : List V} {us : List Value} (n : Nat), Vals xs us → Vals (xs.take n) (us.take n)
  | _, _, 0, _ => .nil
  | _, _, _ + 1, .nil => .nil
  | _, _, n + 1, .cons r t => .cons r (Vals.take n t)
theorem Vals.drop : ∀ {xs : List V} {us : List Value} (n : Nat), Vals xs us → Vals (xs.drop n) (us.drop n)
  | _, _, 0, r => r
  | _, _, _ + 1, .nil => .nil
  | _, _, n + 1, .cons _ t => Vals.drop n t
def RelO : Option V → Option Value → Prop
  | some v, some u => RelV v u
  | none, none => True
  | _, _ => False
def KV {κ : Type} : List (κ × V) → List (κ × Value) → Prop := Paired fun (p : κ × V) (q : κ × Value) => p.1 = q.1 ∧ RelV p.2 q.2
/-- a key of a dict (00_mix): an int or a text -/
def kV : Key → V
  | .inl i => .int i
  | .inr x => .str x
/-- what stands at a tracked address -/
inductive HO where
  /-- a list -/
  | lst (xs : List V)
  /-- a tuple (never changes) -/
  | tup (xs : List V)
  /-- a dict whose keys are ints and texts; one whose keys are tuples of ints and texts (the empty one is both) -/
  | dK (kvs : List (Key × V)) | dT (kvs : List (List Key × V))
  /-- a set of ints: its members, its size -/
  | set (S : Int → Bool) (n : Nat)
  /-- an instance of the class at C, its dict at dx, its attributes -/
  | ins (C dx : Addr) (fs : List (Str × V))
  /-- the dict of the instance at x -/
  | own (x : Addr)
  /-- the dict of an exception -/
  | xd (fs : List (Str × V))
  /-- a bound method, f of x -/
  | met (f x : Addr)
  /-- a range object lo, lo + 1, .. below hi -/
  | rng (lo hi : Int)
  /-- a thing that is known to the object (the script; a dict while a loop walks it): read, never written while it is so -/
  | frz (o : Obj) (u : HO)
  /-- a code object's table -/
  | tbl (ps : Array Value)
  /-- any other thing, by what is true of its one object (a def of one's own: SetO a S n := HO.ext fun h => ..) -/
  | ext (φ : Heap → Prop)
abbrev Hp := Addr → Option HO
def upd (H : Hp) (a : Addr) (o : HO) : Hp := fun b => if b = a then some o else H b
theorem upd_same {H : Hp} {a : Addr} {o : HO} : upd H a o a = some o := by unfold upd; rw [if_pos rfl]
theorem upd_ne {H : Hp} {a b : Addr} {o : HO} (h : b ≠ a) : upd H a o b = H b := by unfold upd; rw [if_neg h]
theorem upd_upd {H : Hp} {a : Addr} {o u : HO} : upd (upd H a o) a u = upd H a u := by
  funext b; unfold upd; split <;> rfl
/-- two objects of different content stand apart -/
theorem ne_of {H : Hp} {a b : Addr} {o u : HO} (h : H a = some o) (h' : H b = some u) (d : o ≠ u) : a ≠ b := by
  intro e; subst e; rw [h] at h'; exact d (Option.some.inj h')
theorem ne_of_none {H : Hp} {a b : Addr} {o : HO} (h : H a = some o) (h' : H b = none) : a ≠ b := by
  intro e; subst e; rw [h] at h'; cases h'
section
variable (P : Program) (w : World)
def ObjOk (H : Hp) (h : Heap) (a : Addr) : HO → Prop
  | .lst xs => xs.length ≤ sizeLine ∧ ∃ (its : List Value) (n : Nat), Vals xs its ∧ h.get? a = some { cls := .type "list", data := .seq its.toArray n }
  | .tup xs => xs.length ≤ sizeLine ∧ ∃ its : List Value, Vals xs its ∧ IsTup h a its.toArray
  | .dK kvs => kvs.length ≤ sizeLine ∧ (a == sysModules) = false ∧ ∃ vs, KV kvs vs ∧ h.DictOf (mixKind P w) a vs
  | .dT kvs => kvs.length ≤ sizeLine ∧ (a == sysModules) = false ∧ ∃ xs : List (List Key × Addr × Value),
      Paired (fun (p : List Key × V) (q : List Key × Addr × Value) => p.1 = q.1 ∧ H q.2.1 = some (.tup (p.1.map kV)) ∧ RelV p.2 q.2.2) kvs xs ∧
      ∃ o es ep, h.get? a = some o ∧ o.ExactDict ∧ o.data = .dict es ep ∧ es.toList = xs.map (entryOfKey (tupleKind (mixKind P w))) ∧ (xs.map (·.1)).Nodup
  | .set S n => h.SetOf (intKind P w) a S n
  | .ins C dx fs => H dx = some (.own a) ∧ fs.length ≤ 1000 ∧ dx ≠ a ∧ h.get? a = some (PySem.W.instObj C dx) ∧
      ∃ mA, h.Ns1 dx mA ∧ (∀ f, RelO (fs.lookup f) (mA f)) ∧ PySem.Within mA (fs.map (·.1))
  | .own _ => ∃ o, h.get? a = some o
  | .xd fs => ∃ mA, h.Ns1 a mA ∧ ∀ f, RelO (fs.lookup f) (mA f)
  | .rng lo hi => ∃ t u v, h.get? a = some { cls := .type "range", data := .fields #[.int lo t, .int hi u, .int 1 v] }
  | .frz o u => h.get? a = some o ∧ ObjOk H h a u
  | .tbl ps => h.get? a = some { cls := .none, data := .fields ps }
  | .met f x => h.get? a = some (PySem.W.methodObj (.ref f) (.ref x))
  | .ext φ => φ h ∧ (∃ o, h.get? a = some o) ∧ ∀ h1 h2 : Heap, φ h1 → (∀ o, h1.get? a = some o → h2.get? a = some o) → φ h2
/-- the abstract heap is held -/
def HOk (H : Hp) (h : Heap) : Prop := ∀ a o, H a = some o → ObjOk P w H h a o
end
section
variable {P : Program} {w : World} {H H' : Hp} {h h' : Heap} {a : Addr} {o : HO}
theorem ObjOk.lt (x : ObjOk P w H h a o) : a < h.objs.size := by
  cases o with
  | lst xs => obtain ⟨_, _, _, _, e⟩ := x; exact Heap.lt_size e
  | tup xs => obtain ⟨_, _, _, p⟩ := x; exact p.lt
  | dK kvs => obtain ⟨_, _, _, _, o, _, _, e, _⟩ := x; exact Heap.lt_size e
  | dT kvs => obtain ⟨_, _, _, _, o, _, _, e, _⟩ := x; exact Heap.lt_size e
  | set S n => obtain ⟨o, _, _, _, e, _⟩ := x; exact Heap.lt_size e
  | ins C dx fs => obtain ⟨_, _, _, e, _⟩ := x; exact Heap.lt_size e
  | own y => obtain ⟨_, e⟩ := x; exact Heap.lt_size e
  | xd fs => obtain ⟨_, ⟨_, _, _, e, _⟩, _⟩ := x; exact Heap.lt_size e
  | rng lo hi => obtain ⟨_, _, _, e⟩ := x; exact Heap.lt_size e
  | frz ob u => obtain ⟨e, _⟩ := x; exact Heap.lt_size e
  | tbl ps => exact Heap.lt_size (show h.get? a = some _ from x)
  | met f y => exact Heap.lt_size (show h.get? a = some _ from x)
  | ext φ => obtain ⟨_, ⟨_, e⟩, _⟩ := x; exact Heap.lt_size e
theorem Paired.mapP {α β : Type} {F G : α → β → Prop} : ∀ {l₁ : List α} {l₂ : List β}, Paired F l₁ l₂ → (∀ a b, F a b → G a b) → Paired G l₁ l₂
  | _, _, .nil, _ => .nil
  | _, _, .cons r t, f => .cons (f _ _ r) (Paired.mapP t f)
theorem Paired.imp' {α β : Type} {F G : α → β → Prop} (f : ∀ a b, F a b → G a b) {l₁ : List α} {l₂ : List β} (r : Paired F l₁ l₂) : Paired G l₁ l₂ := Paired.mapP r f
/-- what an object's description leans on: its own object, its own dict, the tuples -/
theorem ObjOk.stay (x : ObjOk P w H h a o) (k : ∀ b u, (b = a ∨ H b = some (.own a)) → h.get? b = some u → h'.get? b = some u)
    (ho : ∀ b, H b = some (.own a) → H' b = some (.own a)) (ht : ∀ b xs, H b = some (.tup xs) → H' b = some (.tup xs)) : ObjOk P w H' h' a o := by
  induction o with
  | lst xs => obtain ⟨z, its, n, r, e⟩ := x; exact ⟨z, its, n, r, k _ _ (.inl rfl) e⟩
  | tup xs => obtain ⟨z, its, r, ob, e, c⟩ := x; exact ⟨z, its, r, ob, k _ _ (.inl rfl) e, c⟩
  | dK kvs => obtain ⟨z, y, vs, r, ob, es, ep, e, c⟩ := x; exact ⟨z, y, vs, r, ob, es, ep, k _ _ (.inl rfl) e, c⟩
  | dT kvs =>
    obtain ⟨z, y, xs, r, ob, es, ep, e, c⟩ := x
    exact ⟨z, y, xs, Paired.mapP r fun p q z => ⟨z.1, ht _ _ z.2.1, z.2.2⟩, ob, es, ep, k _ _ (.inl rfl) e, c⟩
  | set S n => obtain ⟨ob, es, ep, t, e, c⟩ := x; exact ⟨ob, es, ep, t, k _ _ (.inl rfl) e, c⟩
  | ins C dx fs =>
    obtain ⟨d, z, ne, e, mA, ⟨od, es, ep, e2, c⟩, r⟩ := x
    exact ⟨ho _ d, z, ne, k _ _ (.inl rfl) e, mA, ⟨od, es, ep, k _ _ (.inr d) e2, c⟩, r⟩
  | own y => obtain ⟨ob, e⟩ := x; exact ⟨ob, k _ _ (.inl rfl) e⟩
  | xd fs => obtain ⟨mA, ⟨od, es, ep, e, c⟩, r⟩ := x; exact ⟨mA, ⟨od, es, ep, k _ _ (.inl rfl) e, c⟩, r⟩
  | rng lo hi => obtain ⟨t, u, v, e⟩ := x; exact ⟨t, u, v, k _ _ (.inl rfl) e⟩
  | frz ob u ih => obtain ⟨e, q⟩ := x; exact ⟨k _ _ (.inl rfl) e, ih q⟩
  | tbl ps =>
    have e : h.get? a = some { cls := .none, data := .fields ps } := x
    show h'.get? a = some { cls := .none, data := .fields ps }
    exact k a _ (.inl rfl) e
  | met f y =>
    have e : h.get? a = some (PySem.W.methodObj (.ref f) (.ref y)) := x
    show h'.get? a = some (PySem.W.methodObj (.ref f) (.ref y))
    exact k a _ (.inl rfl) e
  | ext φ => obtain ⟨p, ⟨o, e⟩, st⟩ := x; exact ⟨st _ _ p fun o q => k _ _ (.inl rfl) q, ⟨o, k _ _ (.inl rfl) e⟩, st⟩
theorem HOk.lt (x : HOk P w H h) (e : H a = some o) : a < h.objs.size := (x a o e).lt
theorem HOk.fresh (x : HOk P w H h) (e : h.objs.size ≤ a) : H a = none := by
  cases q : H a with
  | none => rfl
  | some u => exact absurd (Nat.lt_of_lt_of_le (x.lt q) e) (Nat.lt_irrefl _)
/-- every object of the heap is kept -/
theorem HOk.kept (x : HOk P w H h) (k : ∀ b u, h.get? b = some u → h'.get? b = some u) : HOk P w H h' := fun a o e =>
  (x a o e).stay (fun b u _ q => k b u q) (fun _ q => q) fun _ _ q => q
/-- a new object is laid and tracked -/
theorem HOk.laid (x : HOk P w H h) (k : ∀ b u, h.get? b = some u → h'.get? b = some u) (hp : h.objs.size ≤ a) (new : ObjOk P w (upd H a o) h' a o) : HOk P w (upd H a o) h' := fun b u e => by
  have hn := x.fresh hp
  by_cases hb : b = a
  · subst hb; rw [upd_same] at e; cases e; exact new
  · rw [upd_ne hb] at e
    exact (x b u e).stay (fun c v _ q => k c v q) (fun c q => by rw [upd_ne (ne_of_none q hn)]; exact q) fun c xs q => by rw [upd_ne (ne_of_none q hn)]; exact q
end
/-- what may be read as u: it is u, or a known u -/
def Rd (H : Hp) (a : Addr) (u : HO) : Prop := H a = some u ∨ ∃ o, H a = some (.frz o u)
theorem Rd.of {H : Hp} {a : Addr} {u : HO} (h : H a = some u) : Rd H a u := .inl h
theorem Rd.ok {P : Program} {w : World} {H : Hp} {h : Heap} {a : Addr} {u : HO} (r : Rd H a u) (x : HOk P w H h) : ObjOk P w H h a u := by
  rcases r with r | ⟨o, r⟩
  · exact x a u r
  · obtain ⟨_, q⟩ := x a _ r
    exact q
/-- what may be written -/
def Mut : Option HO → Prop
  | some (.lst _) => True
  | some (.dK _) => True
  | some (.dT _) => True
  | some (.set _ _) => True
  | some (.ins _ _ _) => True
  | some (.ext _) => True
  | _ => False
section
variable {P : Program} {w : World} {H : Hp} {h h' : Heap} {x e : Addr} {o' : HO}
/-- the object at e is changed: x itself, or the dict of the instance x -/
theorem HOk.write (ok : HOk P w H h) (mu : Mut (H x)) (he : e = x ∨ H e = some (.own x)) (k : ∀ b u, b ≠ e → h.get? b = some u → h'.get? b = some u) (heo : ∃ u, h'.get? e = some u)
    (new : ObjOk P w (upd H x o') h' x o') : HOk P w (upd H x o') h' := fun b u q => by
  have nown : ∀ c y, H c = some (.own y) → c ≠ x := fun c y r z => by subst z; rw [r] at mu; exact mu
  have ntup : ∀ c xs, H c = some (.tup xs) → c ≠ x := fun c xs r z => by subst z; rw [r] at mu; exact mu
  by_cases hb : b = x
  · subst hb; rw [upd_same] at q; cases q; exact new
  · rw [upd_ne hb] at q
    by_cases hbe : b = e
    · have q' : H b = some (.own x) := by
        rcases he with z | z
        · exact absurd (hbe.trans z) hb
        · rw [hbe]; exact z
      rw [q] at q'; cases q'
      obtain ⟨v, hv⟩ := heo
      exact ⟨v, by rw [hbe]; exact hv⟩
    · refine (ok b u q).stay (fun c v hc r => k c v ?_ r) (fun c r => by rw [upd_ne (nown c b r)]; exact r) fun c xs r => by rw [upd_ne (ntup c xs r)]; exact r
      rcases hc with rfl | hc
      · exact hbe
      · rintro rfl
        rcases he with z | z
        · exact nown c b hc z
        · rw [hc] at z; cases z; exact hb rfl
end
structure Un (fs ex : List Addr) (H H' : Hp) (h h' : Heap) : Prop where
  keep : ∀ b o, h.get? b = some o → H b = none → b ∉ fs → b ∉ ex → h'.get? b = some o
  slot : ∀ b o, h.get? b = some o → H b = none → b ∈ fs → b ∉ ex → ∃ sl, h'.get? b = some { o with slots := sl }
  free : ∀ b o, h.get? b = some o → H b = none → b ∉ ex → H' b = none
  there : ∀ b o, h.get? b = some o → b ∉ ex → ∃ o', h'.get? b = some o'
  tups : ∀ b xs, H b = some (.tup xs) → H' b = some (.tup xs)
  frzs : ∀ b o u, H b = some (.frz o u) → H' b = some (.frz o u)
  tbls : ∀ b ps, H b = some (.tbl ps) → ∃ more, H' b = some (.tbl (ps ++ more))
section
variable {fs fs' ex ex' : List Addr} {H H1 H2 : Hp} {h h1 h2 h' : Heap} {a x e : Addr} {o : HO}
theorem Un.any (u : Un fs ex H H1 h h1) {b : Addr} {ob : Obj} (q : h.get? b = some ob) (n : H b = none) (hx : b ∉ ex) : ∃ sl, h1.get? b = some { ob with slots := sl } := by
  by_cases hb : b ∈ fs
  · exact u.slot b ob q n hb hx
  · exact ⟨ob.slots, u.keep b ob q n hb hx⟩
theorem Un.trans (a : Un fs ex H H1 h h1) (b : Un fs ex H1 H2 h1 h2) : Un fs ex H H2 h h2 where
  keep := fun c ob q n hc hx => b.keep c ob (a.keep c ob q n hc hx) (a.free c ob q n hx) hc hx
  slot := fun c ob q n hc hx => by
    obtain ⟨sl, e1⟩ := a.slot c ob q n hc hx
    obtain ⟨sl', e2⟩ := b.slot c _ e1 (a.free c ob q n hx) hc hx
    exact ⟨sl', e2⟩
  free := fun c ob q n hx => by
    obtain ⟨o', e1⟩ := a.there c ob q hx
    exact b.free c o' e1 (a.free c ob q n hx) hx
  there := fun c ob q hx => by
    obtain ⟨o', e1⟩ := a.there c ob q hx
    exact b.there c o' e1 hx
  tups := fun c xs q => b.tups c xs (a.tups c xs q)
  frzs := fun c ob xs q => b.frzs c ob xs (a.frzs c ob xs q)
  tbls := fun c ps q => by
    obtain ⟨m1, e1⟩ := a.tbls c ps q
    obtain ⟨m2, e2⟩ := b.tbls c _ e1
    exact ⟨m1 ++ m2, by rw [e2, Array.append_assoc]⟩
theorem Un.kept (k : ∀ b u, h.get? b = some u → h'.get? b = some u) : Un fs ex H H h h' :=
  ⟨fun b ob q _ _ _ => k b ob q, fun b ob q _ _ _ => ⟨ob.slots, k b ob q⟩, fun _ _ _ n _ => n, fun b ob q _ => ⟨ob, k b ob q⟩, fun _ _ q => q, fun _ _ _ q => q, fun _ ps q => ⟨#[], by rw [q]; simp⟩⟩
theorem Un.refl : Un fs ex H H h h := Un.kept fun _ _ q => q
theorem Un.laid (k : ∀ b u, h.get? b = some u → h'.get? b = some u) (hp : h.objs.size ≤ a) (hn : H a = none) : Un fs ex H (upd H a o) h h' where
  keep := fun b u q _ _ _ => k b u q
  slot := fun b u q _ _ _ => ⟨u.slots, k b u q⟩
  free := fun b u q n _ => by rw [upd_ne (Nat.ne_of_lt (Nat.lt_of_lt_of_le (Heap.lt_size q) hp))]; exact n
  there := fun b u q _ => ⟨u, k b u q⟩
  tups := fun b xs q => by rw [upd_ne (ne_of_none q hn)]; exact q
  frzs := fun b u xs q => by rw [upd_ne (ne_of_none q hn)]; exact q
  tbls := fun b ps q => ⟨#[], by rw [upd_ne (ne_of_none q hn), q]; simp⟩
theorem Un.write (mu : Mut (H x)) (he : e = x ∨ H e = some (.own x)) (k : ∀ b u, b ≠ e → h.get? b = some u → h'.get? b = some u) (heo : ∃ u, h'.get? e = some u) : Un fs ex H (upd H x o) h h' := by
  have hx : ∀ b, H b = none → b ≠ x := fun b n z => by subst z; rw [n] at mu; exact mu
  have hb : ∀ b, H b = none → b ≠ e := fun b n z => by
    subst z
    rcases he with r | r
    · exact hx b n r
    · rw [n] at r; cases r
  have hm : ∀ b u, H b = some u → ¬ Mut (some u) → b ≠ x := fun b u q nm z => by subst z; rw [q] at mu; exact nm mu
  refine ⟨fun b u q n _ _ => k b u (hb b n) q, fun b u q n _ _ => ⟨u.slots, k b u (hb b n) q⟩, fun b u q n _ => by rw [upd_ne (hx b n)]; exact n, fun b u q _ => ?_,
    fun b xs q => by rw [upd_ne (hm b _ q fun z => z)]; exact q, fun b u xs q => by rw [upd_ne (hm b _ q fun z => z)]; exact q, fun b ps q => ⟨#[], by rw [upd_ne (hm b _ q fun z => z), q]; simp⟩⟩
  by_cases hbe : b = e
  · subst hbe; exact heo
  · exact ⟨u, k b u hbe q⟩
theorem Un.mono (u : Un fs ex H H1 h h1) (hs : ∀ b ∈ fs, b ∈ fs') (hx : ∀ b ∈ ex, b ∈ ex') : Un fs' ex' H H1 h h1 :=
  ⟨fun b ob q n hb he => u.keep b ob q n (fun z => hb (hs b z)) fun z => he (hx b z), fun _ _ q n _ he => u.any q n fun z => he (hx _ z), fun b ob q n he => u.free b ob q n fun z => he (hx b z), fun b ob q he => u.there b ob q fun z => he (hx b z), u.tups, u.frzs, u.tbls⟩
end
def trk (h : Heap) (H : Hp) : List Addr := (List.range h.objs.size).filter fun a => (H a).isSome
def hidT (h : Heap) (H : Hp) : Heap := PySem.W.hideAll h (trk h H)
theorem hidT_size (h : Heap) (H : Hp) : (hidT h H).objs.size = h.objs.size := PySem.W.hideAll_size _ _
theorem hidT_get {h : Heap} {H : Hp} {b : Addr} {o : Obj} (e : h.get? b = some o) (n : H b = none) : (hidT h H).get? b = some o :=
  PySem.W.hideAll_get _ e fun hm => by
    have q : (H b).isSome = true := (List.mem_filter.mp hm).2
    rw [n] at q; simp at q
theorem of_hidT {h : Heap} {H : Hp} {b : Addr} {o : Obj} (e : (hidT h H).get? b = some o) : h.get? b = some o ∧ H b = none := by
  have e' : h.get? b = some o := PySem.W.of_hideAll (trk h H) e
  refine ⟨e', ?_⟩
  cases q : H b with
  | none => rfl
  | some x =>
    have hm : b ∈ trk h H := List.mem_filter.mpr ⟨List.mem_range.mpr (Heap.lt_size e'), by simp [q]⟩
    have z : (hidT h H).get? b = none := PySem.W.hideAll_none (trk h H) hm
    rw [z] at e; cases e
def allNews (g h : Heap) (L : Addr) : List (Addr × Obj) := (List.range h.objs.size).filterMap fun a => if a = L ∨ (g.get? a).isSome = true then none else (h.get? a).map fun o => (a, o)
def rest (g h : Heap) (L d : Addr) : List (Addr × Obj) := (allNews g h L).filter fun p => decide (p.1 ≠ d)
end L2
namespace L2
open PySem PySem.Spec PyProof.Rows
/-- the module's facts, over the base: the heap at the law's entry without what is tracked there -/
structure Mod (K : PySem.W.Frag) (mg : Str → Option Value) (base : Heap) : Prop where
  kin : K.In base
  glob : base.Ns mainGlobals mg
  blt : ∃ mb, base.Ns builtinsNs mb ∧ ∀ x : Str, x ≠ "__name__" → mb x = bootBuiltins x
  nolimit : base.NoLimit
/-- the context: a def's body (or a comprehension's block) running. base: fixed through the whole law; s₀, H₀: the entry; outer: the frames whose slots others may change (a def's callers); stack: all frames that run;
   ex: iterators that were made ahead of the entry and are walked here (a comprehension's); fn: the names whose cells were made at the entry (a def: all; a comprehension's block: its own); calm: not within an except suite; pn: pins that every state bears; xe: what is wanted of an exception that leaves the code -/
structure Cx where
  prog : Program
  w : World
  K : PySem.W.Frag
  mg : Str → Option Value
  base : Heap
  A : Around
  N : List Str
  s₀ : Shared
  H₀ : Hp
  env : Env
  outer : List Env
  stack : List Env
  ex : List Addr
  fn : Str → Bool
  calm : Bool
  pn : List (Addr × Obj)
  xe : Value → Shared → Prop
/-- the callers' frames -/
def frs (l : List Env) : List Addr := l.filterMap (·.frame)
abbrev Cx.fs (X : Cx) : List Addr := frs X.outer
def Vis (sc : Scope) (x : Str) : Prop := sc.names.lookup x = some .local ∨ sc.names.lookup x = some .cell ∨ sc.names.lookup x = some .free
def Loc (sc : Scope) (x : Str) : Prop := sc.names.lookup x = some .local ∨ sc.names.lookup x = some .cell
def Look (env : Env) (h : Heap) (m : Str → Option Value) (x : Str) (u : Value) : Prop :=
  (env.kindOf x = some .local ∧ m x = some u) ∨ ((env.kindOf x = some .cell ∨ env.kindOf x = some .free) ∧ ∃ c, env.cells.lookup x = some c ∧ h.IsCell c (some u))
structure Cx.Ok (X : Cx) : Prop where
  mod : Mod X.K X.mg X.base
  kind : X.env.scope.kind = .function
  glob : X.env.globals = mainGlobals
  blt : X.env.builtins = builtinsNs
  above : X.s₀.heap.objs.size ≤ X.env.locals
  inj : ∀ x y c, X.env.cells.lookup x = some c → X.env.cells.lookup y = some c → x = y
  has : ∀ x, (X.env.kindOf x = some .cell ∨ X.env.kindOf x = some .free) → ∃ c, X.env.cells.lookup x = some c
  cab : ∀ x c, X.fn x = true → X.env.cells.lookup x = some c → X.s₀.heap.objs.size ≤ c
  hd : X.calm = true → X.A.handled = none
  frames : X.A.frames = some X.stack
  stk : X.stack = X.outer ∨ (X.stack = X.env :: X.outer ∧ X.env.frame = some X.env.locals)
  exf : ∀ b ∈ X.ex, b ≠ X.env.locals ∧ ∀ x c, X.env.cells.lookup x = some c → c ≠ b
  bs : ∀ b o, X.base.get? b = some o → X.s₀.heap.get? b = some o ∧ X.H₀ b = none
  bsz : X.base.objs.size ≤ X.s₀.heap.objs.size
  noex : ∀ b o, X.base.get? b = some o → b ∉ X.ex
  exfs : ∀ b ∈ X.ex, b ∉ X.fs
  funs : X.s₀.heap.FunFrames X.base X.outer
  frf : ∀ b ∈ X.fs, X.H₀ b = none
structure Inv (X : Cx) (pins : List (Addr × Obj)) (σ : List (Option V)) (H : Hp) (s : Shared) : Prop where
  ok : X.Ok
  os : s.os = X.s₀.os
  bare : AllBare s.gens
  base : Un X.fs X.ex X.H₀ H X.s₀.heap s.heap
  loc : ∃ m, s.heap.Ns X.env.locals m ∧ ∀ (i : Nat) (x : Str) (v : V), X.N[i]? = some x → σ[i]? = some (some v) → Vis X.env.scope x → ∃ u, RelV v u ∧ Look X.env s.heap m x u
  cell : ∀ x c, X.env.cells.lookup x = some c → ∃ v, s.heap.IsCell c v
  free : H X.env.locals = none
  freeC : ∀ x c, X.env.cells.lookup x = some c → H c = none
  pin : ∀ p ∈ X.pn ++ pins, s.heap.get? p.1 = some p.2 ∧ H p.1 = none ∧ p.1 ≠ X.env.locals ∧ p.1 ∉ X.fs ∧ ∀ v, p.2.data ≠ .cell v
  hok : HOk X.prog X.w H s.heap
  len : σ.length = X.N.length
section
variable {X : Cx} {pins : List (Addr × Obj)} {σ : List (Option V)} {H H' : Hp} {s : Shared} {h' : Heap}
theorem Cx.Ok.nofr (ok : X.Ok) {b : Addr} {o : Obj} (e : X.base.get? b = some o) : b ∉ X.fs := fun hb => by
  have := (ok.funs.mem hb).1
  rw [e] at this; cases this
theorem Inv.bs (I : Inv X pins σ H s) : ∀ b o, X.base.get? b = some o → s.heap.get? b = some o ∧ H b = none := fun b o e =>
  ⟨I.base.keep b o (I.ok.bs b o e).1 (I.ok.bs b o e).2 (I.ok.nofr e) (I.ok.noex b o e), I.base.free b o (I.ok.bs b o e).1 (I.ok.bs b o e).2 (I.ok.noex b o e)⟩
theorem Inv.bk (I : Inv X pins σ H s) : ∀ b o, X.base.get? b = some o → s.heap.get? b = some o := fun b o e => (I.bs b o e).1
theorem Inv.mod (I : Inv X pins σ H s) : Mod X.K X.mg X.base := I.ok.mod
theorem Inv.kIn (I : Inv X pins σ H s) : X.K.In s.heap := I.ok.mod.kin.keeps I.bk
theorem Inv.nolimit (I : Inv X pins σ H s) : s.heap.NoLimit := I.ok.mod.nolimit.keeps I.bk
theorem Inv.lt (I : Inv X pins σ H s) : X.env.locals < s.heap.objs.size := let ⟨_, hn, _⟩ := I.loc; hn.lt
theorem Inv.sz (I : Inv X pins σ H s) : X.s₀.heap.objs.size ≤ s.heap.objs.size := Nat.le_trans I.ok.above (Nat.le_of_lt I.lt)
theorem Inv.nofs (I : Inv X pins σ H s) {a : Addr} (h : s.heap.objs.size ≤ a) : a ∉ X.fs := fun hb => by
  obtain ⟨_, o, ho, _⟩ := I.ok.funs.mem hb
  exact absurd (Nat.lt_of_lt_of_le (Heap.lt_size ho) (Nat.le_trans I.sz h)) (Nat.lt_irrefl _)
theorem Inv.cne (I : Inv X pins σ H s) : ∀ x c, X.env.cells.lookup x = some c → c ≠ X.env.locals := fun x c e z => by
  obtain ⟨v, o, ho, hd⟩ := I.cell x c e
  obtain ⟨m, ⟨o', es, ep, ho', hd', _⟩, _⟩ := I.loc
  rw [z, ho'] at ho; cases ho; rw [hd'] at hd; cases hd
theorem Inv.funs (I : Inv X pins σ H s) : s.heap.FunFrames X.base X.outer := by
  have all : ∀ (l : List Env), (∀ b ∈ frs l, b ∈ X.fs) → X.s₀.heap.FunFrames X.base l → s.heap.FunFrames X.base l := by
    intro l
    induction l with
    | nil => intro _ _; trivial
    | cons env r ih =>
      intro hs hl
      obtain ⟨hk, ⟨L, o, hf, hn, ho, hd⟩, hr⟩ := hl
      have hL : L ∈ X.fs := hs L (by unfold frs; rw [List.filterMap_cons, hf]; exact List.mem_cons_self)
      obtain ⟨sl, e⟩ := I.base.slot L o ho (I.ok.frf L hL) hL fun z => I.ok.exfs L z hL
      exact ⟨hk, ⟨L, _, hf, hn, e, hd⟩, ih (fun b hb => hs b (by unfold frs; rw [List.filterMap_cons, hf]; exact List.mem_cons_of_mem _ hb)) hr⟩
  exact all X.outer (fun _ hb => hb) I.ok.funs
/-- the frames that run, for a call -/
theorem Inv.stack (I : Inv X pins σ H s) : s.heap.FunFrames X.base X.stack := by
  rcases I.ok.stk with e | ⟨e, hf⟩
  · rw [e]; exact I.funs
  · rw [e]
    obtain ⟨m, hn, _⟩ := I.loc
    refine .cons (by rw [I.ok.kind]; decide) hf hn ?_ I.funs
    exact Heap.get?_none_of_le (Nat.le_trans I.ok.bsz I.ok.above)
theorem Inv.stkSub (I : Inv X pins σ H s) : ∀ b ∈ frs X.stack, b ∈ X.env.locals :: X.fs := fun b hb => by
  rcases I.ok.stk with e | ⟨e, hf⟩
  · rw [e] at hb; exact List.mem_cons_of_mem _ hb
  · rw [e] at hb
    unfold frs at hb
    rw [List.filterMap_cons, hf] at hb
    exact hb
theorem Inv.stkFree (I : Inv X pins σ H s) : ∀ b ∈ frs X.stack, H b = none := fun b hb => by
  rcases List.mem_cons.mp (I.stkSub b hb) with e | hb
  · rw [e]; exact I.free
  · obtain ⟨_, o, ho, _⟩ := I.ok.funs.mem hb
    exact I.base.free b o ho (I.ok.frf b hb) fun z => I.ok.exfs b z hb
/-- THE STEP: the untracked objects but the frame and the records at ch are kept (the callers' frames up to slots), the frame's map is kept, the new abstract heap is held -/
theorem Inv.step {g' : Array GenState} {t' : Nat} {d' : Drawn} {ch : List Addr} (I : Inv X pins σ H s)
    (hch : ∀ b ∈ ch, (b ∈ X.ex ∨ X.s₀.heap.objs.size ≤ b) ∧ b ≠ X.env.locals ∧ (∀ x c, X.env.cells.lookup x = some c → c ≠ b) ∧ ∀ p ∈ X.pn ++ pins, p.1 ≠ b)
    (keep : ∀ b o, b ≠ X.env.locals → b ∉ X.fs → b ∉ ch → s.heap.get? b = some o → H b = none → h'.get? b = some o)
    (slot : ∀ b o, b ≠ X.env.locals → b ∈ X.fs → b ∉ ch → s.heap.get? b = some o → H b = none → ∃ sl, h'.get? b = some { o with slots := sl }) (free : ∀ b o, b ∉ ch → s.heap.get? b = some o → H b = none → H' b = none)
    (there : ∀ b o, b ∉ ch → s.heap.get? b = some o → ∃ o', h'.get? b = some o')
    (tups : ∀ b xs, H b = some (.tup xs) → H' b = some (.tup xs)) (frzs : ∀ b o u, H b = some (.frz o u) → H' b = some (.frz o u)) (tbls : ∀ b ps, H b = some (.tbl ps) → ∃ more, H' b = some (.tbl (ps ++ more)))
    (ns : ∀ m, s.heap.Ns X.env.locals m → h'.Ns X.env.locals m) (hok : HOk X.prog X.w H' h') (hg : AllBare g') :
    Inv X pins σ H' { s with heap := h', gens := g', drawn := d', toks := t' } := by
  have neL : ∀ b o, X.s₀.heap.get? b = some o → b ≠ X.env.locals := fun b o e => Nat.ne_of_lt (Nat.lt_of_lt_of_le (Heap.lt_size e) I.ok.above)
  have neC : ∀ b o, X.s₀.heap.get? b = some o → b ∉ X.ex → b ∉ ch := fun b o e hx hb => by
    rcases (hch b hb).1 with z | z
    · exact hx z
    · exact absurd (Nat.lt_of_lt_of_le (Heap.lt_size e) z) (Nat.lt_irrefl _)
  have cellK : ∀ x c, X.env.cells.lookup x = some c → ∀ v, s.heap.IsCell c v → h'.IsCell c v := fun x c e v ⟨o, ho, hd⟩ => by
    have nch : c ∉ ch := fun z => (hch c z).2.2.1 x c e rfl
    by_cases hc : c ∈ X.fs
    · obtain ⟨sl, q⟩ := slot c o (I.cne x c e) hc nch ho (I.freeC x c e)
      exact ⟨_, q, hd⟩
    · exact ⟨o, keep c o (I.cne x c e) hc nch ho (I.freeC x c e), hd⟩
  refine ⟨I.ok, I.os, hg, ⟨fun b o e n hb hx => ?_, fun b o e n hb hx => ?_, fun b o e n hx => ?_, fun b o e hx => ?_, fun b xs e => tups b xs (I.base.tups b xs e), fun b o xs e => frzs b o xs (I.base.frzs b o xs e), fun b ps e => ?_⟩, ?_, fun x c e => ?_, ?_, fun x c e => ?_, fun p hp => ?_, hok, I.len⟩
  · exact keep b o (neL b o e) hb (neC b o e hx) (I.base.keep b o e n hb hx) (I.base.free b o e n hx)
  · obtain ⟨sl, e1⟩ := I.base.slot b o e n hb hx
    obtain ⟨sl', e2⟩ := slot b _ (neL b o e) hb (neC b o e hx) e1 (I.base.free b o e n hx)
    exact ⟨sl', e2⟩
  · obtain ⟨o', e1⟩ := I.base.there b o e hx
    exact free b o' (neC b o e hx) e1 (I.base.free b o e n hx)
  · obtain ⟨o', e1⟩ := I.base.there b o e hx
    exact there b o' (neC b o e hx) e1
  · obtain ⟨m1, e1⟩ := I.base.tbls b ps e
    obtain ⟨m2, e2⟩ := tbls b _ e1
    exact ⟨m1 ++ m2, by rw [e2, Array.append_assoc]⟩
  · obtain ⟨m, hn, hl⟩ := I.loc
    refine ⟨m, ns m hn, fun i x v e1 e2 e3 => ?_⟩
    obtain ⟨u, r, l⟩ := hl i x v e1 e2 e3
    refine ⟨u, r, ?_⟩
    rcases l with l | ⟨k, c, e, z⟩
    · exact .inl l
    · exact .inr ⟨k, c, e, cellK x c e _ z⟩
  · obtain ⟨v, z⟩ := I.cell x c e
    exact ⟨v, cellK x c e v z⟩
  · obtain ⟨m, ⟨o, _, _, ho, _⟩, _⟩ := I.loc
    exact free _ o (fun z => (hch _ z).2.1 rfl) ho I.free
  · obtain ⟨v, o, ho, hd⟩ := I.cell x c e
    exact free c o (fun z => (hch c z).2.2.1 x c e rfl) ho (I.freeC x c e)
  · obtain ⟨e, n, ne, nf, d⟩ := I.pin p hp
    have nch : p.1 ∉ ch := fun z => (hch p.1 z).2.2.2 p hp rfl
    exact ⟨keep p.1 p.2 ne nf nch e n, free p.1 p.2 nch e n, ne, nf, d⟩
/-- .. where the frame's own object is kept too -/
theorem Inv.un {t' : Nat} (I : Inv X pins σ H s) (u : Un X.fs [] H H' s.heap h') (hok : HOk X.prog X.w H' h') : Inv X pins σ H' { s with heap := h', toks := t' } := by
  obtain ⟨m, ⟨o, es, ep, ho, r⟩, _⟩ := id I.loc
  obtain ⟨sl, hL⟩ := u.any ho I.free (by simp)
  exact I.step (g' := s.gens) (d' := s.drawn) (ch := []) (fun _ z => nomatch z) (fun b o _ hb _ e n => u.keep b o e n hb (by simp)) (fun b o _ hb _ e n => u.slot b o e n hb (by simp)) (fun b o _ e n => u.free b o e n (by simp)) (fun b o _ e => u.there b o e (by simp)) u.tups u.frzs u.tbls (fun m' hm => by
    obtain ⟨o', es', ep', ho', r'⟩ := hm
    rw [ho] at ho'; cases ho'
    exact ⟨_, es', ep', hL, r'⟩) hok I.bare
/-- behind a call (or a comprehension's block): the slots of this frame may have changed too, the records at ch may have turned -/
theorem Inv.call {g' : Array GenState} {t' : Nat} {d' : Drawn} {ch : List Addr} (I : Inv X pins σ H s) (u : Un (frs X.stack) ch H H' s.heap h') (hok : HOk X.prog X.w H' h') (hg : AllBare g')
    (hch : ∀ b ∈ ch, (b ∈ X.ex ∨ X.s₀.heap.objs.size ≤ b) ∧ b ≠ X.env.locals ∧ (∀ x c, X.env.cells.lookup x = some c → c ≠ b) ∧ ∀ p ∈ X.pn ++ pins, p.1 ≠ b) :
    Inv X pins σ H' { s with heap := h', gens := g', drawn := d', toks := t' } := by
  obtain ⟨m, ⟨o, es, ep, ho, r⟩, _⟩ := id I.loc
  obtain ⟨sl, hL⟩ := u.any ho I.free fun z => (hch _ z).2.1 rfl
  exact I.step (ch := ch) hch (fun b o hL hb hc e n => u.keep b o e n (fun z => (List.mem_cons.mp (I.stkSub b z)).elim hL hb) hc) (fun b o _ _ hc e n => u.any e n hc) (fun b o hc e n => u.free b o e n hc) (fun b o hc e => u.there b o e hc) u.tups u.frzs u.tbls (fun m' hm => by
    obtain ⟨o', es', ep', ho', r'⟩ := hm
    rw [ho] at ho'; cases ho'
    exact ⟨_, es', ep', hL, r'⟩) hok hg
/-- an untracked record of ours (an iterator) has turned -/
theorem Inv.turned {t' : Nat} {it : Addr} (I : Inv X pins σ H s) (k : ∀ b o, b ≠ it → s.heap.get? b = some o → h'.get? b = some o) (hn : H it = none) (hL : it ≠ X.env.locals)
    (h1 : it ∈ X.ex ∨ X.s₀.heap.objs.size ≤ it) (h2 : ∀ x c, X.env.cells.lookup x = some c → c ≠ it) (h3 : ∀ p ∈ X.pn ++ pins, p.1 ≠ it) : Inv X pins σ H { s with heap := h', toks := t' } := by
  have nit : ∀ b u, H b = some u → b ≠ it := fun b u e z => by rw [z, hn] at e; cases e
  refine I.step (g' := s.gens) (d' := s.drawn) (ch := [it]) (fun b hb => ?_) (fun b o _ _ hc e _ => k b o (fun z => hc (by simp [z])) e) (fun b o _ _ hc e _ => ⟨o.slots, k b o (fun z => hc (by simp [z])) e⟩) (fun _ _ _ _ n => n)
    (fun b o hc e => ⟨o, k b o (fun z => hc (by simp [z])) e⟩) (fun _ _ e => e) (fun _ _ _ e => e) (fun b ps e => ⟨#[], by rw [e]; simp⟩) (fun m hm => ?_) (fun b u e => ?_) I.bare
  · have e : b = it := by simpa using hb
    subst e
    exact ⟨h1, hL, h2, h3⟩
  · obtain ⟨o, es, ep, ho, r⟩ := hm
    exact ⟨o, es, ep, k _ o (Ne.symm hL) ho, r⟩
  · refine (I.hok b u e).stay (fun c v hc q => k c v ?_ q) (fun _ q => q) fun _ _ q => q
    rcases hc with z | z
    · rw [z]; exact nit b u e
    · exact nit c _ z
theorem Inv.tok (I : Inv X pins σ H s) (t : Nat) : Inv X pins σ H { s with toks := t } := I.un (h' := s.heap) (t' := t) Un.refl I.hok
/-- all objects kept -/
theorem Inv.kept {t' : Nat} (I : Inv X pins σ H s) (k : ∀ b u, s.heap.get? b = some u → h'.get? b = some u) : Inv X pins σ H { s with heap := h', toks := t' } := I.un (Un.kept k) (I.hok.kept k)
/-- a new object laid and tracked -/
theorem Inv.laid {a : Addr} {o : HO} {t' : Nat} (I : Inv X pins σ H s) (k : ∀ b u, s.heap.get? b = some u → h'.get? b = some u) (hp : s.heap.objs.size ≤ a) (new : ObjOk X.prog X.w (upd H a o) h' a o) :
    Inv X pins σ (upd H a o) { s with heap := h', toks := t' } := I.un (Un.laid k hp (I.hok.fresh hp)) (I.hok.laid k hp new)
/-- an object written -/
theorem Inv.write {x e : Addr} {o : HO} {t' : Nat} (I : Inv X pins σ H s) (mu : Mut (H x)) (he : e = x ∨ H e = some (.own x)) (k : ∀ b u, b ≠ e → s.heap.get? b = some u → h'.get? b = some u) (heo : ∃ u, h'.get? e = some u)
    (new : ObjOk X.prog X.w (upd H x o) h' x o) : Inv X pins σ (upd H x o) { s with heap := h', toks := t' } := I.un (Un.write mu he k heo) (I.hok.write mu he k heo new)
theorem Inv.pins_of {pins' : List (Addr × Obj)} (I : Inv X pins σ H s) (h : ∀ p ∈ pins', s.heap.get? p.1 = some p.2 ∧ H p.1 = none ∧ p.1 ≠ X.env.locals ∧ p.1 ∉ X.fs ∧ ∀ v, p.2.data ≠ .cell v) : Inv X pins' σ H s :=
  ⟨I.ok, I.os, I.bare, I.base, I.loc, I.cell, I.free, I.freeC, fun p hp => (List.mem_append.mp hp).elim (fun z => I.pin p (List.mem_append_left _ z)) (h p), I.hok, I.len⟩
theorem nodup_ix {N : List Str} (hN : N.Nodup) {i j : Nat} {x : Str} (a : N[i]? = some x) (b : N[j]? = some x) : i = j := by
  obtain ⟨h1, e1⟩ := List.getElem?_eq_some_iff.mp a
  obtain ⟨h2, e2⟩ := List.getElem?_eq_some_iff.mp b
  exact (List.getElem_inj hN).mp (e1.trans e2.symm)
/-- a name is stored; what changed -/
theorem store_ok2 {M : Model} {A : Around} {E : Value → Shared → Prop} {i : Nat} {x : Str} {v : V} {u : Value} {Q : Unit → Shared → Prop} (I : Inv X pins σ H s) (hN : X.N.Nodup) (hi : X.N[i]? = some x) (hx : Loc X.env.scope x) (r : RelV v u)
    (h : ∀ s', Inv X pins (σ.set i (some v)) H s' → (∃ a, Heap.SameBut a s.heap s'.heap ∧ (a = X.env.locals ∨ X.env.cells.lookup x = some a)) → Q () s') (hf : X.fn x = true ∨ X.env.scope.names.lookup x = some .local := by first | exact .inl rfl | exact .inr rfl | assumption) : wpAny M A (storeName X.env x u) Q E s := by
  obtain ⟨m, hn, hl⟩ := id I.loc
  have hcls : (X.env.scope.kind == .class || (X.env.scope.kind == .module && X.env.locals != X.env.globals)) = false := by rw [I.ok.kind]; rfl
  have hiσ : i < σ.length := by rw [I.len]; exact (List.getElem?_eq_some_iff.mp hi).1
  have cne := I.cne
  have tracked : ∀ {a : Addr} {h' : Heap}, (∃ o, s.heap.get? a = some o ∧ H a = none) → Heap.SameBut a s.heap h' → HOk X.prog X.w H h' := fun {a h'} ha hs b ob e => by
    obtain ⟨_, _, hfree⟩ := ha
    refine (I.hok b ob e).stay (fun c w' hc q => (hs.2 c ?_).trans q) (fun _ q => q) fun _ _ q => q
    rintro rfl
    rcases hc with rfl | hc
    · rw [hfree] at e; cases e
    · rw [hfree] at hc; cases hc
  rcases hx with hk | hk
  · refine wpAny_storeName_local hk hn (fun h' hn' hs => ?_) hcls
    obtain ⟨oL, _, _, hoL, _⟩ := id hn
    refine h _ ⟨I.ok, I.os, I.bare, ⟨fun b o e n hb hx => ?_, fun b o e n hb hx => ?_, I.base.free, fun b o e hx => ?_, I.base.tups, I.base.frzs, I.base.tbls⟩, ⟨_, hn', fun j y v' e1 e2 e3 => ?_⟩, fun y c e => ?_, I.free, I.freeC, fun p hp => ?_, tracked ⟨oL, hoL, I.free⟩ hs, by simpa using I.len⟩ ⟨_, hs, .inl rfl⟩
    · exact (hs.2 b (Nat.ne_of_lt (Nat.lt_of_lt_of_le (Heap.lt_size e) I.ok.above))).trans (I.base.keep b o e n hb hx)
    · obtain ⟨sl, e1⟩ := I.base.slot b o e n hb hx
      exact ⟨sl, (hs.2 b (Nat.ne_of_lt (Nat.lt_of_lt_of_le (Heap.lt_size e) I.ok.above))).trans e1⟩
    · obtain ⟨o', e1⟩ := I.base.there b o e hx
      exact ⟨o', (hs.2 b (Nat.ne_of_lt (Nat.lt_of_lt_of_le (Heap.lt_size e) I.ok.above))).trans e1⟩
    · by_cases hj : j = i
      · subst hj
        rw [hi] at e1; cases e1
        rw [List.getElem?_set_self hiσ] at e2
        cases e2
        exact ⟨u, r, .inl ⟨hk, by simp⟩⟩
      · rw [List.getElem?_set_ne (Ne.symm hj)] at e2
        obtain ⟨u', r', q⟩ := hl j y v' e1 e2 e3
        refine ⟨u', r', ?_⟩
        rcases q with ⟨k, e⟩ | ⟨k, c, e, z⟩
        · refine .inl ⟨k, ?_⟩
          have : y ≠ x := fun e => hj (nodup_ix hN e1 (e ▸ hi))
          simp [this, e]
        · exact .inr ⟨k, c, e, z.sameBut hs (cne y c e)⟩
    · obtain ⟨w', z⟩ := I.cell y c e
      exact ⟨w', z.sameBut hs (cne y c e)⟩
    · obtain ⟨e, n, ne, nf, d⟩ := I.pin p hp
      exact ⟨(hs.2 p.1 ne).trans e, n, ne, nf, d⟩
  · have hfn : X.fn x = true := by
      rcases hf with z | z
      · exact z
      · rw [z] at hk; cases hk
    obtain ⟨c, hc⟩ := I.ok.has x (.inl hk)
    obtain ⟨w', z⟩ := I.cell x c hc
    refine wpAny_storeName_cell I.ok.kind hk hc z (fun h' hc' hs => ?_)
    obtain ⟨oc, hoc, hocd⟩ := id z
    refine h { s with heap := h' } ⟨I.ok, I.os, I.bare, ⟨fun b o e n hb hx => ?_, fun b o e n hb hx => ?_, I.base.free, fun b o e hx => ?_, I.base.tups, I.base.frzs, I.base.tbls⟩, ⟨m, hn.sameBut hs (Ne.symm (cne x c hc)), fun j y v' e1 e2 e3 => ?_⟩, fun y c' e => ?_, I.free, I.freeC, fun p hp => ?_, tracked ⟨oc, hoc, I.freeC x c hc⟩ hs, by simpa using I.len⟩ ⟨c, hs, .inr hc⟩
    · exact (hs.2 b (Nat.ne_of_lt (Nat.lt_of_lt_of_le (Heap.lt_size e) (I.ok.cab x c hfn hc)))).trans (I.base.keep b o e n hb hx)
    · obtain ⟨sl, e1⟩ := I.base.slot b o e n hb hx
      exact ⟨sl, (hs.2 b (Nat.ne_of_lt (Nat.lt_of_lt_of_le (Heap.lt_size e) (I.ok.cab x c hfn hc)))).trans e1⟩
    · obtain ⟨o', e1⟩ := I.base.there b o e hx
      exact ⟨o', (hs.2 b (Nat.ne_of_lt (Nat.lt_of_lt_of_le (Heap.lt_size e) (I.ok.cab x c hfn hc)))).trans e1⟩
    · by_cases hj : j = i
      · subst hj
        rw [hi] at e1; cases e1
        rw [List.getElem?_set_self hiσ] at e2
        cases e2
        exact ⟨u, r, .inr ⟨.inl hk, c, hc, hc'⟩⟩
      · rw [List.getElem?_set_ne (Ne.symm hj)] at e2
        obtain ⟨u', r', q⟩ := hl j y v' e1 e2 e3
        refine ⟨u', r', ?_⟩
        rcases q with q | ⟨k, c', e, z'⟩
        · exact .inl q
        · refine .inr ⟨k, c', e, z'.sameBut hs ?_⟩
          rintro rfl
          exact hj (nodup_ix hN e1 (I.ok.inj _ _ _ e hc ▸ hi))
    · by_cases hcc : c' = c
      · subst hcc; exact ⟨_, hc'⟩
      · obtain ⟨w2, z2⟩ := I.cell y c' e
        exact ⟨w2, z2.sameBut hs hcc⟩
    · obtain ⟨e, n, ne, nf, d⟩ := I.pin p hp
      refine ⟨(hs.2 p.1 ?_).trans e, n, ne, nf, d⟩
      intro q
      rw [q, hoc] at e
      have q' : oc = p.2 := Option.some.inj e
      exact d w' (by rw [← q']; exact hocd)
theorem store_ok {M : Model} {A : Around} {E : Value → Shared → Prop} {i : Nat} {x : Str} {v : V} {u : Value} {Q : Unit → Shared → Prop} (I : Inv X pins σ H s) (hN : X.N.Nodup) (hi : X.N[i]? = some x) (hx : Loc X.env.scope x) (r : RelV v u)
    (h : ∀ s', Inv X pins (σ.set i (some v)) H s' → Q () s') (hf : X.fn x = true ∨ X.env.scope.names.lookup x = some .local := by first | exact .inl rfl | exact .inr rfl | assumption) : wpAny M A (storeName X.env x u) Q E s :=
  store_ok2 I hN hi hx r (fun s' I' _ => h s' I') hf
/-- behind a call or a block, the state as it is -/
theorem Inv.call' {s' : Shared} {ch : List Addr} (I : Inv X pins σ H s) (ho : s'.os = s.os) (u : Un (frs X.stack) ch H H' s.heap s'.heap) (hok : HOk X.prog X.w H' s'.heap) (hg : AllBare s'.gens)
    (hch : ∀ b ∈ ch, (b ∈ X.ex ∨ X.s₀.heap.objs.size ≤ b) ∧ b ≠ X.env.locals ∧ (∀ x c, X.env.cells.lookup x = some c → c ≠ b) ∧ ∀ p ∈ X.pn ++ pins, p.1 ≠ b) : Inv X pins σ H' s' := by
  obtain ⟨h', g', d', t', o'⟩ := s'
  have e : o' = s.os := ho
  subst e
  exact I.call (g' := g') (t' := t') (d' := d') u hok hg hch
end
/-- an exception: its class, its own dict's address (where it has one), the abstract heap behind it -/
abbrev XK := Value → Option Addr → Hp → Prop
abbrev St := List (Option V)
abbrev VK := V → Hp → Prop
/-- an expression's reading; a test's; an argument list's -/
abbrev TE := St → Hp → VK → Prop
abbrev TT := St → Hp → (Bool → Hp → Prop) → Prop
abbrev TA := St → Hp → (List V → Hp → Prop) → Prop
/-- what is wanted behind a statement -/
structure Ends where
  nx : St → Hp → Prop
  rt : VK
  bk : St → Hp → Prop := fun _ _ => False
  ct : St → Hp → Prop := fun _ _ => False
abbrev TS := Ends → St → Hp → Prop
def EP (X : Cx) (pins : List (Addr × Obj)) (σ : St) (Q : VK) (u : Value) (s' : Shared) : Prop := ∃ v H', Inv X pins σ H' s' ∧ RelV v u ∧ Q v H'
def TP (X : Cx) (pins : List (Addr × Obj)) (σ : St) (Q : Bool → Hp → Prop) (b : Bool) (s' : Shared) : Prop := ∃ H', Inv X pins σ H' s' ∧ Q b H'
def AP (X : Cx) (pins : List (Addr × Obj)) (σ : St) (Q : List V → Hp → Prop) (us : List Value) (s' : Shared) : Prop := ∃ vs H', Inv X pins σ H' s' ∧ Vals vs us ∧ Q vs H'
def SP (X : Cx) (pins : List (Addr × Obj)) (D : Ends) (f : Flow) (s' : Shared) : Prop :=
  match f with
  | .next => ∃ σ' H', Inv X pins σ' H' s' ∧ D.nx σ' H'
  | .brk => ∃ σ' H', Inv X pins σ' H' s' ∧ D.bk σ' H'
  | .cont => ∃ σ' H', Inv X pins σ' H' s' ∧ D.ct σ' H'
  | .ret u => ∃ v σ' H', Inv X pins σ' H' s' ∧ RelV v u ∧ D.rt v H'
def PE (X : Cx) (e : Expr) (t : TE) : Prop :=
  ∀ (pins : List (Addr × Obj)) (s : Shared) (σ : St) (H : Hp) (Q : VK), Inv X pins σ H s → t σ H Q → wpAny (model X.prog X.w) X.A (eval e X.env) (EP X pins σ Q) X.xe s
def PT (X : Cx) (e : Expr) (t : TT) : Prop :=
  ∀ (pins : List (Addr × Obj)) (s : Shared) (σ : St) (H : Hp) (Q : Bool → Hp → Prop), Inv X pins σ H s → t σ H Q → wpAny (model X.prog X.w) X.A (isTrue e X.env (eval e X.env)) (TP X pins σ Q) X.xe s
/-- a test whatever its 'whole' is (and, or) -/
def PW (X : Cx) (e : Expr) (t : TT) : Prop :=
  ∀ (whole : Sem Value) (pins : List (Addr × Obj)) (s : Shared) (σ : St) (H : Hp) (Q : Bool → Hp → Prop), Inv X pins σ H s → t σ H Q → wpAny (model X.prog X.w) X.A (isTrue e X.env whole) (TP X pins σ Q) X.xe s
theorem PW.pt {X : Cx} {e : Expr} {t : TT} (h : PW X e t) : PT X e t := h _
/-- an argument list (no star), from the left -/
def PA (X : Cx) (es : List Expr) (t : TA) : Prop :=
  ∀ (pos : Pos) (pins : List (Addr × Obj)) (s : Shared) (σ : St) (H : Hp) (Q : List V → Hp → Prop), Inv X pins σ H s → t σ H Q → wpAny (model X.prog X.w) X.A (spliced (backTo pos (starEach es X.env))) (AP X pins σ Q) X.xe s
def PS (X : Cx) (st : Stmt) (t : TS) : Prop :=
  ∀ (pins : List (Addr × Obj)) (s : Shared) (σ : St) (H : Hp) (D : Ends), Inv X pins σ H s → t D σ H → wpAny (model X.prog X.w) X.A (exec st X.env) (SP X pins D) X.xe s
def PSs (X : Cx) (st : List Stmt) (t : TS) : Prop :=
  ∀ (pins : List (Addr × Obj)) (s : Shared) (σ : St) (H : Hp) (D : Ends), Inv X pins σ H s → t D σ H → wpAny (model X.prog X.w) X.A (execs st X.env) (SP X pins D) X.xe s
/-- weaken the end -/
theorem thn {α : Type} {t : Sem α} {Q Q' : α → Shared → Prop} {M : Model} {A : Around} {E : Value → Shared → Prop} {s : Shared} (h : wpAny M A t Q E s) (hQ : ∀ a s, Q a s → Q' a s) : wpAny M A t Q' E s := wpAny_mono h hQ fun _ _ x => x
end L2
namespace L2
open PySem PySem.Spec PyProof.Rows
section
variable {X : Cx}
def tVar (i : Nat) : TE := fun σ H Q => ∃ v, σ[i]? = some (some v) ∧ Q v H
def tC (v : V) : TE := fun _ H Q => Q v H
theorem pe_var {i : Nat} {x : Str} {pos : Pos} (hN : X.N[i]? = some x) (hv : Vis X.env.scope x) (hd : (x == ("__debug__" : Str)) = false := by decide) (hcd : (x == ("__classdict__" : Str)) = false := by decide) : PE X (.Name x pos) (tVar i) := by
  intro pins s σ H Q I h
  obtain ⟨v, e, h⟩ := h
  obtain ⟨m, hn, hl⟩ := I.loc
  obtain ⟨u, r, l⟩ := hl i x v hN e hv
  have fin : EP X pins σ Q u s := ⟨v, H, I, r, h⟩
  rcases l with ⟨hk, hm⟩ | ⟨hk, c, hc, hcell⟩
  · exact wpAny_Name (wpAny_loadName_local I.ok.kind hk hn hm fin) hd
  · rcases hk with hk | hk
    · exact wpAny_Name (wpAny_loadName_cell I.ok.kind hk hc hcell fin) hd
    · exact wpAny_Name (wpAny_loadName_free I.ok.kind hk hc hcell fin hcd) hd
theorem pe_int {i j pos} : PE X (.Constant (.int i) j pos) (tC (.int i)) := fun _ _ _ H _ I h => wpAny_Constant_int ⟨.int i, H, I.tok _, ⟨_, rfl⟩, h⟩
theorem pe_bl {b j pos} : PE X (.Constant (.bool b) j pos) (tC (.bl b)) := fun _ _ _ H _ I h => Constant_bool ⟨.bl b, H, I, rfl, h⟩
theorem pe_non {j pos} : PE X (.Constant .none j pos) (tC .non) := fun _ _ _ H _ I h => Constant_none ⟨.non, H, I, rfl, h⟩
theorem pe_str {x j pos} : PE X (.Constant (.str x) j pos) (tC (.str x)) := fun _ _ _ H _ I h => Calls.Constant_str ⟨.str x, H, I.tok _, ⟨_, rfl⟩, h⟩
/-- a global name of the def -/
def Gl (X : Cx) (x : Str) : Prop := X.env.kindOf x = some .globalImplicit
theorem ld_glob {E : Value → Shared → Prop} {pins : List (Addr × Obj)} {s : Shared} {σ : St} {H : Hp} {x : Str} {u : Value} {pos : Pos} {Q : Value → Shared → Prop} (I : Inv X pins σ H s) (hg : Gl X x) (hm : X.mg x = some u) (h : Q u s)
    (hd : (x == ("__debug__" : Str)) = false := by decide) : wpAny (model X.prog X.w) X.A (eval (.Name x pos) X.env) Q E s :=
  Calls.Name_function_global I.ok.kind hg (Calls.loadGlobal_global (by rw [I.ok.glob]; exact I.mod.glob.keeps I.bk) hm h) hd
theorem ld_blt {E : Value → Shared → Prop} {pins : List (Addr × Obj)} {s : Shared} {σ : St} {H : Hp} {x : Str} {u : Value} {pos : Pos} {Q : Value → Shared → Prop} (I : Inv X pins σ H s) (hg : Gl X x) (hm : X.mg x = none) (hv : bootBuiltins x = some u) (h : Q u s)
    (hn : x ≠ "__name__" := by decide) (hd : (x == ("__debug__" : Str)) = false := by decide) : wpAny (model X.prog X.w) X.A (eval (.Name x pos) X.env) Q E s := by
  obtain ⟨mb, h1, h2⟩ := I.mod.blt
  exact Calls.Name_function_global I.ok.kind hg (Calls.loadGlobal_builtin (by rw [I.ok.glob]; exact I.mod.glob.keeps I.bk) hm (by rw [I.ok.blt]; exact h1.keeps I.bk) ((h2 x hn).trans hv) h) hd
/-- a module's constant, a class, a function, as a value -/
theorem pe_glob {x : Str} {v : V} {u : Value} {pos : Pos} (hg : Gl X x) (hm : X.mg x = some u) (r : RelV v u) (hd : (x == ("__debug__" : Str)) = false := by decide) : PE X (.Name x pos) (tC v) :=
  fun _ _ _ H _ I h => ld_glob I hg hm ⟨v, H, I, r, h⟩ hd
theorem pe_bltn {x : Str} {v : V} {u : Value} {pos : Pos} (hg : Gl X x) (hm : X.mg x = none) (hv : bootBuiltins x = some u) (r : RelV v u) (hn : x ≠ "__name__" := by decide) (hd : (x == ("__debug__" : Str)) = false := by decide) : PE X (.Name x pos) (tC v) :=
  fun _ _ _ H _ I h => ld_blt I hg hm hv ⟨v, H, I, r, h⟩ hn hd
variable {a b : Expr} {ta tb : TE} {pos : Pos}
/-- a comparison as a value, as a test -/
def tB (t : TE) : TT := fun σ H Q => t σ H fun x H1 => ∃ c, x = .bl c ∧ Q c H1
/-- an expression whose value is a bool, as a test -/
theorem pt_val {e : Expr} {t : TE} (h : PE X e t) (he : ∀ whole, isTrue e X.env whole = (do let v ← whole; standAt e.pos; holding [v] (truthy v)) := by intro _; rfl) : PT X e (tB t) := by
  intro pins s σ H Q I hw
  refine isTrue_plain (thn (h pins s σ H _ I hw) fun v s1 ⟨x, H1, I1, r1, q1⟩ => ?_) (he _)
  obtain ⟨d, rfl, q⟩ := q1
  cases r1
  exact wpAny_truthy_bool ⟨H1, I1, q⟩
variable {tA tB' : TT} {rest : List Expr}
def tAnd (t u : TT) : TT := fun σ H Q => t σ H fun c H1 => if c = true then u σ H1 Q else Q false H1
def tOr (t u : TT) : TT := fun σ H Q => t σ H fun c H1 => if c = true then Q true H1 else u σ H1 Q
def tNot (t : TT) : TT := fun σ H Q => t σ H fun c H1 => Q (!c) H1
theorem pw_and1 (ha : PT X a tA) : PW X (.BoolOp .And [a] pos) tA := by
  intro wh pins s σ H Q I h
  refine isTrue_and (thn (ha pins s σ H Q I h) fun c s1 e => ?_)
  cases c with
  | true => exact isTrue_and_nil e
  | false => exact e
theorem pw_or1 (ha : PT X a tA) : PW X (.BoolOp .Or [a] pos) tA := by
  intro wh pins s σ H Q I h
  refine isTrue_or (thn (ha pins s σ H Q I h) fun c s1 e => ?_)
  cases c with
  | false => exact isTrue_or_nil e
  | true => exact e
theorem pw_and (ha : PT X a tA) (hb : PW X (.BoolOp .And (b :: rest) pos) tB') : PW X (.BoolOp .And (a :: b :: rest) pos) (tAnd tA tB') := by
  intro wh pins s σ H Q I h
  refine isTrue_and (thn (ha pins s σ H _ I h) fun c s1 ⟨H1, I1, q1⟩ => ?_)
  cases c with
  | true => exact hb wh pins s1 σ H1 Q I1 q1
  | false => exact ⟨H1, I1, q1⟩
theorem pw_or (ha : PT X a tA) (hb : PW X (.BoolOp .Or (b :: rest) pos) tB') : PW X (.BoolOp .Or (a :: b :: rest) pos) (tOr tA tB') := by
  intro wh pins s σ H Q I h
  refine isTrue_or (thn (ha pins s σ H _ I h) fun c s1 ⟨H1, I1, q1⟩ => ?_)
  cases c with
  | true => exact ⟨H1, I1, q1⟩
  | false => exact hb wh pins s1 σ H1 Q I1 q1
theorem pt_not (ha : PT X a tA) : PT X (.UnaryOp .Not a pos) (tNot tA) := by
  intro pins s σ H Q I h
  exact isTrue_not (ha pins s σ H (fun c H1 => Q (!c) H1) I h)
/-- .. as values (bools) -/
def tAndV (ta tb : TE) : TE := fun σ H Q => ta σ H fun x H1 => ∃ c, x = .bl c ∧ if c = true then tb σ H1 Q else Q (.bl false) H1
def tOrV (ta tb : TE) : TE := fun σ H Q => ta σ H fun x H1 => ∃ c, x = .bl c ∧ if c = true then Q (.bl true) H1 else tb σ H1 Q
def tNotV (ta : TE) : TE := fun σ H Q => ta σ H fun x H1 => ∃ c, x = .bl c ∧ Q (.bl (!c)) H1
theorem pe_one {op} {t : TE} (h : PE X a t) : PE X (.BoolOp op [a] pos) t := fun pins s σ H Q I hw => BoolOp_one (h pins s σ H Q I hw)
theorem pe_and (ha : PE X a ta) (hb : PE X (.BoolOp .And (b :: rest) pos) tb) : PE X (.BoolOp .And (a :: b :: rest) pos) (tAndV ta tb) := by
  intro pins s σ H Q I h
  refine BoolOp_and (thn (ha pins s σ H _ I h) fun v s1 ⟨x, H1, I1, r1, q1⟩ => ?_)
  obtain ⟨c, rfl, q1⟩ := q1
  cases r1
  refine wpAny_truthy_bool ?_
  cases c with
  | true => exact hb pins s1 σ H1 Q I1 q1
  | false => exact ⟨.bl false, H1, I1, rfl, q1⟩
theorem pe_or (ha : PE X a ta) (hb : PE X (.BoolOp .Or (b :: rest) pos) tb) : PE X (.BoolOp .Or (a :: b :: rest) pos) (tOrV ta tb) := by
  intro pins s σ H Q I h
  refine BoolOp_or (thn (ha pins s σ H _ I h) fun v s1 ⟨x, H1, I1, r1, q1⟩ => ?_)
  obtain ⟨c, rfl, q1⟩ := q1
  cases r1
  refine wpAny_truthy_bool ?_
  cases c with
  | false => exact hb pins s1 σ H1 Q I1 q1
  | true => exact ⟨.bl true, H1, I1, rfl, q1⟩
theorem pe_not (ha : PE X a ta) : PE X (.UnaryOp .Not a pos) (tNotV ta) := by
  intro pins s σ H Q I h
  refine UnaryOp_ (thn (ha pins s σ H _ I h) fun v s1 ⟨x, H1, I1, r1, q1⟩ => ?_)
  obtain ⟨c, rfl, q1⟩ := q1
  cases r1
  exact not_of (wpAny_truthy_bool ⟨.bl (!c), H1, I1, rfl, q1⟩)
/-- a if t else b -/
def tIf (t : TT) (ta tb : TE) : TE := fun σ H Q => t σ H fun c H1 => if c = true then ta σ H1 Q else tb σ H1 Q
theorem pe_ifExp {c : Expr} (hc : PT X c tA) (ha : PE X a ta) (hb : PE X b tb) : PE X (.IfExp c a b pos) (tIf tA ta tb) := by
  intro pins s σ H Q I h
  refine wpAny_IfExp (thn (hc pins s σ H _ I h) fun d s1 ⟨H1, I1, q1⟩ => ?_)
  cases d with
  | true => exact ha pins s1 σ H1 Q I1 q1
  | false => exact hb pins s1 σ H1 Q I1 q1
end
end L2
namespace L2
open PySem PySem.Spec PyProof.Rows
def SqL (K : PySem.W.Frag) (H : Hp) (a : Addr) (xs : List V) : Prop :=
  Rd H a (.lst xs) ∨
    ∃ (o : Obj) (its : Array Value) (n : Nat), K.lookup a = some o ∧ o.cls = .type "list" ∧ o.dict = none ∧ o.data = .seq its n ∧ its.size ≤ sizeLine ∧ Vals xs its.toList
def SqT (K : PySem.W.Frag) (H : Hp) (a : Addr) (xs : List V) : Prop :=
  Rd H a (.tup xs) ∨
    ∃ (o : Obj) (its : Array Value) (n : Nat), K.lookup a = some o ∧ o.cls = .type "tuple" ∧ o.data = .seq its n ∧ its.size ≤ sizeLine ∧ Vals xs its.toList
def absV : Value → Option V
  | .none => some .non
  | .bool b => some (.bl b)
  | .int i _ => some (.int i)
  | .str x _ => some (.str x)
  | .bytes b _ => some (.byt b)
  | .float b _ => some (.flt b)
  | .ref a => some (.ref a)
  | .type n => some (.ty n)
  | _ => none
theorem RelV.abs {x : V} {u : Value} (r : RelV x u) : absV u = some x := by
  cases x with
  | non => cases r; rfl
  | bl _ => cases r; rfl
  | int _ => obtain ⟨t, rfl⟩ := r; rfl
  | str _ => obtain ⟨t, rfl⟩ := r; rfl
  | byt _ => obtain ⟨t, rfl⟩ := r; rfl
  | flt _ => obtain ⟨t, rfl⟩ := r; rfl
  | ref _ => cases r; rfl
  | ty _ => cases r; rfl
theorem RelV.inj {x y : V} {u : Value} (r : RelV x u) (q : RelV y u) : x = y := Option.some.inj (r.abs.symm.trans q.abs)
theorem Vals.inj : ∀ {xs ys : List V} {us : List Value}, Vals xs us → Vals ys us → xs = ys
  | _, _, _, .nil, .nil => rfl
  | _, _, _, .cons r t, .cons r' t' => by rw [r.inj r', Vals.inj t t']
section
variable {X : Cx} {pins : List (Addr × Obj)} {σ : St} {H : Hp} {s : Shared} {a : Addr} {xs ys : List V}
theorem SqL.of {K : PySem.W.Frag} (h : H a = some (.lst xs)) : SqL K H a xs := .inl (.inl h)
theorem SqT.of {K : PySem.W.Frag} (h : H a = some (.tup xs)) : SqT K H a xs := .inl (.inl h)
theorem Inv.list (I : Inv X pins σ H s) (h : SqL X.K H a xs) : ∃ its : List Value, Vals xs its ∧ PlainL s.heap a its.toArray ∧ xs.length ≤ sizeLine := by
  rcases h with h | ⟨o, its, n, hk, hc, hd, hs, hz, r⟩
  · obtain ⟨z, its, n, r, e⟩ := h.ok I.hok
    exact ⟨its, r, ⟨_, n, e, rfl, rfl, rfl⟩, z⟩
  · refine ⟨its.toList, r, ⟨o, n, I.kIn a o hk, hc, hd, by simpa using hs⟩, ?_⟩
    have e := r.length
    simp only [Array.length_toList] at e
    omega
theorem Inv.tuple (I : Inv X pins σ H s) (h : SqT X.K H a xs) : ∃ its : List Value, Vals xs its ∧ IsTup s.heap a its.toArray ∧ xs.length ≤ sizeLine := by
  rcases h with h | ⟨o, its, n, hk, hc, hs, hz, r⟩
  · obtain ⟨z, its, r, p⟩ := h.ok I.hok
    exact ⟨its, r, p, z⟩
  · refine ⟨its.toList, r, ⟨o, I.kIn a o hk, hc, n, by simpa using hs⟩, ?_⟩
    have e := r.length
    simp only [Array.length_toList] at e
    omega
theorem Inv.list_inj (I : Inv X pins σ H s) (h : SqL X.K H a xs) (h' : SqL X.K H a ys) : xs = ys := by
  obtain ⟨its, r, ⟨o, n, e, _, _, d⟩, _⟩ := I.list h
  obtain ⟨its', r', ⟨o', n', e', _, _, d'⟩, _⟩ := I.list h'
  rw [e] at e'; cases e'
  rw [d] at d'
  injection d' with d1 _
  have : its = its' := by simpa using congrArg Array.toList d1
  subst this
  exact r.inj r'
end
abbrev Cx.wish (X : Cx) (E : Value → Shared → Prop) : Cx := { X with xe := E }
/-- no exception leaves -/
abbrev Cx.nox (X : Cx) : Cx := X.wish fun _ _ => False
theorem Cx.Ok.wish {X : Cx} (ok : X.Ok) (E : Value → Shared → Prop) : (X.wish E).Ok :=
  ⟨ok.mod, ok.kind, ok.glob, ok.blt, ok.above, ok.inj, ok.has, ok.cab, ok.hd, ok.frames, ok.stk, ok.exf, ok.bs, ok.bsz, ok.noex, ok.exfs, ok.funs, ok.frf⟩
theorem Cx.Ok.unwish {X : Cx} {E : Value → Shared → Prop} (ok : (X.wish E).Ok) : X.Ok :=
  ⟨ok.mod, ok.kind, ok.glob, ok.blt, ok.above, ok.inj, ok.has, ok.cab, ok.hd, ok.frames, ok.stk, ok.exf, ok.bs, ok.bsz, ok.noex, ok.exfs, ok.funs, ok.frf⟩
section
variable {X : Cx} {pins : List (Addr × Obj)} {σ : St} {H : Hp} {s : Shared} {E : Value → Shared → Prop}
theorem Inv.wish (I : Inv X pins σ H s) (E : Value → Shared → Prop) : Inv (X.wish E) pins σ H s := ⟨I.ok.wish E, I.os, I.bare, I.base, I.loc, I.cell, I.free, I.freeC, I.pin, I.hok, I.len⟩
theorem Inv.unwish (I : Inv (X.wish E) pins σ H s) : Inv X pins σ H s := ⟨I.ok.unwish, I.os, I.bare, I.base, I.loc, I.cell, I.free, I.freeC, I.pin, I.hok, I.len⟩
theorem SP.unwish {D : Ends} {f : Flow} {s' : Shared} (h : SP (X.wish E) pins D f s') : SP X pins D f s' := by
  cases f with
  | next => obtain ⟨σ', H', I, q⟩ := h; exact ⟨σ', H', I.unwish, q⟩
  | brk => obtain ⟨σ', H', I, q⟩ := h; exact ⟨σ', H', I.unwish, q⟩
  | cont => obtain ⟨σ', H', I, q⟩ := h; exact ⟨σ', H', I.unwish, q⟩
  | ret u => obtain ⟨v, σ', H', I, r, q⟩ := h; exact ⟨v, σ', H', I.unwish, r, q⟩
theorem PE.nox {e : Expr} {t : TE} (h : PE X.nox e t) : PE X e t := fun pins s σ H Q I hw =>
  wpAny_mono (h pins s σ H Q (I.wish _) hw) (fun _ _ ⟨v, H', I', r, q⟩ => ⟨v, H', I'.unwish, r, q⟩) fun _ _ z => False.elim z
theorem PT.nox {e : Expr} {t : TT} (h : PT X.nox e t) : PT X e t := fun pins s σ H Q I hw =>
  wpAny_mono (h pins s σ H Q (I.wish _) hw) (fun _ _ ⟨H', I', q⟩ => ⟨H', I'.unwish, q⟩) fun _ _ z => False.elim z
theorem PSs.nox {st : List Stmt} {t : TS} (h : PSs X.nox st t) : PSs X st t := fun pins s σ H D I hw =>
  wpAny_mono (h pins s σ H D (I.wish _) hw) (fun _ _ q => q.unwish) fun _ _ z => False.elim z
end
section
variable {X : Cx} {st : Stmt} {rest : List Stmt} {t u : TS} {e : Expr} {te : TE} {pos : Pos}
def tNext : TS := fun D σ H => D.nx σ H
def tSeq (t u : TS) : TS := fun D σ H => t { D with nx := u D } σ H
theorem pss_nil : PSs X [] tNext := fun _ _ σ H _ I h => wpAny_execs_nil ⟨σ, H, I, h⟩
theorem pss_cons (h1 : PS X st t) (h2 : PSs X rest u) : PSs X (st :: rest) (tSeq t u) := by
  intro pins s σ H D I h
  refine wpAny_execs_cons (thn (h1 pins s σ H { D with nx := u D } I h) fun f s1 q => ?_)
  cases f with
  | next =>
    obtain ⟨σ', H', I', q⟩ := q
    exact h2 pins s1 σ' H' D I' q
  | ret v => exact q
  | brk => exact q
  | cont => exact q
theorem pss_one (h1 : PS X st t) : PSs X [st] t := by
  intro pins s σ H D I h
  refine wpAny_execs_cons (thn (h1 pins s σ H D I h) fun f s1 q => ?_)
  cases f with
  | next => exact wpAny_execs_nil q
  | ret v => exact q
  | brk => exact q
  | cont => exact q
/-- in a def's body nothing is shown -/
theorem Inv.quiet {pins : List (Addr × Obj)} {σ : St} {H : Hp} {s : Shared} (I : Inv X pins σ H s) : interactive X.env = false := by simp [interactive, I.ok.kind]
/-- an expression whose value is dropped -/
def tDrop (te : TE) : TS := fun D σ H => te σ H fun _ H1 => D.nx σ H1
theorem ps_expr (he : PE X e te) (hs : swapsWith e none pos.line X.env = pure false := by rfl) : PS X (.Expr e pos) (tDrop te) := by
  intro pins s σ H D I h
  exact wpAny_Expr_any (thn (he pins s σ H _ I h) fun v s1 ⟨x, H1, I1, r1, q1⟩ => ⟨σ, H1, I1, q1⟩) I.quiet hs
def tRet (te : TE) : TS := fun D σ H => te σ H D.rt
theorem ps_ret (he : PE X e te) : PS X (.Return (some e) pos) (tRet te) := by
  intro pins s σ H D I h
  exact wpAny_Return_some (thn (he pins s σ H _ I h) fun v s1 ⟨x, H1, I1, r1, q1⟩ => ⟨x, σ, H1, I1, r1, q1⟩)
def tRetN : TS := fun D _ H => D.rt .non H
def tIfS (c : TT) (t u : TS) : TS := fun D σ H => c σ H fun b H1 => if b = true then t D σ H1 else u D σ H1
theorem ps_if {c : Expr} {a b : List Stmt} {tc : TT} (hc : PT X c tc) (ha : PSs X a t) (hb : PSs X b u) : PS X (.If c a b pos) (tIfS tc t u) := by
  intro pins s σ H D I h
  refine wpAny_If (thn (hc pins s σ H _ I h) fun d s1 ⟨H1, I1, q1⟩ => ?_)
  cases d with
  | true => exact ha pins s1 σ H1 D I1 q1
  | false => exact hb pins s1 σ H1 D I1 q1
end
abbrev TG := V → St → Hp → (St → Hp → Prop) → Prop
abbrev TGs := List V → St → Hp → (St → Hp → Prop) → Prop
def PG (X : Cx) (target : Expr) (t : TG) : Prop :=
  ∀ (pins : List (Addr × Obj)) (s : Shared) (σ : St) (H : Hp) (v : V) (u : Value) (Q : St → Hp → Prop), Inv X pins σ H s → RelV v u → t v σ H Q →
    wpAny (model X.prog X.w) X.A (assign target X.env u) (fun _ s' => ∃ σ' H', Inv X pins σ' H' s' ∧ Q σ' H') X.xe s
/-- several targets, one after another -/
def PGs (X : Cx) (ts : List Expr) (t : TGs) : Prop :=
  ∀ (pins : List (Addr × Obj)) (s : Shared) (σ : St) (H : Hp) (vs : List V) (us : List Value) (Q : St → Hp → Prop), Inv X pins σ H s → Vals vs us → t vs σ H Q →
    wpAny (model X.prog X.w) X.A (assignInOrder ((assignEach ts X.env).map (·.2)) us) (fun _ s' => ∃ σ' H', Inv X pins σ' H' s' ∧ Q σ' H') X.xe s
/-- o[i] = v, by values -/
abbrev TSet := V → V → V → Hp → (Hp → Prop) → Prop
def PSet (X : Cx) (t : TSet) : Prop :=
  ∀ (pins : List (Addr × Obj)) (s : Shared) (σ : St) (H : Hp) (o i v : V) (ov iv u : Value) (Q : Hp → Prop), Inv X pins σ H s → RelV o ov → RelV i iv → RelV v u → t o i v H Q →
    wpAny (model X.prog X.w) X.A (setItem ov iv u) (fun _ s' => ∃ H', Inv X pins σ H' s' ∧ Q H') X.xe s
/-- a op= b, by values -/
abbrev TIp := V → V → Hp → VK → Prop
def PIp (X : Cx) (op : Operator) (t : TIp) : Prop :=
  ∀ (pins : List (Addr × Obj)) (s : Shared) (σ : St) (H : Hp) (x y : V) (v u : Value) (Q : VK), Inv X pins σ H s → RelV x v → RelV y u → t x y H Q →
    wpAny (model X.prog X.w) X.A (inplaceOp op v u) (EP X pins σ Q) X.xe s
section
variable {X : Cx} {pos : Pos}
def gName (i : Nat) : TG := fun v σ H Q => Q (σ.set i (some v)) H
theorem pg_name {i : Nat} {x : Str} (hN : X.N.Nodup) (hi : X.N[i]? = some x) (hx : Loc X.env.scope x) (hf : X.fn x = true ∨ X.env.scope.names.lookup x = some .local := by first | exact .inl rfl | exact .inr rfl | assumption) : PG X (.Name x pos) (gName i) := by
  intro pins s σ H v u Q I r h
  exact wpAny_assign_Name (store_ok I hN hi hx r (fun s' I' => ⟨_, H, I', h⟩) hf)
def gNil : TGs := fun vs σ H Q => vs = [] ∧ Q σ H
def gCons (t : TG) (u : TGs) : TGs := fun vs σ H Q => ∃ v r, vs = v :: r ∧ t v σ H fun σ' H' => u r σ' H' Q
theorem pgs_nil : PGs X [] gNil := by
  intro pins s σ H vs us Q I r h
  obtain ⟨e, h⟩ := h
  subst e
  cases r
  exact assignInOrder_nil ⟨σ, H, I, h⟩
theorem pgs_cons {e : Expr} {es : List Expr} {t : TG} {u : TGs} (h1 : PG X e t) (h2 : PGs X es u)
    (hs : (assignEach (e :: es) X.env).map (·.2) = assign e X.env :: (assignEach es X.env).map (·.2) := by rfl) : PGs X (e :: es) (gCons t u) := by
  intro pins s σ H vs us Q I r h
  obtain ⟨v, vr, e1, h⟩ := h
  subst e1
  cases r with
  | cons r rr =>
    rw [hs]
    refine assignInOrder_cons (thn (h1 pins s σ H _ _ _ I r h) fun _ s1 ⟨σ1, H1, I1, q1⟩ => ?_)
    exact h2 pins s1 σ1 H1 _ _ Q I1 rr q1
/-- (a, b, ..) = a tuple of that length -/
def gTup (K : PySem.W.Frag) (n : Nat) (t : TGs) : TG := fun v σ H Q => ∃ a xs, v = .ref a ∧ SqT K H a xs ∧ xs.length = n ∧ t xs σ H Q
theorem pg_tup {es : List Expr} {k : Nat} {t : TGs} {n : Nat} (hc : X.calm = true) (h : PGs X es t)
    (hn : (assignEach es X.env).length = n := by rfl) (hst : (assignEach es X.env).findIdx? (·.1) = none := by rfl) : PG X (.Tuple es k pos) (gTup X.K n t) := by
  intro pins s σ H v u Q I r hw
  obtain ⟨a, xs, e1, hq, hl, hw⟩ := hw
  subst e1
  cases r
  obtain ⟨its, rv, ht, hz⟩ := I.tuple hq
  refine assign_Tuple_tuple (I.ok.hd hc) ht (by simp [hn, ← hl, rv.length]) hst fun h' hx => ?_
  have I1 : Inv X pins σ H { s with heap := h' } := I.kept (t' := s.toks) fun b o e => hx b o (Nat.ne_of_lt (Heap.lt_size e)) e
  exact h pins _ σ H xs _ Q I1 (by simpa using rv) hw
/-- o[i] = .. -/
def gSub (to ti : TE) (t : TSet) : TG := fun v σ H Q => to σ H fun o H1 => ti σ H1 fun i H2 => t o i v H2 fun H3 => Q σ H3
theorem pg_sub {o i : Expr} {to ti : TE} {t : TSet} (ho : PE X o to) (hi : PE X i ti) (hs : PSet X t)
    (ha : ∀ v, assign (.Subscript o i pos) X.env v = (do
      let ov ← holding [v] (eval o X.env)
      let iv ← holding [v, ov] (eval i X.env)
      standAt pos
      holding [v, ov, iv] (setItem ov iv v)
      release [v, ov, iv] []) := by intro _; rfl) : PG X (.Subscript o i pos) (gSub to ti t) := by
  intro pins s σ H v u Q I r h
  rw [ha]
  refine wpAny_bind (wpAny_holding (thn (ho pins s σ H _ I h) fun ov s1 ⟨x, H1, I1, r1, q1⟩ => ?_))
  refine wpAny_bind (wpAny_holding (thn (hi pins s1 σ H1 _ I1 q1) fun iv s2 ⟨y, H2, I2, r2, q2⟩ => ?_))
  refine wpAny_bind (wpAny_standAt (wpAny_bind (wpAny_holding (thn (hs pins s2 σ H2 x y v ov iv u _ I2 r1 r2 r q2) fun _ s3 ⟨H3, I3, q3⟩ => ?_))))
  exact wpAny_release ⟨σ, H3, I3, q3⟩
/-- target = value -/
def tAsg (te : TE) (g : TG) : TS := fun D σ H => te σ H fun x H1 => g x σ H1 D.nx
theorem ps_asg {tg e : Expr} {te : TE} {g : TG} (he : PE X e te) (hg : PG X tg g) (hs : swapsWithSole [tg] e pos.line X.env = pure false := by rfl) (hw : swappedStores [tg] e X.env = pure none := by rfl)
    (h1 : (assignEach [tg] X.env).map (·.2) = [assign tg X.env] := by rfl) : PS X (.Assign [tg] e pos) (tAsg te g) := by
  intro pins s σ H D I h
  refine wpAny_Assign_stores (thn (he pins s σ H _ I h) fun v s1 ⟨x, H1, I1, r1, q1⟩ => ?_) hs hw
  rw [h1]
  exact thn (hg pins s1 σ H1 x v _ I1 r1 q1) fun _ s2 q => q
/-- name = value -/
theorem ps_set {i : Nat} {x : Str} {e : Expr} {te : TE} {pos' : Pos} (hN : X.N.Nodup) (hi : X.N[i]? = some x) (hx : Loc X.env.scope x) (he : PE X e te) (hs : swapsWith e (some (.Name x pos')) pos.line X.env = pure false := by rfl) (hf : X.fn x = true ∨ X.env.scope.names.lookup x = some .local := by first | exact .inl rfl | exact .inr rfl | assumption) :
    PS X (.Assign [.Name x pos'] e pos) (tAsg te (gName i)) := by
  intro pins s σ H D I h
  refine wpAny_Assign_Name (thn (he pins s σ H _ I h) fun v s1 ⟨y, H1, I1, r1, q1⟩ => ?_) hs
  exact store_ok I1 hN hi hx r1 (fun s2 I2 => ⟨_, H1, I2, q1⟩) hf
/-- name op= e -/
def tAug (i : Nat) (te : TE) (ti : TIp) : TS := fun D σ H => ∃ x, σ[i]? = some (some x) ∧ te σ H fun y H1 => ti x y H1 fun z H2 => D.nx (σ.set i (some z)) H2
theorem ps_aug {i : Nat} {x : Str} {e : Expr} {te : TE} {op : Operator} {ti : TIp} {pos' : Pos} (hN : X.N.Nodup) (hi : X.N[i]? = some x) (hx : Loc X.env.scope x) (he : PE X e te) (ho : PIp X op ti) (hf : X.fn x = true ∨ X.env.scope.names.lookup x = some .local := by first | exact .inl rfl | exact .inr rfl | assumption) :
    PS X (.AugAssign (.Name x pos') op e pos) (tAug i te ti) := by
  intro pins s σ H D I h
  obtain ⟨v, e1, h⟩ := h
  obtain ⟨m, hn, hl⟩ := I.loc
  have vis : Vis X.env.scope x := by rcases hx with k | k; exact .inl k; exact .inr (.inl k)
  obtain ⟨u, r, l⟩ := hl i x v hi e1 vis
  refine wpAny_AugAssign_Name ?_
  have go : wpAny (model X.prog X.w) X.A (eval e X.env) (fun w s₂ => wpAny (model X.prog X.w) X.A (inplaceOp op u w) (fun r s₃ => wpAny (model X.prog X.w) X.A (storeName X.env x r) (fun _ => SP X pins D .next) X.xe s₃) X.xe s₂) X.xe s := by
    refine thn (he pins s σ H _ I h) fun w s1 ⟨y, H1, I1, r1, q1⟩ => ?_
    refine thn (ho pins s1 σ H1 v y u w _ I1 r r1 q1) fun z s2 ⟨zv, H2, I2, r2, q2⟩ => ?_
    exact store_ok I2 hN hi hx r2 (fun s3 I3 => ⟨_, H2, I3, q2⟩) hf
  rcases l with ⟨hk, hm⟩ | ⟨hk, c, hc, hcell⟩
  · exact wpAny_loadName_local I.ok.kind hk hn hm go
  · rcases hk with hk | hk
    · exact wpAny_loadName_cell I.ok.kind hk hc hcell go
    · rcases hx with k | k
      · have : X.env.scope.names.lookup x = some .free := hk
        rw [k] at this; cases this
      · have : X.env.scope.names.lookup x = some .free := hk
        rw [k] at this; cases this
/-- ints -/
def ipI (f : Int → Int → Int) : TIp := fun x y H Q => ∃ i j, x = .int i ∧ y = .int j ∧ Q (.int (f i j)) H
theorem ip_add : PIp X .Add (ipI fun i j => i + j) := by
  intro pins s σ H x y v u Q I r1 r2 h
  obtain ⟨i, j, e1, e2, q⟩ := h
  subst e1; subst e2
  obtain ⟨t, rfl⟩ := r1
  obtain ⟨t', rfl⟩ := r2
  exact iadd_int ⟨.int _, H, I.tok _, ⟨_, rfl⟩, q⟩
end
section
variable {X : Cx} {pos : Pos}
/-- the invariant W with its measure -/
def tWhile (c : TT) (tb : TS) : TS := fun D σ H => ∃ W : Nat → St → Hp → Prop, (∃ m, W m σ H) ∧ ∀ m σ H, W m σ H →
  c σ H fun b H1 => if b = true then ∃ N : St → Hp → Prop, (∀ σ' H', N σ' H' → ∃ m', m' < m ∧ W m' σ' H') ∧ tb { D with nx := N, ct := N, bk := D.nx } σ H1 else D.nx σ H1
theorem ps_while {c : Expr} {body : List Stmt} {tc : TT} {tb : TS} (hp : PassesOwn (model X.prog X.w) X.A X.env X.xe) (hc : PT X c tc) (hb : PSs X body tb) : PS X (.While c body [] pos) (tWhile tc tb) := by
  intro pins s σ H D I h
  obtain ⟨W, ⟨m0, w0⟩, turn⟩ := h
  refine wpAny_While (codeAny_whileLoop (fun n s' => ∃ σ' H', Inv X pins σ' H' s' ∧ W n σ' H') ?_ m0 ⟨σ, H, I, w0⟩)
  rintro n s1 ⟨σ1, H1, I1, w1⟩
  refine wpAny_passesOwn hp (thn (hc pins s1 σ1 H1 _ I1 (turn n σ1 H1 w1)) fun b s2 ⟨H2, I2, q2⟩ => ?_)
  cases b with
  | true =>
    obtain ⟨N, hN, q2⟩ := q2
    rw [if_pos rfl]
    refine wpAny_passesOwn hp (thn (hb pins s2 σ1 H2 _ I2 q2) fun f s3 q3 => ?_)
    cases f with
    | next =>
      obtain ⟨σ3, H3, I3, n3⟩ := q3
      obtain ⟨m', hm, w3⟩ := hN σ3 H3 n3
      exact ⟨m', hm, σ3, H3, I3, w3⟩
    | cont =>
      obtain ⟨σ3, H3, I3, n3⟩ := q3
      obtain ⟨m', hm, w3⟩ := hN σ3 H3 n3
      exact ⟨m', hm, σ3, H3, I3, w3⟩
    | brk => exact q3
    | ret v => exact q3
  | false =>
    rw [if_neg Bool.false_ne_true]
    exact wpAny_execs_nil ⟨σ1, H2, I2, q2⟩
end
/-- at turn i: it yields x (the heap may grow), or it stops -/
structure It where
  go : Nat → Hp → Prop
  yld : Nat → Hp → V → Hp → Prop
  stop : Nat → Hp → Prop
/-- the iterator's own objects may turn: they are not the frame's, not pinned, younger than the entry (or a comprehension's own) -/
def FpOk (X : Cx) (pins : List (Addr × Obj)) (H : Hp) (b : Addr) : Prop :=
  H b = none ∧ b ≠ X.env.locals ∧ b ∉ X.fs ∧ (b ∈ X.ex ∨ X.s₀.heap.objs.size ≤ b) ∧ (∀ x c, X.env.cells.lookup x = some c → c ≠ b) ∧ ∀ p ∈ X.pn ++ pins, p.1 ≠ b
theorem Inv.fpOk {X : Cx} {pins : List (Addr × Obj)} {σ : St} {H H' : Hp} {s : Shared} {b : Addr} (I : Inv X pins σ H s) (hb : s.heap.objs.size ≤ b) (hn : H' b = none) : FpOk X pins H' b := by
  refine ⟨hn, Nat.ne_of_gt (Nat.lt_of_lt_of_le I.lt hb), I.nofs hb, .inr (Nat.le_trans I.sz hb), fun x c e z => ?_, fun p hp z => ?_⟩
  · obtain ⟨v, q⟩ := I.cell x c e
    exact absurd (Nat.lt_of_lt_of_le q.lt (by rw [z]; exact hb)) (Nat.lt_irrefl _)
  · exact absurd (Nat.lt_of_lt_of_le (Heap.lt_size (I.pin p hp).1) (by rw [z]; exact hb)) (Nat.lt_irrefl _)
structure Turn (P : Program) (w : World) (K : PySem.W.Frag) (tg : Expr) (J : It) (fp : List Addr) (it : Addr) (tn : Nat → Heap → Prop) : Prop where
  mem : it ∈ fp
  obj : ∀ i h, tn i h → ∀ b ∈ fp, ∃ o, h.get? b = some o ∧ ∀ v, o.data ≠ .cell v
  keep : ∀ i h h', tn i h → (∀ b ∈ fp, ∀ o, h.get? b = some o → h'.get? b = some o) → tn i h'
  item : ∀ (X : Cx), X.prog = P → X.w = w → X.K = K → X.calm = true → ∀ (i : Nat) (pins : List (Addr × Obj)) (s : Shared) (σ : St) (H : Hp) (E : Value → Shared → Prop), Inv X pins σ H s → (∀ b ∈ fp, FpOk X pins H b) → tn i s.heap → J.go i H →
    wpAny (model P w) X.A (pyNext (.ref it)) (fun r s1 => ∃ u, r = some u ∧
      wpAny (model P w) X.A (letOwnedTupleGo tg (.ref it) u) (fun _ s2 => ∃ x H', Inv X pins σ H' s2 ∧ RelV x u ∧ J.yld i H x H' ∧ tn (i + 1) s2.heap ∧ ∀ b ∈ fp, H' b = none) E s1) E s
  done : ∀ (X : Cx), X.prog = P → X.w = w → X.K = K → X.calm = true → ∀ (i : Nat) (pins : List (Addr × Obj)) (s : Shared) (σ : St) (H : Hp) (E : Value → Shared → Prop), Inv X pins σ H s → (∀ b ∈ fp, FpOk X pins H b) → tn i s.heap → J.stop i H →
    wpAny (model P w) X.A (pyNext (.ref it)) (fun r s1 => r = none ∧ Inv X pins σ H s1) E s
  self : ∀ (A : Around) (i : Nat) (s : Shared) (Q : Value → Shared → Prop) (E : Value → Shared → Prop), tn i s.heap → Q (.ref it) s → wpAny (model P w) A (pyIter (.ref it)) Q E s
abbrev TI := St → Hp → (It → Hp → Prop) → Prop
/-- an iterator has come -/
def PIE (X : Cx) (pins : List (Addr × Obj)) (σ : St) (tg : Expr) (R : It → Hp → Prop) (itv : Value) (s2 : Shared) : Prop :=
  ∃ (it : Addr) (fp : List Addr) (tn : Nat → Heap → Prop) (J : It) (H' : Hp), itv = .ref it ∧ Inv X pins σ H' s2 ∧ Turn X.prog X.w X.K tg J fp it tn ∧ tn 0 s2.heap ∧ (∀ b ∈ fp, FpOk X pins H' b) ∧ R J H'
def PI (X : Cx) (tg iter : Expr) (wi : TI) : Prop :=
  ∀ (pins : List (Addr × Obj)) (s : Shared) (σ : St) (H : Hp) (R : It → Hp → Prop), Inv X pins σ H s → wi σ H R →
    wpAny (model X.prog X.w) X.A (eval iter X.env) (fun v s1 => wpAny (model X.prog X.w) X.A (pyIter v) (PIE X pins σ tg R) X.xe s1) X.xe s
/-- the step ahead of the store is nothing for an iterator that keeps no tuple -/
theorem go_of {M : Model} {A : Around} {E : Value → Shared → Prop} {s : Shared} {tg : Expr} {it : Addr} {u : Value} {o : Obj} {n : String} {vs : Array Value} {Q : Unit → Shared → Prop} (ho : s.heap.get? it = some o) (hc : o.cls = .type n) (hd : o.data = .fields vs)
    (hn : ["enumerate", "zip", "dict_itemiterator", "dict_reverseitemiterator", "odict_iterator", "itertools.zip_longest", "itertools.pairwise"].contains n = false) (hQ : Q () s) : wpAny M A (letOwnedTupleGo tg (.ref it) u) Q E s := by
  unfold letOwnedTupleGo
  cases tg <;> first
    | exact wpAny_pure hQ
    | (cases u <;> first
        | exact wpAny_pure hQ
        | (refine wpAny_bind (wpAny_load ho ?_)
           rw [hc, hd]
           show wpAny M A (if (["enumerate", "zip", "dict_itemiterator", "dict_reverseitemiterator", "odict_iterator", "itertools.zip_longest", "itertools.pairwise"].contains n && vs[0]? == some (rawInt _)) = true then _ else _) Q E s
           rw [if_neg (by intro h; rw [hn, Bool.false_and] at h; cases h)]
           exact wpAny_pure hQ))
/-- the list at a, as it stands at each turn (a loop may append to it) -/
def Itl (K : PySem.W.Frag) (a : Addr) : It :=
  ⟨fun i H => ∃ xs x, SqL K H a xs ∧ xs[i]? = some x, fun i H x H' => H' = H ∧ ∀ xs, SqL K H a xs → xs[i]? = some x, fun i H => ∃ xs, SqL K H a xs ∧ xs.length ≤ i⟩
/-- lo, lo + 1, .. (n of them) -/
def Itr (lo : Int) (n : Nat) : It := ⟨fun i _ => i < n, fun i H x H' => H' = H ∧ x = .int (lo + i), fun i _ => n ≤ i⟩
theorem turn_list {P : Program} {w : World} {K : PySem.W.Frag} {tg : Expr} (a it : Addr) : Turn P w K tg (Itl K a) [it] it (fun i h => h.IsListIter it a i) where
  mem := by simp
  obj := fun i h st b hb => by
    have e : b = it := by simpa using hb
    subst e
    obtain ⟨o, e, c, d⟩ := st
    exact ⟨o, e, fun v z => by rw [d] at z; cases z⟩
  keep := fun i h h' st k => st.at fun o e => k it (by simp) o e
  item := by
    intro X hP hw hK hc i pins s σ H E I hf st hg
    subst hP hw hK
    obtain ⟨xs, x, hq, hx⟩ := hg
    obtain ⟨its, rv, p, hz⟩ := I.list hq
    obtain ⟨u, hu, ru⟩ := rv.get hx
    obtain ⟨f0, f1, f2, f3, f4, f5⟩ := hf it (by simp)
    refine wpAny_pyNext_list_item st p.isList (x := u) (by simpa using hu) fun h' st' sb => ?_
    have I1 : Inv X pins σ H { s with heap := h' } := I.turned (t' := s.toks) (fun b o hb e => (sb.2 b hb).trans e) f0 f1 f3 f4 f5
    obtain ⟨o, e, c, d⟩ := id st'
    exact ⟨u, rfl, go_of (s := { s with heap := h' }) e c d (by decide) ⟨x, H, I1, ru, ⟨rfl, fun ys hy => by rw [I.list_inj hy hq]; exact hx⟩, st', fun b hb => (hf b hb).1⟩⟩
  done := by
    intro X hP hw hK hc i pins s σ H E I hf st hg
    subst hP hw hK
    obtain ⟨xs, hq, hx⟩ := hg
    obtain ⟨its, rv, p, hz⟩ := I.list hq
    obtain ⟨f0, f1, f2, f3, f4, f5⟩ := hf it (by simp)
    have hl := rv.length
    exact wpAny_pyNext_list_end (I.ok.hd hc) st p.isList (by simp; omega) fun h' eb => ⟨rfl, I.turned (t' := s.toks) (fun b o hb e => eb b o hb e) f0 f1 f3 f4 f5⟩
  self := fun _ _ _ _ _ st h => wpAny_pyIter_listiter st h
theorem turn_range {P : Program} {w : World} {K : PySem.W.Frag} {tg : Expr} (it : Addr) (lo : Int) (n : Nat) : Turn P w K tg (Itr lo n) [it] it (fun i h => IsRangeIter h it (lo + (i : Nat) * 1) ((n : Int) - (i : Nat)) 1) where
  mem := by simp
  obj := fun i h st b hb => by
    have e : b = it := by simpa using hb
    subst e
    exact ⟨_, st, fun v z => by
      have z' : Data.fields _ = Data.cell v := z
      cases z'⟩
  keep := fun i h h' st k => k it (by simp) _ st
  item := by
    intro X hP hw hK hc i pins s σ H E I hf st hg
    subst hP hw hK
    obtain ⟨f0, f1, f2, f3, f4, f5⟩ := hf it (by simp)
    have W := Walks.range (prog := X.prog) (w := X.w) (I.ok.hd hc) it lo 1 n
    refine W.item i s _ _ hg st fun v h' tk hv st' kk => ?_
    obtain ⟨t, rfl⟩ := hv
    have I1 : Inv X pins σ H { s with heap := h', toks := tk } := I.turned (fun b o hb e => kk b o (by simpa using hb) e) f0 f1 f3 f4 f5
    refine ⟨_, rfl, go_of (s := { s with heap := h', toks := tk }) (n := "range_iterator") st' rfl rfl (by decide) ⟨.int (lo + i), H, I1, ⟨t, ?_⟩, ⟨rfl, rfl⟩, st', fun b hb => (hf b hb).1⟩⟩
    rw [Int.mul_one]
  done := by
    intro X hP hw hK hc i pins s σ H E I hf st hg
    subst hP hw hK
    obtain ⟨f0, f1, f2, f3, f4, f5⟩ := hf it (by simp)
    exact wpAny_pyNext_range_end (I.ok.hd hc) st (by have : n ≤ i := hg; omega) fun h' eb => ⟨rfl, I.turned (t' := s.toks) (fun b o hb e => eb b o hb e) f0 f1 f3 f4 f5⟩
  self := fun _ _ _ _ _ st h => wpAny_pyIter_rangeiter st h
end L2
namespace L2
open PySem PySem.Spec PyProof.Rows
section
variable {X : Cx} {tg : Expr}
def iList (K : PySem.W.Frag) (tl : TE) : TI := fun σ H R => tl σ H fun x H1 => ∃ a, x = .ref a ∧ (∃ xs, SqL K H1 a xs) ∧ R (Itl K a) H1
theorem pi_list {l : Expr} {tl : TE} (hl : PE X l tl) : PI X tg l (iList X.K tl) := by
  intro pins s σ H R I h
  refine thn (hl pins s σ H _ I h) fun v s1 ⟨x, H1, I1, r1, q1⟩ => ?_
  obtain ⟨a, e, ⟨xs, hq⟩, q⟩ := q1
  subst e
  cases r1
  obtain ⟨its, rv, p, hz⟩ := I1.list hq
  refine wpAny_pyIter_list p.isList ?_
  refine ⟨s1.heap.objs.size, [s1.heap.objs.size], _, _, H1, rfl, I1.kept (t' := s1.toks) fun b o e => Heap.get?_push_of_some _ e, turn_list a _, ⟨_, Heap.get?_push_size _ rfl, rfl, rfl⟩, fun b hb => ?_, q⟩
  have e : b = s1.heap.objs.size := by simpa using hb
  subst e
  exact I1.fpOk (Nat.le_refl _) (I1.hok.fresh (Nat.le_refl _))
/-- a range object just made, walked -/
theorem range_it {pins : List (Addr × Obj)} {σ : St} {H : Hp} {s : Shared} {R : It → Hp → Prop} {E : Value → Shared → Prop} {lo hi : Int} {t u v : Tok} {tk : Nat} (I : Inv X pins σ H s) (h1 : -(2 ^ 62) ≤ lo) (h2 : lo < 2 ^ 62) (h3 : -(2 ^ 62) ≤ hi) (h4 : hi < 2 ^ 62)
    (q : R (Itr lo (hi - lo).toNat) H) : wpAny (model X.prog X.w) X.A (pyIter (.ref s.heap.objs.size)) (PIE X pins σ tg R) E { s with heap := s.heap.push { cls := .type "range", data := .fields #[.int lo t, .int hi u, .int 1 v] }, toks := tk } := by
  refine wpAny_pyIter_range (IsRange.new ..) (small_one h1 h2 h3 h4) ?_
  have I1 : Inv X pins σ H { s with heap := s.heap.push { cls := .type "range", data := .fields #[.int lo t, .int hi u, .int 1 v] }, toks := tk } := I.kept fun b o e => Heap.get?_push_of_some _ e
  refine ⟨(s.heap.push { cls := .type "range", data := .fields #[.int lo t, .int hi u, .int 1 v] }).objs.size, [(s.heap.push { cls := .type "range", data := .fields #[.int lo t, .int hi u, .int 1 v] }).objs.size], _, _, H, rfl,
    I1.kept (t' := tk) fun b o e => Heap.get?_push_of_some _ e, turn_range _ lo (hi - lo).toNat, ?_, fun b hb => ?_, q⟩
  · have e1 : lo + ((0 : Nat) : Int) * 1 = lo := by simp
    have e2 : (((hi - lo).toNat : Nat) : Int) - ((0 : Nat) : Int) = Builtin.Range.rangeSize lo hi 1 := by rw [rangeSize_one]; split <;> omega
    show IsRangeIter _ _ (lo + ((0 : Nat) : Int) * 1) ((((hi - lo).toNat : Nat) : Int) - ((0 : Nat) : Int)) 1
    rw [e1, e2]
    exact Heap.get?_push_size _ rfl
  · have e : b = (s.heap.push { cls := .type "range", data := .fields #[.int lo t, .int hi u, .int 1 v] }).objs.size := by simpa using hb
    subst e
    exact I1.fpOk (Nat.le_refl _) (I1.hok.fresh (Nat.le_refl _))
def iRng1 (ta : TA) : TI := fun σ H R => ta σ H fun vs H1 => ∃ j : Int, vs = [.int j] ∧ -(2 ^ 62) ≤ j ∧ j < 2 ^ 62 ∧ R (Itr 0 j.toNat) H1
def iRng2 (ta : TA) : TI := fun σ H R => ta σ H fun vs H1 => ∃ i j : Int, vs = [.int i, .int j] ∧ (-(2 ^ 62) ≤ i ∧ i < 2 ^ 62 ∧ -(2 ^ 62) ≤ j ∧ j < 2 ^ 62) ∧ R (Itr i (j - i).toNat) H1
theorem pi_range1 {a : Expr} {ta : TA} {p pos : Pos} (hg : Gl X "range") (hm : X.mg "range" = none) (ha : PA X [a] ta) (hs : starEach [a] X.env = [(false, eval a X.env)] := by rfl) : PI X tg (.Call (.Name "range" p) [a] [] pos) (iRng1 ta) := by
  intro pins s σ H R I h
  refine Call_ (ld_blt I hg hm boot_range (PyProof.Rows.callWith_type1 (thn (ha pos pins s σ H _ I h) fun us s1 ⟨vs, H1, I1, r1, q1⟩ => ?_) hs rfl))
  obtain ⟨j, e, q1, q2, q⟩ := q1
  subst e
  cases r1 with
  | cons r rr =>
    cases rr
    obtain ⟨t, rfl⟩ := r
    exact call_range_1 (range_it I1 (by omega) (by omega) q1 q2 (by simpa using q))
/-- W: the invariant by the turn and a measure; N: what the body is to reach -/
def tFor (wi : TI) (g : TG) (tb : TS) : TS := fun D σ H => wi σ H fun J H1 => ∃ W : Nat → Nat → St → Hp → Prop, (∃ m, W 0 m σ H1) ∧ ∀ i m σ H, W i m σ H →
  (J.stop i H ∧ D.nx σ H) ∨ (J.go i H ∧ ∃ N : St → Hp → Prop, (∀ σ' H', N σ' H' → ∃ m', m' < m ∧ W (i + 1) m' σ' H') ∧ ∀ x H', J.yld i H x H' → g x σ H' fun σ2 H2 => tb { D with nx := N, ct := N, bk := D.nx } σ2 H2)
/-- the records at fp as they stand -/
def pinsAt (fp : List Addr) (h : Heap) : List (Addr × Obj) := fp.filterMap fun b => (h.get? b).map fun o => (b, o)
theorem mem_pinsAt {fp : List Addr} {h : Heap} {b : Addr} {o : Obj} (hb : b ∈ fp) (e : h.get? b = some o) : (b, o) ∈ pinsAt fp h := List.mem_filterMap.mpr ⟨b, hb, by rw [e]; rfl⟩
theorem of_pinsAt {fp : List Addr} {h : Heap} {p : Addr × Obj} (hp : p ∈ pinsAt fp h) : p.1 ∈ fp ∧ h.get? p.1 = some p.2 := by
  obtain ⟨b, hb, e⟩ := List.mem_filterMap.mp hp
  cases q : h.get? b with
  | none => rw [q] at e; cases e
  | some o =>
    rw [q] at e
    have e' : (b, o) = p := Option.some.inj e
    subst e'
    exact ⟨hb, q⟩
theorem Inv.pinned {pins : List (Addr × Obj)} {σ : St} {H : Hp} {s : Shared} {fp : List Addr} (I : Inv X pins σ H s) (hf : ∀ b ∈ fp, FpOk X pins H b) (ho : ∀ b ∈ fp, ∃ o, s.heap.get? b = some o ∧ ∀ v, o.data ≠ .cell v) : Inv X (pins ++ pinsAt fp s.heap) σ H s :=
  I.pins_of fun p hp => (List.mem_append.mp hp).elim (fun z => I.pin p (List.mem_append_right _ z)) fun z => by
    obtain ⟨hb, e⟩ := of_pinsAt z
    obtain ⟨f0, f1, f2, _⟩ := hf p.1 hb
    obtain ⟨o, e', d⟩ := ho p.1 hb
    rw [e] at e'; cases e'
    exact ⟨e, f0, f1, f2, d⟩
theorem Inv.unpinned {pins pl : List (Addr × Obj)} {σ : St} {H : Hp} {s : Shared} (I : Inv X (pins ++ pl) σ H s) : Inv X pins σ H s := I.pins_of fun p hp => I.pin p (List.mem_append_right _ (List.mem_append_left _ hp))
theorem ps_for {iter : Expr} {body : List Stmt} {wi : TI} {g : TG} {tb : TS} {pos : Pos} (hp : PassesOwn (model X.prog X.w) X.A X.env X.xe) (hc : X.calm = true) (hi : PI X tg iter wi) (hg : PG X tg g) (hb : PSs X body tb)
    (hs : ∀ x, foldedSetIterable iter X.env x = pure x := by intro _; rfl) : PS X (.For tg iter body [] pos) (tFor wi g tb) := by
  intro pins s σ H D I h
  refine wpAny_For (thn (hi pins s σ H _ I h) fun v s1 h1 => thn h1 fun itv s2 h2 => ?_) hs
  obtain ⟨it, fp, tn, J, H2, e, I2, T, st2, f2, W, ⟨m0, w0⟩, turn⟩ := h2
  subst e
  -- what stays true of the iterator's objects through the loop
  have stat : ∀ {H' : Hp}, (∀ b ∈ fp, H' b = none) → ∀ b ∈ fp, FpOk X pins H' b := fun hn b hb => ⟨hn b hb, (f2 b hb).2⟩
  refine codeAny_forLoop_any (fun n s' => ∃ i σ' H', Inv X pins σ' H' s' ∧ tn i s'.heap ∧ (∀ b ∈ fp, H' b = none) ∧ W i n σ' H') ?_ m0 ⟨0, σ, H2, I2, st2, fun b hb => (f2 b hb).1, w0⟩
  rintro n s3 ⟨i, σ3, H3, I3, st3, fr3, w3⟩
  rcases turn i n σ3 H3 w3 with ⟨stop, qn⟩ | ⟨go, N, hN, step⟩
  · refine wpAny_passesOwn hp (thn (T.done X rfl rfl rfl hc i pins s3 σ3 H3 X.xe I3 (stat fr3) st3 stop) fun r s4 ⟨hr, I4⟩ => ?_)
    subst hr
    exact wpAny_execs_nil ⟨σ3, H3, I4, qn⟩
  · refine wpAny_passesOwn hp (thn (T.item X rfl rfl rfl hc i pins s3 σ3 H3 X.xe I3 (stat fr3) st3 go) fun r s4 ⟨u, hr, h4⟩ => ?_)
    subst hr
    refine wpAny_passesOwn hp (thn h4 fun _ s5 ⟨x, H5, I5, r5, y5, st5, fr5⟩ => ?_)
    have I5' := I5.pinned (stat fr5) (T.obj _ _ st5)
    refine wpAny_passesOwn hp (thn (hg _ s5 σ3 H5 x u _ I5' r5 (step x H5 y5)) fun _ s6 ⟨σ6, H6, I6, q6⟩ => ?_)
    refine wpAny_passesOwn hp (thn (hb _ s6 σ6 H6 _ I6 q6) fun f s7 q7 => ?_)
    have again : ∀ {σ7 : St} {H7 : Hp}, Inv X (pins ++ pinsAt fp s5.heap) σ7 H7 s7 → N σ7 H7 → ∃ m, m < n ∧ ∃ i σ' H', Inv X pins σ' H' s7 ∧ tn i s7.heap ∧ (∀ b ∈ fp, H' b = none) ∧ W i m σ' H' := fun {σ7 H7} I7 n7 => by
      obtain ⟨m', hm, w7⟩ := hN σ7 H7 n7
      refine ⟨m', hm, i + 1, σ7, H7, I7.unpinned, T.keep _ _ _ st5 fun b hb o e => (I7.pin (b, o) (List.mem_append_right _ (List.mem_append_right _ (mem_pinsAt hb e)))).1, fun b hb => ?_, w7⟩
      obtain ⟨o, e, d⟩ := T.obj _ _ st5 b hb
      exact (I7.pin (b, o) (List.mem_append_right _ (List.mem_append_right _ (mem_pinsAt hb e)))).2.1
    cases f with
    | next => obtain ⟨σ7, H7, I7, n7⟩ := q7; exact again I7 n7
    | cont => obtain ⟨σ7, H7, I7, n7⟩ := q7; exact again I7 n7
    | brk => obtain ⟨σ7, H7, I7, q7⟩ := q7; exact ⟨σ7, H7, I7.unpinned, q7⟩
    | ret v => obtain ⟨x7, σ7, H7, I7, r7, q7⟩ := q7; exact ⟨x7, σ7, H7, I7.unpinned, r7, q7⟩
end
/-- over a list that the body leaves as it is -/
theorem for_list {K : PySem.W.Frag} {a : Addr} {xs : List V} {g : TG} {tb : TS} {D : Ends} {σ : St} {H : Hp} (Pv : Nat → St → Hp → Prop) (h0 : Pv 0 σ H) (hl : ∀ i σ H, i ≤ xs.length → Pv i σ H → SqL K H a xs)
    (hs : ∀ i x σ H, xs[i]? = some x → Pv i σ H → g x σ H fun σ2 H2 => tb { D with nx := Pv (i + 1), ct := Pv (i + 1), bk := D.nx } σ2 H2) (hd : ∀ σ H, Pv xs.length σ H → D.nx σ H) :
    ∃ W : Nat → Nat → St → Hp → Prop, (∃ m, W 0 m σ H) ∧ ∀ i m σ H, W i m σ H →
      ((Itl K a).stop i H ∧ D.nx σ H) ∨ ((Itl K a).go i H ∧ ∃ N : St → Hp → Prop, (∀ σ' H', N σ' H' → ∃ m', m' < m ∧ W (i + 1) m' σ' H') ∧ ∀ x H', (Itl K a).yld i H x H' → g x σ H' fun σ2 H2 => tb { D with nx := N, ct := N, bk := D.nx } σ2 H2) := by
  refine ⟨fun i m σ H => m = xs.length - i ∧ i ≤ xs.length ∧ Pv i σ H, ⟨xs.length, by simp, Nat.zero_le _, h0⟩, ?_⟩
  rintro i m σ H ⟨rfl, hi, p⟩
  have q := hl i σ H hi p
  by_cases hlt : i < xs.length
  · refine .inr ⟨⟨xs, xs[i], q, by simp [hlt]⟩, Pv (i + 1), fun σ' H' p' => ⟨xs.length - (i + 1), by omega, rfl, hlt, p'⟩, fun x H' y => ?_⟩
    obtain ⟨e, y⟩ := y
    subst e
    exact hs i x σ _ (y xs q) p
  · have e : i = xs.length := by omega
    subst e
    exact .inl ⟨⟨xs, q, Nat.le_refl _⟩, hd σ H p⟩
end L2
namespace L2
open PySem PySem.Spec PyProof.Rows
abbrev R2 := V → V → Hp → VK → Prop
/-- a two-place operation on values: f is binaryOp op, inplaceOp op or compareOp op -/
def OpR (X : Cx) (f : Value → Value → Sem Value) (r : R2) : Prop :=
  ∀ (pins : List (Addr × Obj)) (s : Shared) (σ : St) (H : Hp) (x y : V) (v u : Value) (Q : VK), Inv X pins σ H s → RelV x v → RelV y u → r x y H Q →
    wpAny (model X.prog X.w) X.A (f v u) (EP X pins σ Q) X.xe s
/-- a one-place operation -/
def UnR (X : Cx) (f : Value → Sem Value) (r : V → Hp → VK → Prop) : Prop :=
  ∀ (pins : List (Addr × Obj)) (s : Shared) (σ : St) (H : Hp) (x : V) (v : Value) (Q : VK), Inv X pins σ H s → RelV x v → r x H Q →
    wpAny (model X.prog X.w) X.A (f v) (EP X pins σ Q) X.xe s
/-- a call of a value that is known (a builtin, a type) with values -/
def CallR (X : Cx) (f : Value) (r : List V → Hp → VK → Prop) : Prop :=
  ∀ (pins : List (Addr × Obj)) (s : Shared) (σ : St) (H : Hp) (xs : List V) (us : List Value) (Q : VK), Inv X pins σ H s → Vals xs us → r xs H Q →
    wpAny (model X.prog X.w) X.A (call f us) (EP X pins σ Q) X.xe s
def tOp (r : R2) (ta tb : TE) : TE := fun σ H Q => ta σ H fun x H1 => tb σ H1 fun y H2 => r x y H2 Q
def tUn (r : V → Hp → VK → Prop) (ta : TE) : TE := fun σ H Q => ta σ H fun x H1 => r x H1 Q
/-- ints in, under C, and a value out -/
def rI (C : Int → Int → Prop) (g : Int → Int → V) : R2 := fun x y H Q => ∃ i j, x = .int i ∧ y = .int j ∧ C i j ∧ Q (g i j) H
def rI0 (g : Int → Int → V) : R2 := fun x y H Q => ∃ i j, x = .int i ∧ y = .int j ∧ Q (g i j) H
def rU (g : Int → V) : V → Hp → VK → Prop := fun x H Q => ∃ i, x = .int i ∧ Q (g i) H
section
variable {X : Cx} {a b c : Expr} {ta tb tc : TE} {pos : Pos}
theorem binT (ha : PE X a ta) (hb : PE X b tb) {pins : List (Addr × Obj)} {s : Shared} {σ : St} {H : Hp} {R : V → V → Hp → Prop} (I : Inv X pins σ H s)
    (h : ta σ H fun x H1 => tb σ H1 fun y H2 => R x y H2) {Q : Value → Shared → Prop} {f : Value → Value → Sem Value}
    (hf : ∀ v u s2 x y H2, Inv X pins σ H2 s2 → RelV x v → RelV y u → R x y H2 → wpAny (model X.prog X.w) X.A (f v u) Q X.xe s2) :
    wpAny (model X.prog X.w) X.A (eval a X.env) (fun v s₁ => wpAny (model X.prog X.w) X.A (eval b X.env) (fun u s₂ => wpAny (model X.prog X.w) X.A (f v u) Q X.xe s₂) X.xe s₁) X.xe s := by
  refine thn (ha pins s σ H _ I h) fun v s1 ⟨x, H1, I1, r1, q1⟩ => ?_
  refine thn (hb pins s1 σ H1 _ I1 q1) fun u s2 ⟨y, H2, I2, r2, q2⟩ => ?_
  exact hf v u s2 x y H2 I2 r1 r2 q2
theorem pe_op {op : Operator} {r : R2} (ho : OpR X (binaryOp op) r) (ha : PE X a ta) (hb : PE X b tb) : PE X (.BinOp a op b pos) (tOp r ta tb) := by
  intro pins s σ H Q I h
  exact wpAny_BinOp (binT ha hb I h fun v u s2 x y H2 I2 rx ry q => ho pins s2 σ H2 x y v u Q I2 rx ry q)
theorem pe_un {op : UnaryOp} {r : V → Hp → VK → Prop} (ho : UnR X (unaryOp op) r) (ha : PE X a ta) : PE X (.UnaryOp op a pos) (tUn r ta) := by
  intro pins s σ H Q I h
  exact UnaryOp_ (thn (ha pins s σ H _ I h) fun v s1 ⟨x, H1, I1, r1, q1⟩ => ho pins s1 σ H1 x v Q I1 r1 q1)
theorem opI {f : Value → Value → Sem Value} {C : Int → Int → Prop} {g : Int → Int → Int}
    (rule : ∀ (i j : Int) (t u : Tok) (s : Shared) (Q : Value → Shared → Prop) (E : Value → Shared → Prop), C i j → Q (.int (g i j) s.toks) { s with toks := s.toks + 1 } → wpAny (model X.prog X.w) X.A (f (.int i t) (.int j u)) Q E s) :
    OpR X f (rI C fun i j => .int (g i j)) := by
  intro pins s σ H x y v u Q I rx ry h
  obtain ⟨i, j, rfl, rfl, hc, q⟩ := h
  obtain ⟨t, rfl⟩ := rx
  obtain ⟨t', rfl⟩ := ry
  exact rule i j t t' s _ _ hc ⟨.int (g i j), H, I.tok _, ⟨_, rfl⟩, q⟩
theorem opI0 {f : Value → Value → Sem Value} {g : Int → Int → Int}
    (rule : ∀ (i j : Int) (t u : Tok) (s : Shared) (Q : Value → Shared → Prop) (E : Value → Shared → Prop), Q (.int (g i j) s.toks) { s with toks := s.toks + 1 } → wpAny (model X.prog X.w) X.A (f (.int i t) (.int j u)) Q E s) :
    OpR X f (rI0 fun i j => .int (g i j)) := by
  intro pins s σ H x y v u Q I rx ry h
  obtain ⟨i, j, rfl, rfl, q⟩ := h
  obtain ⟨t, rfl⟩ := rx
  obtain ⟨t', rfl⟩ := ry
  exact rule i j t t' s _ _ ⟨.int (g i j), H, I.tok _, ⟨_, rfl⟩, q⟩
theorem opB0 {f : Value → Value → Sem Value} {g : Int → Int → Bool}
    (rule : ∀ (i j : Int) (t u : Tok) (s : Shared) (Q : Value → Shared → Prop) (E : Value → Shared → Prop), Q (.bool (g i j)) s → wpAny (model X.prog X.w) X.A (f (.int i t) (.int j u)) Q E s) :
    OpR X f (rI0 fun i j => .bl (g i j)) := by
  intro pins s σ H x y v u Q I rx ry h
  obtain ⟨i, j, rfl, rfl, q⟩ := h
  obtain ⟨t, rfl⟩ := rx
  obtain ⟨t', rfl⟩ := ry
  exact rule i j t t' s _ _ ⟨.bl (g i j), H, I, rfl, q⟩
def CDiv (i j : Int) : Prop := 0 < j ∧ j < 1073741824
def CMul (i j : Int) : Prop := (-(2 ^ 64) < i ∧ i < 2 ^ 64) ∨ (-(2 ^ 64) < j ∧ j < 2 ^ 64)
theorem CMul.ok {i j : Int} (h : CMul i j) : IntMulOk i j := by
  rcases h with ⟨h1, h2⟩ | ⟨h1, h2⟩
  · exact .of_left (intBits_le_64 h1 h2)
  · exact .of_right (intBits_le_64 h1 h2)
theorem op_add : OpR X (binaryOp .Add) (rI0 fun i j => .int (i + j)) := opI0 fun _ _ _ _ _ _ _ q => add_int q
theorem op_sub : OpR X (binaryOp .Sub) (rI0 fun i j => .int (i - j)) := opI0 fun _ _ _ _ _ _ _ q => sub_int q
theorem op_mul : OpR X (binaryOp .Mult) (rI CMul fun i j => .int (i * j)) := opI fun _ _ _ _ _ _ _ hc q => mul_int q hc.ok
/-- // by a positive divisor -/
theorem op_fdiv : OpR X (binaryOp .FloorDiv) (rI CDiv fun i j => .int (i / j)) := opI fun i j _ _ _ _ _ hc q => by
  have h1 : (0 : Int) < j := hc.1
  have h2 : j < 1073741824 := hc.2
  exact floordiv_int (by omega) (by rw [Int.fdiv_eq_ediv_of_nonneg i (by omega)]; exact q) (.inl (PyProof.noPylong_small (by omega)))
/-- % by a positive divisor of any size -/
theorem op_mod : OpR X (binaryOp .Mod) (rI (fun _ j => 0 < j) fun i j => .int (i % j)) := opI fun i j _ _ _ _ _ hc q => by
  have h1 : (0 : Int) < j := hc
  exact mod_int' (by omega) (by rw [Int.fmod_eq_emod_of_nonneg i (by omega)]; exact q)
theorem unI {f : Value → Sem Value} {g : Int → Int}
    (rule : ∀ (i : Int) (t : Tok) (s : Shared) (Q : Value → Shared → Prop) (E : Value → Shared → Prop), Q (.int (g i) s.toks) { s with toks := s.toks + 1 } → wpAny (model X.prog X.w) X.A (f (.int i t)) Q E s) :
    UnR X f (rU fun i => .int (g i)) := by
  intro pins s σ H x v Q I rx h
  obtain ⟨i, rfl, q⟩ := h
  obtain ⟨t, rfl⟩ := rx
  exact rule i t s _ _ ⟨.int (g i), H, I.tok _, ⟨_, rfl⟩, q⟩
theorem un_neg : UnR X (unaryOp .USub) (rU fun i => .int (-i)) := unI fun _ _ _ _ _ q => neg_int q
end
/-- the scalars that == tells apart as data does -/
def scal : V → V → Bool
  | .non, .non => true | .non, .int _ => true | .int _, .non => true | .non, .bl _ => true | .bl _, .non => true | .non, .str _ => true | .str _, .non => true
  | .int _, .int _ => true | .bl _, .bl _ => true | .str _, .str _ => true | .byt _, .byt _ => true
  | .int _, .str _ => true | .str _, .int _ => true | .bl _, .str _ => true | .str _, .bl _ => true
  | _, _ => false
def rEq : R2 := fun x y H Q => scal x y = true ∧ Q (.bl (decide (x = y))) H
def rNe : R2 := fun x y H Q => scal x y = true ∧ Q (.bl (!decide (x = y))) H
theorem dec_int {i j : Int} : decide (V.int i = V.int j) = (i == j) := by
  rw [Bool.eq_iff_iff]
  simp
theorem dec_bl {i j : Bool} : decide (V.bl i = V.bl j) = (i == j) := by
  rw [Bool.eq_iff_iff]
  simp
theorem dec_str {i j : Str} : decide (V.str i = V.str j) = (i == j) := by
  rw [Bool.eq_iff_iff]
  simp
theorem dec_byt {i j : Array UInt8} : decide (V.byt i = V.byt j) = (i.toList == j.toList) := by
  rw [Bool.eq_iff_iff]
  cases i
  cases j
  simp
section
variable {X : Cx} {a b c : Expr} {ta tb tc : TE} {pos : Pos}
theorem fin_bl {pins : List (Addr × Obj)} {σ : St} {H : Hp} {s : Shared} {Q : VK} {k k' : Bool} (I : Inv X pins σ H s) (q : Q (.bl k) H) (e : k = k') : EP X pins σ Q (.bool k') s := by
  subst e
  exact ⟨.bl k, H, I, rfl, q⟩
theorem op_eq : OpR X (compareOp .Eq) rEq := by
  intro pins s σ H x y v u Q I rx ry h
  obtain ⟨hs, q⟩ := h
  cases x with
  | non =>
    cases rx
    cases y with
    | non => cases ry; exact PySem.EqNone.eq_none_none (fin_bl I q (by simp))
    | bl j => cases ry; exact PySem.EqNone.eq_none_bool (fin_bl I q (by simp))
    | int j => obtain ⟨t', rfl⟩ := ry; exact PySem.EqNone.eq_none_int (fin_bl I q (by simp))
    | str j => obtain ⟨t', rfl⟩ := ry; exact PySem.EqNone.eq_none_str (fin_bl I q (by simp))
    | _ => exact absurd (show false = true from hs) Bool.false_ne_true
  | bl i =>
    cases rx
    cases y with
    | non => cases ry; exact PySem.EqNone.eq_bool_none (fin_bl I q (by simp))
    | bl j => cases ry; exact eq_bool (fin_bl I q dec_bl)
    | str j => obtain ⟨t', rfl⟩ := ry; exact PySem.EqMixed.eq_bool_str (fin_bl I q (by simp))
    | _ => exact absurd (show false = true from hs) Bool.false_ne_true
  | int i =>
    obtain ⟨t, rfl⟩ := rx
    cases y with
    | non => cases ry; exact PySem.EqNone.eq_int_none (fin_bl I q (by simp))
    | int j => obtain ⟨t', rfl⟩ := ry; exact eq_int (fin_bl I q dec_int)
    | str j => obtain ⟨t', rfl⟩ := ry; exact PySem.EqMixed.eq_int_str (fin_bl I q (by simp))
    | _ => exact absurd (show false = true from hs) Bool.false_ne_true
  | str i =>
    obtain ⟨t, rfl⟩ := rx
    cases y with
    | non => cases ry; exact PySem.EqNone.eq_str_none (fin_bl I q (by simp))
    | bl j => cases ry; exact PySem.EqMixed.eq_str_bool (fin_bl I q (by simp))
    | int j => obtain ⟨t', rfl⟩ := ry; exact PySem.EqMixed.eq_str_int (fin_bl I q (by simp))
    | str j => obtain ⟨t', rfl⟩ := ry; exact eq_str (fin_bl I q dec_str)
    | _ => exact absurd (show false = true from hs) Bool.false_ne_true
  | byt i =>
    obtain ⟨t, rfl⟩ := rx
    cases y with
    | byt j => obtain ⟨t', rfl⟩ := ry; exact PySem.W.eq_bytes (fin_bl I q dec_byt)
    | _ => exact absurd (show false = true from hs) Bool.false_ne_true
  | _ => cases y <;> exact absurd (show false = true from hs) Bool.false_ne_true
theorem op_ne : OpR X (compareOp .NotEq) rNe := by
  intro pins s σ H x y v u Q I rx ry h
  obtain ⟨hs, q⟩ := h
  cases x with
  | non =>
    cases rx
    cases y with
    | non => cases ry; exact PySem.EqNone.ne_none_none (fin_bl I q (by simp))
    | bl j => cases ry; exact PySem.EqNone.ne_none_bool (fin_bl I q (by simp))
    | int j => obtain ⟨t', rfl⟩ := ry; exact PySem.EqNone.ne_none_int (fin_bl I q (by simp))
    | str j => obtain ⟨t', rfl⟩ := ry; exact PySem.EqNone.ne_none_str (fin_bl I q (by simp))
    | _ => exact absurd (show false = true from hs) Bool.false_ne_true
  | bl i =>
    cases rx
    cases y with
    | non => cases ry; exact PySem.EqNone.ne_bool_none (fin_bl I q (by simp))
    | bl j => cases ry; exact ne_bool (fin_bl I q (congrArg not dec_bl))
    | str j => obtain ⟨t', rfl⟩ := ry; exact PySem.EqMixed.ne_bool_str (fin_bl I q (by simp))
    | _ => exact absurd (show false = true from hs) Bool.false_ne_true
  | int i =>
    obtain ⟨t, rfl⟩ := rx
    cases y with
    | non => cases ry; exact PySem.EqNone.ne_int_none (fin_bl I q (by simp))
    | int j => obtain ⟨t', rfl⟩ := ry; exact ne_int (fin_bl I q (congrArg not dec_int))
    | str j => obtain ⟨t', rfl⟩ := ry; exact PySem.EqMixed.ne_int_str (fin_bl I q (by simp))
    | _ => exact absurd (show false = true from hs) Bool.false_ne_true
  | str i =>
    obtain ⟨t, rfl⟩ := rx
    cases y with
    | non => cases ry; exact PySem.EqNone.ne_str_none (fin_bl I q (by simp))
    | bl j => cases ry; exact PySem.EqMixed.ne_str_bool (fin_bl I q (by simp))
    | int j => obtain ⟨t', rfl⟩ := ry; exact PySem.EqMixed.ne_str_int (fin_bl I q (by simp))
    | str j => obtain ⟨t', rfl⟩ := ry; exact ne_str (fin_bl I q (congrArg not dec_str))
    | _ => exact absurd (show false = true from hs) Bool.false_ne_true
  | byt i =>
    obtain ⟨t, rfl⟩ := rx
    cases y with
    | byt j => obtain ⟨t', rfl⟩ := ry; exact PySem.W.ne_bytes (fin_bl I q (congrArg not dec_byt))
    | _ => exact absurd (show false = true from hs) Bool.false_ne_true
  | _ => cases y <;> exact absurd (show false = true from hs) Bool.false_ne_true
theorem op_lt : OpR X (compareOp .Lt) (rI0 fun i j => .bl (decide (i < j))) := opB0 fun _ _ _ _ _ _ _ q => lt_int q
theorem op_gt : OpR X (compareOp .Gt) (rI0 fun i j => .bl (decide (j < i))) := opB0 fun _ _ _ _ _ _ _ q => gt_int q
theorem op_ge : OpR X (compareOp .GtE) (rI0 fun i j => .bl (decide (j ≤ i))) := opB0 fun _ _ _ _ _ _ _ q => ge_int q
/-- the one string within the other -/
theorem op_in_str : OpR X (compareOp .In) (fun x y H Q => ∃ i j, x = .str i ∧ y = .str j ∧ Q (.bl (!(Builtin.Str.occurrences j i 0 j.length 1).isEmpty)) H) := by
  intro pins s σ H x y v u Q I rx ry h
  obtain ⟨i, j, rfl, rfl, q⟩ := h
  obtain ⟨t, rfl⟩ := rx
  obtain ⟨t', rfl⟩ := ry
  exact in_str (fin_bl I q rfl)
theorem op_notN : OpR X (compareOp .IsNot) (fun x y H Q => y = .non ∧ Q (.bl (!decide (x = .non))) H) := by
  intro pins s σ H x y v u Q I rx ry h
  obtain ⟨rfl, q⟩ := h
  cases ry
  refine isnot_none_gen (fin_bl I q ?_)
  cases x <;> first
    | (cases rx; rfl)
    | (obtain ⟨t, rfl⟩ := rx; rfl)
/-- two rules for one operation: by cases -/
theorem OpR.or {f : Value → Value → Sem Value} {r r' : R2} (h : OpR X f r) (h' : OpR X f r') : OpR X f (fun x y H Q => r x y H Q ∨ r' x y H Q) := by
  intro pins s σ H x y v u Q I rx ry q
  rcases q with q | q
  · exact h pins s σ H x y v u Q I rx ry q
  · exact h' pins s σ H x y v u Q I rx ry q
theorem nomark (b : Expr) {op : CmpOp} (h : op ≠ .In := by decide) (h2 : op ≠ .NotIn := by decide) : behindInMarks op b = false := by
  have e1 : (op == CmpOp.In) = false := by cases op <;> first | rfl | exact absurd rfl h
  have e2 : (op == CmpOp.NotIn) = false := by cases op <;> first | rfl | exact absurd rfl h2
  cases b <;> simp [behindInMarks, e1, e2]
/-- a comparison as a value; hm: nomark b, or (for in, not in) by with_unfolding_all rfl -/
theorem pe_cmpR {op : CmpOp} {r : R2} (ho : OpR X (compareOp op) r) (ha : PE X a ta) (hb : PE X b tb) (hm : behindInMarks op b = false) : PE X (.Compare a [op] [b] pos) (tOp r ta tb) := by
  intro pins s σ H Q I h
  exact wpAny_Compare1 (binT ha hb I h fun v u s2 x y H2 I2 rx ry q => ho pins s2 σ H2 x y v u Q I2 rx ry q) hm
/-- a reading of a value as a test -/
def tTest (t : TE) : TT := fun σ H Q => t σ H fun x H' => ∃ k, x = .bl k ∧ Q k H'
theorem pt_cmpR {op : CmpOp} {r : R2} (ho : OpR X (compareOp op) r) (ha : PE X a ta) (hb : PE X b tb) (hm : behindInMarks op b = false) : PT X (.Compare a [op] [b] pos) (tTest (tOp r ta tb)) := by
  intro pins s σ H Q I h
  refine wpAny_isTrue_Compare1 (thn (ha pins s σ H _ I h) fun v s1 ⟨x, H1, I1, r1, q1⟩ => thn (hb pins s1 σ H1 _ I1 q1) fun u s2 ⟨y, H2, I2, r2, q2⟩ =>
    thn (ho pins s2 σ H2 x y v u _ I2 r1 r2 q2) fun c s3 ⟨z, H3, I3, r3, k, e, q3⟩ => ?_) hm
  subst e
  cases r3
  exact wpAny_truthy_bool ⟨H3, I3, q3⟩
/-- a op1 b op2 c -/
def tChain (r r' : R2) (ta tb tc : TE) : TE := fun σ H Q => ta σ H fun x H1 => tb σ H1 fun y H2 => r x y H2 fun z H3 => ∃ k, z = .bl k ∧
  (if k = true then tc σ H3 fun w' H4 => r' y w' H4 Q else Q (.bl false) H3)
theorem line63 : (sizeLine : Nat) < 2 ^ 63 := by rw [sizeLine_eq]; decide
theorem vals1 {x : V} {us : List Value} (r : Vals [x] us) : ∃ u, us = [u] ∧ RelV x u := by
  cases r with
  | cons r1 r2 => cases r2; exact ⟨_, rfl, r1⟩
theorem vals2 {x y : V} {us : List Value} (r : Vals [x, y] us) : ∃ u w', us = [u, w'] ∧ RelV x u ∧ RelV y w' := by
  cases r with
  | cons r1 r2 =>
    cases r2 with
    | cons r3 r4 => cases r4; exact ⟨_, _, rfl, r1, r3⟩
end
end L2
namespace L2
open PySem PySem.Spec PyProof.Rows
structure ObjM (h : Heap) (x dx C : Addr) (mA : Str → Option Value) : Prop where
  obj : h.get? x = some (PySem.W.instObj C dx)
  ns : h.Ns1 dx mA
  ne : dx ≠ x
theorem lookIn_ns {h : Heap} {dx : Addr} {mA : Str → Option Value} (n : h.Ns1 dx mA) : ∃ od, h.get? dx = some od ∧ ∀ name, PySem.W.lookIn name od = some (mA name) := by
  obtain ⟨o, es, ep, ho, hd, hk, _, hm⟩ := n
  refine ⟨o, ho, fun name => ?_⟩
  have e := hm name
  unfold nsFind findBy at e
  rw [← Array.find?_toList] at e
  unfold PySem.W.lookIn
  rw [hd]
  dsimp only
  split
  · rename_i y q
    rw [q] at e
    exact congrArg some e
  · rename_i q
    rw [q] at e
    have a : es.toList.any (·.refKey) = false := by
      rw [List.any_eq_false]
      intro y hy
      obtain ⟨z, t, hkey⟩ := hk y (Array.mem_toList_iff.mp hy)
      simp [DictEntry.refKey, hkey]
    have a' : ¬ es.toList.any (·.refKey) = true := by rw [a]; exact Bool.false_ne_true
    rw [if_neg a']
    exact congrArg some e
theorem ObjM.look {h : Heap} {x dx C : Addr} {mA : Str → Option Value} (I : ObjM h x dx C mA) : ∃ od, PySem.W.InstAt h x (PySem.W.instObj C dx) C (some od) ∧ ∀ name, PySem.W.lookIn name od = some (mA name) :=
  let ⟨od, ho, hl⟩ := lookIn_ns I.ns
  ⟨od, ⟨I.obj, rfl, rfl, ho⟩, hl⟩
section
variable {prog : Program} {w : World} {A : Around} {E : Value → Shared → Prop} {s : Shared} {K : PySem.W.Frag} {x dx C f : Addr} {mA : Str → Option Value} {name : Str} {v : Value}
theorem set_map {ns : List Str} {Q : Unit → Shared → Prop} (X : K.In s.heap) (I : ObjM s.heap x dx C mA)
    (hs : PySem.W.findIn K (.ref C) "__setattr__" = some (some (.builtin "object.__setattr__"))) (hp : PySem.W.plainOver K C = true) (ht : PySem.W.takerIn K C name = some none) (hh : PySem.W.hasDictIn K C = true)
    (hw : PySem.Within mA ns) (hsz : ns.length ≤ sizeLine)
    (h : ∀ h', ObjM h' x dx C (fun y => if y = name then some v else mA y) → Heap.SameBut dx s.heap h' → Q () { s with heap := h', toks := s.toks + 2 }) :
    wpAny (model prog w) A (setAttr (.ref x) name v) Q E s := by
  obtain ⟨od, J, hl⟩ := I.look
  refine PySem.W.set_plain X J hs (PySem.W.osa_open (s := { s with toks := s.toks + 1 }) (r := none) X J hp ht fun b => ?_)
  obtain ⟨cd, hc, hd'⟩ := PySem.W.any_some hh
  have hx : s.heap.get? x = some ⟨.ref C, some dx, .plain, #[]⟩ := I.obj
  refine wpAny_bind (wpAny_pure (wpAny_bind (wpAny_bind (wpAny_loadPart hx (wpAny_bind (PySem.W.Looks.here (s := { s with toks := s.toks + 1 }) (PySem.W.looks_clsIn X hc) ?_))))))
  rw [hd']
  refine wpAny_pure (a := some dx) (wpAny_bind (wpAny_pure (wpAny_bind ?_)))
  refine wpAny_nsSet1 (s := { s with toks := s.toks + 1 }) I.ns fun h' hn2 hs2 => ?_
  obtain ⟨oD, esD, epD, hoD, hdD, hcD⟩ := hn2.count (PySem.Within.cons name v hw)
  refine wpAny_bind (wpAny_lookBehind hoD (by rw [hdD]; exact pastItsLine_dict (Nat.le_trans hcD (by rw [List.length_cons]; omega))) ?_)
  exact wpAny_pure (h _ ⟨(hs2.2 _ (Ne.symm I.ne)).trans I.obj, hn2, I.ne⟩ hs2)
/-- C(..): the dict at the heap's end, the instance behind it; then its __init__ -/
theorem make_map {R : Result → Shared → Prop} {vs : List Value} {kw : List (Str × Value)} (X : K.In s.heap) (hm : PySem.W.makesIn K C = true)
    (hi : PySem.W.findIn K (.ref C) "__init__" = some (some (.ref f))) (hf : PySem.W.typeIn K (.ref f) = some (.type "function"))
    (h : codeAny (model prog w) (A.under (.builtin "type.__call__" ⟨.ref C :: vs, kw⟩)) (.call (.ref f) ⟨.ref (s.heap.objs.size + 1) :: vs, kw⟩) (PySem.W.InitBack (s.heap.objs.size + 1) R)
      { s with heap := (s.heap.push PySem.W.emptyDict).push (PySem.W.instObj C s.heap.objs.size) }) :
    codeAny (model prog w) A (.call (.ref C) ⟨vs, kw⟩) R s := by
  obtain ⟨hh, g, d, t, os⟩ := s
  exact PySem.W.make_core (PySem.W.makes_of X hm) (PySem.W.looks_findIn X hi) (fun self => PySem.W.bind_fn X self hf) (.inl rfl) h
/-- C() where there is no __init__ but object's -/
theorem make_map0 {R : Result → Shared → Prop} (X : K.In s.heap) (hm : PySem.W.makesIn K C = true)
    (hi : PySem.W.findIn K (.ref C) "__init__" = some (some (.builtin "object.__init__")))
    (hb : ∀ self, PySem.W.Looks (model prog w) s.heap (bindSpecial (.builtin "object.__init__") self) (.builtin "object.__init__", [self]))
    (h : codeAny (model prog w) (A.under (.builtin "type.__call__" ⟨[.ref C], []⟩)) (.call (.builtin "object.__init__") ⟨[.ref (s.heap.objs.size + 1)], []⟩) (PySem.W.InitBack (s.heap.objs.size + 1) R)
      { s with heap := (s.heap.push PySem.W.emptyDict).push (PySem.W.instObj C s.heap.objs.size) }) :
    codeAny (model prog w) A (.call (.ref C) ⟨[], []⟩) R s := by
  obtain ⟨hh, g, d, t, os⟩ := s
  exact PySem.W.make_core (PySem.W.makes_of X hm) (PySem.W.looks_findIn X hi) hb (.inr ⟨rfl, rfl⟩) h
end
def putF (f : Str) (v : V) : List (Str × V) → List (Str × V)
  | [] => [(f, v)]
  | (g, x) :: r => if g = f then (g, v) :: r else (g, x) :: putF f v r
theorem lookup_putF (f g : Str) (v : V) : ∀ fs : List (Str × V), (putF f v fs).lookup g = if g = f then some v else fs.lookup g
  | [] => by
    show List.lookup g [(f, v)] = _
    by_cases h : g = f
    · have hb : (g == f) = true := beq_iff_eq.mpr h
      simp only [List.lookup, hb, if_pos h]
    · have hb : (g == f) = false := beq_eq_false_iff_ne.mpr h
      simp only [List.lookup, hb, if_neg h]
  | (k, x) :: r => by
    have ih := lookup_putF f g v r
    rw [show putF f v ((k, x) :: r) = (if k = f then (k, v) :: r else (k, x) :: putF f v r) from rfl]
    by_cases hk : k = f
    · rw [if_pos hk]
      by_cases h : g = k
      · have hb : (g == k) = true := beq_iff_eq.mpr h
        simp only [List.lookup, hb, if_pos (h.trans hk)]
      · have hb : (g == k) = false := beq_eq_false_iff_ne.mpr h
        simp only [List.lookup, hb, if_neg (fun e : g = f => h (e.trans hk.symm))]
    · rw [if_neg hk]
      by_cases h : g = k
      · have hb : (g == k) = true := beq_iff_eq.mpr h
        simp only [List.lookup, hb, if_neg (fun e : g = f => hk (h.symm.trans e))]
      · have hb : (g == k) = false := beq_eq_false_iff_ne.mpr h
        simp only [List.lookup, hb]
        exact ih
theorem keys_putF (f : Str) (v : V) : ∀ fs : List (Str × V), f ∈ (putF f v fs).map (·.1) ∧ ∀ g, g ∈ fs.map (·.1) → g ∈ (putF f v fs).map (·.1)
  | [] => ⟨by simp [putF], fun g h => by simp at h⟩
  | (k, x) :: r => by
    obtain ⟨i1, i2⟩ := keys_putF f v r
    rw [show putF f v ((k, x) :: r) = (if k = f then (k, v) :: r else (k, x) :: putF f v r) from rfl]
    by_cases hk : k = f
    · rw [if_pos hk]
      subst hk
      exact ⟨by simp, fun g h => by simpa using h⟩
    · rw [if_neg hk]
      refine ⟨?_, fun g h => ?_⟩
      · rw [List.map_cons]
        exact List.mem_cons_of_mem _ i1
      · rw [List.map_cons] at h ⊢
        rcases List.mem_cons.mp h with e | e
        · exact List.mem_cons.mpr (.inl e)
        · exact List.mem_cons_of_mem _ (i2 g e)
theorem length_putF (f : Str) (v : V) : ∀ fs : List (Str × V), (putF f v fs).length ≤ fs.length + 1
  | [] => by simp [putF]
  | (k, x) :: r => by
    have ih := length_putF f v r
    rw [show putF f v ((k, x) :: r) = (if k = f then (k, v) :: r else (k, x) :: putF f v r) from rfl]
    by_cases hk : k = f
    · rw [if_pos hk, List.length_cons, List.length_cons]; omega
    · rw [if_neg hk, List.length_cons, List.length_cons]; omega
theorem RelO.some_of {v : V} {o : Option Value} (r : RelO (some v) o) : ∃ u, o = some u ∧ RelV v u := by
  cases o with
  | none => exact (show False from r).elim
  | some u => exact ⟨u, rfl, r⟩
section
variable {P : Program} {w : World} {H H' : Hp} {h h' : Heap} {a C dx : Addr} {fs fs' : List (Str × V)}
theorem ins_get (hok : HOk P w H h) (e : H a = some (.ins C dx fs)) : ∃ mA, ObjM h a dx C mA ∧ (∀ f, RelO (fs.lookup f) (mA f)) ∧ PySem.Within mA (fs.map (·.1)) ∧ fs.length ≤ 1000 ∧ H dx = some (.own a) := by
  obtain ⟨d, z, ne, ob, mA, n, r, q⟩ := (show ObjOk P w H h a (.ins C dx fs) from hok a _ e)
  exact ⟨mA, ⟨ob, n, ne⟩, r, q, z, d⟩
end
structure Cls (K : PySem.W.Frag) (C : Addr) : Prop where
  pg : PySem.W.plainGet K C Str.empty = true
  hd : PySem.W.hasDictIn K C = true
  po : PySem.W.plainOver K C = true
  sa : PySem.W.findIn K (.ref C) "__setattr__" = some (some (.builtin "object.__setattr__"))
theorem Cls.get {K : PySem.W.Frag} {C : Addr} (c : Cls K C) (f : Str) : PySem.W.plainGet K C f = true := c.pg
/-- no class of it has the name -/
def NoAttr (K : PySem.W.Frag) (C : Addr) (f : Str) : Prop := PySem.W.findIn K (.ref C) f = some none
theorem NoAttr.taker {K : PySem.W.Frag} {C : Addr} {f : Str} (n : NoAttr K C f) : PySem.W.takerIn K C f = some none := by
  unfold PySem.W.takerIn
  rw [show PySem.W.findIn K (.ref C) f = some none from n]
  rfl
/-- a constant of the class -/
structure Con (K : PySem.W.Frag) (C : Addr) (f : Str) (v : V) (u : Value) : Prop where
  at_ : PySem.W.findIn K (.ref C) f = some (some u)
  rel : RelV v u
  get : PySem.W.specialIn K u "__get__" = some none
  cp : PySem.W.copiedNames.contains f = false
/-- a method: a plain def of the class or of one above it -/
structure Meth (K : PySem.W.Frag) (C : Addr) (m : Str) (f : Addr) : Prop where
  at_ : PySem.W.findIn K (.ref C) m = some (some (.ref f))
  fn : PySem.W.isFn K (.ref f) = true
  kp : PySem.W.keepIn K (.ref f) = true
section
variable {X : Cx} {pins : List (Addr × Obj)} {σ : St} {H : Hp} {s : Shared} {a C dx : Addr} {fs : List (Str × V)} {f : Str} {v : V} {A : Around} {E : Value → Shared → Prop}
theorem setattr_ok {y : V} {u : Value} {Q : Unit → Shared → Prop} (I : Inv X pins σ H s) (e : H a = some (.ins C dx fs)) (c : Cls X.K C) (n : NoAttr X.K C f) (hl : fs.length < 1000) (ry : RelV y u)
    (h : ∀ s', Inv X pins σ (upd H a (.ins C dx (putF f y fs))) s' → Q () s') : wpAny (model X.prog X.w) A (setAttr (.ref a) f u) Q E s := by
  obtain ⟨mA, O, r, wi, _, ho⟩ := ins_get I.hok e
  have hz : (fs.map (·.1)).length ≤ sizeLine := by rw [List.length_map, sizeLine_eq]; omega
  refine set_map I.kIn O c.sa c.po n.taker c.hd wi hz fun h' O' sb => h _ ?_
  have hd : ∃ o, h'.get? dx = some o := let ⟨o, _, _, e', _⟩ := O'.ns; ⟨o, e'⟩
  refine I.write (x := a) (e := dx) (by rw [e]; exact True.intro) (.inr ho) (fun b q hb z => (sb.2 b hb).trans z) hd ?_
  refine ⟨by rw [upd_ne O.ne]; exact ho, ?_, O.ne, O'.obj, _, O'.ns, fun g => ?_, fun g hg => ?_⟩
  · have := length_putF f y fs; omega
  · show RelO ((putF f y fs).lookup g) (if g = f then some u else mA g)
    rw [lookup_putF]
    by_cases q : g = f
    · rw [if_pos q, if_pos q]; exact ry
    · rw [if_neg q, if_neg q]; exact r g
  · by_cases q : g = f
    · rw [q]; exact (keys_putF f y fs).1
    · refine (keys_putF f y fs).2 g (wi g fun z => hg ?_)
      show (if g = f then some u else mA g) = none
      rw [if_neg q]; exact z
/-- a new instance, tracked, without attributes -/
theorem Inv.made (I : Inv X pins σ H s) : Inv X pins σ (upd (upd H s.heap.objs.size (.own (s.heap.objs.size + 1))) (s.heap.objs.size + 1) (.ins C s.heap.objs.size []))
    { s with heap := (s.heap.push PySem.W.emptyDict).push (PySem.W.instObj C s.heap.objs.size) } := by
  have e1 : (s.heap.push PySem.W.emptyDict).get? s.heap.objs.size = some PySem.W.emptyDict := Heap.get?_push_size s.heap rfl
  have e2 : ((s.heap.push PySem.W.emptyDict).push (PySem.W.instObj C s.heap.objs.size)).get? (s.heap.objs.size + 1) = some (PySem.W.instObj C s.heap.objs.size) := by
    have := Heap.get?_push_size (s.heap.push PySem.W.emptyDict) (o := PySem.W.instObj C s.heap.objs.size) rfl
    rwa [Heap.size_push] at this
  have e3 : (s.heap.push PySem.W.emptyDict).Ns s.heap.objs.size (fun _ => none) := ⟨PySem.W.emptyDict, #[], _, e1, rfl, (fun e he => absurd he (by simp)), fun _ => rfl⟩
  have I1 := I.laid (a := s.heap.objs.size) (o := .own (s.heap.objs.size + 1)) (h' := s.heap.push PySem.W.emptyDict) (t' := s.toks) (fun b u q => Heap.get?_push_of_some _ q) (Nat.le_refl _) ⟨_, e1⟩
  refine I1.laid (a := s.heap.objs.size + 1) (o := .ins C s.heap.objs.size []) (t' := s.toks) (fun b u q => Heap.get?_push_of_some _ q) (Nat.le_of_eq (Heap.size_push _ _)) ?_
  have ne : s.heap.objs.size ≠ s.heap.objs.size + 1 := Nat.ne_of_lt (Nat.lt_succ_self _)
  refine ⟨by rw [upd_ne ne, upd_same], Nat.zero_le _, ne, e2, fun _ => none, (Heap.Ns1.of_empty e3).at fun o q => Heap.get?_push_of_some _ q, fun _ => True.intro, fun y hy => absurd rfl hy⟩
end
/-- e.f = value -/
def sFld (K : PySem.W.Frag) (ta tv : TE) (f : Str) : TS := fun D σ H => tv σ H fun y H1 => ta σ H1 fun x H2 => ∃ a C dx fs, x = .ref a ∧ H2 a = some (.ins C dx fs) ∧ Cls K C ∧ NoAttr K C f ∧ fs.length < 1000 ∧
  D.nx σ (upd H2 a (.ins C dx (putF f y fs)))
section
variable {X : Cx} {o e value : Expr} {f : Str} {pos pos' tpos : Pos} {ta tv : TE}
theorem ps_fld (ha : PE X o ta) (hv : PE X value tv) (hs : swapsWith value (some (.Attribute o f pos')) pos.line X.env = pure false) : PS X (.Assign [.Attribute o f pos'] value pos) (sFld X.K ta tv f) := by
  intro pins s σ H D I h
  refine plainObj_wpAny_Assign_Attribute (thn (hv pins s σ H _ I h) fun u s1 ⟨y, H1, I1, ry, q⟩ => thn (ha pins s1 σ H1 _ I1 q) fun ov s2 ⟨x, H2, I2, rx, a, C, dx, fs, ex, ea, c, n, l, q2⟩ => ?_) hs
  subst ex
  obtain rfl : ov = Value.ref a := rx
  exact setattr_ok I2 ea c n l ry fun s3 I3 => ⟨σ, _, I3, q2⟩
end
section
variable {X : Cx} {pins : List (Addr × Obj)} {σ : St} {H : Hp} {s : Shared} {A : Around} {E : Value → Shared → Prop} {Q : Value → Shared → Prop} {c : Value} {b : Bool}
/-- the type of a value, as the fragment's deciders take it; for an instance its class -/
inductive TyOf (K : PySem.W.Frag) (H : Hp) : V → Value → Prop where
  | non : TyOf K H .non (.type "NoneType")
  | bl (x : Bool) : TyOf K H (.bl x) (.type "bool")
  | int (i : Int) : TyOf K H (.int i) (.type "int")
  | str (x : Str) : TyOf K H (.str x) (.type "str")
  | flt (x : UInt64) : TyOf K H (.flt x) (.type "float")
  | lst {a : Addr} {xs : List V} (e : H a = some (.lst xs)) : TyOf K H (.ref a) (.type "list")
  | frz {a : Addr} {o : Obj} {xs : List V} (e : H a = some (.frz o (.lst xs))) : TyOf K H (.ref a) (.type "list")
  | tup {a : Addr} {xs : List V} (e : H a = some (.tup xs)) : TyOf K H (.ref a) (.type "tuple")
  | dK {a : Addr} {kvs : List (Key × V)} (e : H a = some (.dK kvs)) : TyOf K H (.ref a) (.type "dict")
  | dT {a : Addr} {kvs : List (List Key × V)} (e : H a = some (.dT kvs)) : TyOf K H (.ref a) (.type "dict")
  | ins {a C dx : Addr} {fs : List (Str × V)} (e : H a = some (.ins C dx fs)) (cl : Cls K C) (ha : PySem.W.findIn K (.ref C) "__class__" = some (some (.builtin "object.__class__")))
      (hn : PySem.W.specialIn K (.builtin "object.__class__") "__get__" = some (some (.builtin "getset_descriptor.__get__"))) (htk : PySem.W.takesIn K (.builtin "object.__class__") = some true)
      (hm : PySem.W.mroIn K C (.type "object") = some true) : TyOf K H (.ref a) (.ref C)
/-- isinstance(x, c) for one class c, a built-in or an own one: kitOne's answer -/
theorem isinst_ok {x : V} {u t : Value} (I : Inv X pins σ H s) (rx : RelV x u) (ty : TyOf X.K H x t) (e : PySem.W.kitOne X.K t c = some b) (h : ∀ tk, Q (.bool b) { s with toks := tk }) :
    wpAny (model X.prog X.w) A (call (.builtin "isinstance") [u, c]) Q E s := by
  cases ty with
  | non => cases (show u = Value.none from rx); exact PySem.W.kia_one PySem.W.kitx_none I.kIn True.intro e (fun z => nomatch z) h
  | bl y => cases (show u = Value.bool y from rx); exact PySem.W.kia_one PySem.W.kitx_bool I.kIn True.intro e (fun z => nomatch z) h
  | int i => obtain ⟨t, q⟩ := (show ∃ t, u = Value.int i t from rx); cases q; exact PySem.W.kia_one PySem.W.kitx_int I.kIn True.intro e (fun z => nomatch z) h
  | str y => obtain ⟨t, q⟩ := (show ∃ t, u = Value.str y t from rx); cases q; exact PySem.W.kia_one PySem.W.kitx_str I.kIn True.intro e (fun z => nomatch z) h
  | flt y => obtain ⟨t, q⟩ := (show ∃ t, u = Value.float y t from rx); cases q; exact PySem.W.kia_one PySem.W.kitx_float I.kIn True.intro e (fun z => nomatch z) h
  | @lst a xs ea =>
    cases (show u = Value.ref a from rx)
    obtain ⟨_, _, n, _, h1⟩ := (show ObjOk X.prog X.w H s.heap a (.lst xs) from I.hok a _ ea)
    exact PySem.W.kia_one PySem.W.kitx_list I.kIn ⟨_, h1, rfl⟩ e (fun z => nomatch z) h
  | @frz a ob xs ea =>
    cases (show u = Value.ref a from rx)
    obtain ⟨_, _, _, n, _, h1⟩ := (show ObjOk X.prog X.w H s.heap a (.frz ob (.lst xs)) from I.hok a _ ea)
    exact PySem.W.kia_one PySem.W.kitx_list I.kIn ⟨_, h1, rfl⟩ e (fun z => nomatch z) h
  | @tup a xs ea =>
    cases (show u = Value.ref a from rx)
    obtain ⟨_, _, _, p⟩ := (show ObjOk X.prog X.w H s.heap a (.tup xs) from I.hok a _ ea)
    obtain ⟨o, h1, h2, _⟩ := p
    exact PySem.W.kia_one PySem.W.kitx_tuple I.kIn ⟨o, h1, h2⟩ e (fun z => nomatch z) h
  | @dK a kvs ea =>
    cases (show u = Value.ref a from rx)
    obtain ⟨_, _, vs, _, p⟩ := (show ObjOk X.prog X.w H s.heap a (.dK kvs) from I.hok a _ ea)
    obtain ⟨o, es, ep, h1, h2, _⟩ := p
    exact PySem.W.kia_one PySem.W.kitx_dict I.kIn ⟨o, h1, h2.1⟩ e (fun z => nomatch z) h
  | @dT a kvs ea =>
    cases (show u = Value.ref a from rx)
    obtain ⟨_, _, xs, _, o, es, ep, h1, h2, _⟩ := (show ObjOk X.prog X.w H s.heap a (.dT kvs) from I.hok a _ ea)
    exact PySem.W.kia_one PySem.W.kitx_dict I.kIn ⟨o, h1, h2.1⟩ e (fun z => nomatch z) h
  | @ins a C dx fs ea cl ha hn htk hm =>
    cases (show u = Value.ref a from rx)
    obtain ⟨mA, O, _⟩ := ins_get I.hok ea
    obtain ⟨od, J, _⟩ := O.look
    exact PySem.W.kia_one (PySem.W.kitx_own (cl.get _) cl.hd ha hn htk hm) I.kIn J e (fun z => nomatch z) h
end
end L2
namespace L2
open PySem PySem.Spec PyProof.Rows
structure Room (k : Nat) (A : Around) : Prop where
  hd : A.handled = none
  dp : A.depth + 3 * k + 5 < recursionLimit
  un : A.units + 16 * k + 200 < cLine
theorem Room.mono {j k : Nat} {A : Around} (r : Room k A) (h : j ≤ k) : Room j A := ⟨r.hd, by have := r.dp; omega, by have := r.un; omega⟩
theorem Room.deeper {k : Nat} {A : Around} (r : Room (k + 1) A) (env : Env) : Room k (A.deeper env) :=
  ⟨r.hd, by have := r.dp; show A.depth + 1 + 3 * k + 5 < _; omega, by have := r.un; show A.units + 3 + 16 * k + 200 < _; omega⟩
theorem Room.in1 {k : Nat} {A : Around} (r : Room (k + 1) A) : Room k A.in1 :=
  ⟨r.hd, by have := r.dp; show A.depth + 3 * k + 5 < _; omega, by have := r.un; show A.units + 1 + 16 * k + 200 < _; omega⟩
theorem make_depth {A : Around} {C : Addr} {us : List Value} {kw : List (Str × Value)} : (A.under (.builtin "type.__call__" ⟨.ref C :: us, kw⟩)).depth = A.depth + 1 := by
  first | rfl | simp [Around.under, Code.weight, Code.isCreation, Code.isGuard, Code.isCaller, Code.frames, Code.isFrame, guardIds]
theorem make_units {A : Around} {C : Addr} {us : List Value} {kw : List (Str × Value)} : (A.under (.builtin "type.__call__" ⟨.ref C :: us, kw⟩)).units = A.units + 1 := by
  first | rfl | simp [Around.under, Code.cUnits, Code.frames, Code.isFrame]
theorem Room.make {k : Nat} {A : Around} (r : Room (k + 1) A) (C : Addr) (us : List Value) (kw : List (Str × Value)) : Room k (A.under (.builtin "type.__call__" ⟨.ref C :: us, kw⟩)) :=
  ⟨r.hd, by have := r.dp; rw [make_depth]; omega, by have := r.un; rw [make_units]; omega⟩
theorem Room.depth {k : Nat} {A : Around} (r : Room k A) : A.depth < recursionLimit := by have := r.dp; omega
theorem Room.units {k : Nat} {A : Around} (r : Room k A) : A.units + 64 < cLine := by have := r.un; omega
def tNil : TA := fun _ H Q => Q [] H
def tCons (ta : TE) (tr : TA) : TA := fun σ H Q => ta σ H fun x H1 => tr σ H1 fun xs H2 => Q (x :: xs) H2
section
variable {X : Cx} {e : Expr} {es : List Expr} {te : TE} {t : TA} {pos : Pos}
theorem pa_nil : PA X [] tNil := fun _ _ _ _ H Q I h => Calls.spliced_nil ⟨[], H, I, .nil, h⟩
theorem pa_cons (ha : PE X e te) (hr : PA X es t) (hs : starEach (e :: es) X.env = (false, eval e X.env) :: starEach es X.env := by rfl) : PA X (e :: es) (tCons te t) := by
  intro pos pins s σ H Q I h
  rw [hs]
  show wpAny _ _ (spliced ((false, eval e X.env) :: backTo pos (starEach es X.env))) _ _ s
  refine Calls.spliced_cons (thn (ha pins s σ H _ I h) fun u s1 ⟨x, H1, I1, r1, q1⟩ => ?_)
  exact thn (hr pos pins s1 σ H1 _ I1 q1) fun us s2 ⟨xs, H2, I2, r2, q2⟩ => ⟨x :: xs, H2, I2, .cons r1 r2, q2⟩
/-- a tuple, a list of written items -/
def tTup (t : TA) : TE := fun σ H Q => t σ H fun xs H1 => xs.length ≤ sizeLine ∧ ∀ p, H1 p = none → Q (.ref p) (upd H1 p (.tup xs))
def tLst (t : TA) : TE := fun σ H Q => t σ H fun xs H1 => xs.length ≤ sizeLine ∧ ∀ p, H1 p = none → Q (.ref p) (upd H1 p (.lst xs))
theorem pe_tup {x1} (h : PA X es t) : PE X (.Tuple es x1 pos) (tTup t) := by
  intro pins s σ H Q I hq
  refine wpAny_Tuple_spliced (thn (h pos pins s σ H _ I hq) fun us s1 ⟨xs, H1, I1, r, z, q⟩ => ⟨by rw [← r.length]; exact z, ?_⟩)
  have hf : H1 s1.heap.objs.size = none := I1.hok.fresh (Nat.le_refl _)
  refine ⟨.ref s1.heap.objs.size, upd H1 s1.heap.objs.size (.tup xs), I1.laid (t' := s1.toks) (fun b u e => Heap.get?_push_of_some _ e) (Nat.le_refl _) ?_, rfl, q _ hf⟩
  exact ⟨z, us, r, ⟨_, Heap.get?_push_size _ rfl, rfl, _, rfl⟩⟩
theorem pe_lst (h : PA X es t) : PE X (.List es pos) (tLst t) := by
  intro pins s σ H Q I hq
  refine wpAny_List_spliced (thn (h pos pins s σ H _ I hq) fun us s1 ⟨xs, H1, I1, r, z, q⟩ => ⟨by rw [← r.length]; exact z, ?_⟩)
  have hf : H1 s1.heap.objs.size = none := I1.hok.fresh (Nat.le_refl _)
  refine ⟨.ref s1.heap.objs.size, upd H1 s1.heap.objs.size (.lst xs), I1.laid (t' := s1.toks) (fun b u e => Heap.get?_push_of_some _ e) (Nat.le_refl _) ?_, rfl, q _ hf⟩
  exact ⟨z, us, 0, r, Heap.get?_push_size _ rfl⟩
end
/-- a def's promise: the bound arguments in the parameters' order, the heap, the wanted end, the wanted exception -/
abbrev Sp := List V → Hp → VK → XK → Prop
/-- how an exception lies behind a call (file 08 gives it): the callers' frames, abstract heap and state ahead of the call, the wish, the exception, the state -/
abbrev CXT := List Env → Hp → Shared → XK → Value → Shared → Prop
/-- the state at a call -/
structure Env0 (P : Program) (w : World) (K : PySem.W.Frag) (mg : Str → Option Value) (base : Heap) (A : Around) (outer : List Env) (s : Shared) (H : Hp) : Prop where
  frames : A.frames = some outer
  mod : Mod K mg base
  bs : ∀ b o, base.get? b = some o → s.heap.get? b = some o ∧ H b = none
  bsz : base.objs.size ≤ s.heap.objs.size
  funs : s.heap.FunFrames base outer
  frf : ∀ b ∈ frs outer, H b = none
  hok : HOk P w H s.heap
  bare : AllBare s.gens
/-- a call's end -/
def CE (outer : List Env) (P : Program) (w : World) (H : Hp) (s : Shared) (Q : VK) (u : Value) (s' : Shared) : Prop :=
  ∃ v H', s'.os = s.os ∧ AllBare s'.gens ∧ Un (frs outer) [] H H' s.heap s'.heap ∧ HOk P w H' s'.heap ∧ RelV v u ∧ Q v H'
def CR (CX : CXT) (outer : List Env) (P : Program) (w : World) (H : Hp) (s : Shared) (Q : VK) (E : XK) (r : Result) (s' : Shared) : Prop :=
  match r with
  | .ok (.ret u) => CE outer P w H s Q u s'
  | .ok _ => False
  | .error e => CX outer H s E e s'
structure FnOk (P : Program) (w : World) (K : PySem.W.Frag) (mg : Str → Option Value) (base : Heap) (CX : CXT) (k : Nat) (f : Addr) (fd : FuncData) (ps : List Str) (sp : Sp) : Prop where
  len : ∀ vs H Q E, sp vs H Q E → vs.length = ps.length
  run : ∀ (A : Around) (outer : List Env) (s : Shared) (H : Hp) (args : Args) (us : List Value) (vs : List V) (Q : VK) (E : XK), Room k A → Env0 P w K mg base A outer s H → BindsTo s fd args (ps.zip us) → Vals vs us → sp vs H Q E →
    codeAny (model P w) A (.call (.ref f) args) (CR CX outer P w H s Q E) s
theorem FnOk.mono {P : Program} {w : World} {K : PySem.W.Frag} {mg : Str → Option Value} {base : Heap} {CX : CXT} {j k : Nat} {f : Addr} {fd : FuncData} {ps : List Str} {sp : Sp} (F : FnOk P w K mg base CX j f fd ps sp) (h : j ≤ k) :
    FnOk P w K mg base CX k f fd ps sp := ⟨F.len, fun A outer s H args us vs Q E hr => F.run A outer s H args us vs Q E (hr.mono h)⟩
/-- a weaker promise -/
theorem FnOk.imp {P : Program} {w : World} {K : PySem.W.Frag} {mg : Str → Option Value} {base : Heap} {CX : CXT} {k : Nat} {f : Addr} {fd : FuncData} {ps : List Str} {sp sp' : Sp} (F : FnOk P w K mg base CX k f fd ps sp)
    (h : ∀ vs H Q E, sp' vs H Q E → sp vs H Q E) : FnOk P w K mg base CX k f fd ps sp' :=
  ⟨fun vs H Q E q => F.len vs H Q E (h _ _ _ _ q), fun A outer s H args us vs Q E hr he hb hv hs => F.run A outer s H args us vs Q E hr he hb hv (h _ _ _ _ hs)⟩
theorem Env0.make {P : Program} {w : World} {K : PySem.W.Frag} {mg : Str → Option Value} {base : Heap} {A : Around} {outer : List Env} {s : Shared} {H : Hp} (e : Env0 P w K mg base A outer s H) (C : Addr) (us : List Value) (kw : List (Str × Value)) :
    Env0 P w K mg base (A.under (.builtin "type.__call__" ⟨.ref C :: us, kw⟩)) outer s H := ⟨by first | exact e.frames | (simpa [Around.under, Code.envs, Code.isFrame, pushEnvs] using e.frames), e.mod, e.bs, e.bsz, e.funs, e.frf, e.hok, e.bare⟩
theorem Env0.in1 {P : Program} {w : World} {K : PySem.W.Frag} {mg : Str → Option Value} {base : Heap} {A : Around} {outer : List Env} {s : Shared} {H : Hp} (e : Env0 P w K mg base A outer s H) :
    Env0 P w K mg base A.in1 outer s H := ⟨e.frames, e.mod, e.bs, e.bsz, e.funs, e.frf, e.hok, e.bare⟩
section
variable {X : Cx} {pins : List (Addr × Obj)} {σ : St} {H : Hp} {s s' : Shared}
/-- from a body: what a callee wants -/
theorem Inv.env0 (I : Inv X pins σ H s) : Env0 X.prog X.w X.K X.mg X.base X.A X.stack s H :=
  ⟨I.ok.frames, I.ok.mod, I.bs, Nat.le_trans I.ok.bsz I.sz, I.stack, I.stkFree, I.hok, I.bare⟩
/-- behind a call -/
theorem Inv.after {Q : VK} {u : Value} (I : Inv X pins σ H s) (h : CE X.stack X.prog X.w H s Q u s') : EP X pins σ Q u s' := by
  obtain ⟨v, H', os, bare, un, hok, r, q⟩ := h
  obtain ⟨hh, g, d, t, os'⟩ := s'
  obtain rfl : os' = s.os := os
  exact ⟨v, H', I.call (h' := hh) (g' := g) (d' := d) (t' := t) (ch := []) un hok bare (fun b z => absurd z (by simp)), r, q⟩
end
/-- f(..): the written arguments, then the defaults dvs; E: what is wanted of an exception -/
def tCall (sp : Sp) (dvs : List V) (E : XK) (t : TA) : TE := fun σ H Q => t σ H fun vs H1 => sp (vs ++ dvs) H1 Q E
/-- C(..): a new instance and its dict, then __init__ -/
def tMake (C : Addr) (sp : Sp) (dvs : List V) (E : XK) (t : TA) : TE := fun σ H Q => t σ H fun vs H1 => ∀ x dx, H1 x = none → H1 dx = none → dx ≠ x →
  sp (.ref x :: (vs ++ dvs)) (upd (upd H1 dx (.own x)) x (.ins C dx [])) (fun v H2 => v = .non ∧ Q (.ref x) H2) E
/-- how the parameters are bound: us the positional arguments, kw the keywords' values by name, ds the defaults that fill up -/
def Binds (K : PySem.W.Frag) (fd : FuncData) (ps : List Str) (ds : List Value) : Prop :=
  ∀ (s : Shared) (us : List Value), K.In s.heap → (us ++ ds).length = ps.length → BindsTo s fd ⟨us, []⟩ (ps.zip (us ++ ds))
/-- every parameter is given -/
theorem Binds.all {K : PySem.W.Frag} {fd : FuncData} {ps : List Str} (h : ∀ us : List Value, us.length = ps.length → bindArgs fd ⟨us, []⟩ = pure (ps.zip us)) : Binds K fd ps [] := fun s us _ hl => by
  rw [List.append_nil] at hl ⊢
  exact .of_eq (h us hl)
/-- an exception of a callee reaches what this body wants of exceptions -/
def Passes (CX : CXT) (X : Cx) (E : XK) : Prop := ∀ (pins : List (Addr × Obj)) (σ : St) (H : Hp) (s : Shared) (e : Value) (s' : Shared), Inv X pins σ H s → CX X.stack H s E e s' → X.xe e s'
section
variable {X : Cx} {CX : CXT} {k : Nat} {f C : Addr} {fd : FuncData} {ps : List Str} {sp : Sp} {dvs : List V} {ds : List Value} {E : XK} {x m : Str} {p pos apos : Pos} {e o : Expr} {es : List Expr} {ta : TE} {t : TA}
/-- the callee runs -/
theorem run_fn {pins : List (Addr × Obj)} {σ : St} {H : Hp} {s : Shared} {Q : VK} {us : List Value} {vs : List V} (F : FnOk X.prog X.w X.K X.mg X.base CX k f fd ps sp) (hr : Room k X.A) (hb : Binds X.K fd ps ds) (hd : Vals dvs ds) (hx : Passes CX X E)
    (I : Inv X pins σ H s) (r : Vals vs us) (h : sp (vs ++ dvs) H Q E) : wpAny (model X.prog X.w) X.A (call (.ref f) us) (EP X pins σ Q) X.xe s := by
  have r2 : Vals (vs ++ dvs) (us ++ ds) := r.append hd
  have hl : (us ++ ds).length = ps.length := by rw [← r2.length]; exact F.len _ _ _ _ h
  refine wpAny_call (codeAny_mono (F.run X.A X.stack s H ⟨us, []⟩ (us ++ ds) (vs ++ dvs) Q E hr I.env0 (hb s us I.kIn hl) r2 h) fun r s' hq => ?_)
  cases r with
  | error e => exact hx pins σ H s e s' I hq
  | ok fl =>
    cases fl with
    | ret u => exact I.after hq
    | next => exact False.elim hq
    | brk => exact False.elim hq
    | cont => exact False.elim hq
theorem pe_call (F : FnOk X.prog X.w X.K X.mg X.base CX k f fd ps sp) (hr : Room k X.A) (hg : Gl X x) (hm : X.mg x = some (.ref f)) (hk : PySem.W.keepIn X.K (.ref f) = true) (hb : Binds X.K fd ps ds) (hd : Vals dvs ds) (hx : Passes CX X E)
    (ha : PA X (e :: es) t) (hdb : (x == ("__debug__" : Str)) = false := by decide) (he : starEach (e :: es) X.env = (false, eval e X.env) :: starEach es X.env := by rfl) (hpl : (backTo pos (starEach es X.env)).any (·.1) = false := by rfl) :
    PE X (.Call (.Name x p) (e :: es) [] pos) (tCall sp dvs E t) := by
  intro pins s σ H Q I h
  refine wpAny_Call_Name_kw (ld_glob I hg hm ?_ hdb)
  refine PySem.W.callWith_K (h₀ := X.base) I.ok.mod.kin hk (thn (ha pos pins s σ H _ I h) fun us s1 ⟨vs, H1, I1, r, q⟩ => ⟨I1.kIn, ?_⟩) he hpl
  exact run_fn F hr hb hd hx I1 r q
/-- what a class must have to be made -/
structure Mk (K : PySem.W.Frag) (C f : Addr) : Prop where
  makes : PySem.W.makesIn K C = true
  init : PySem.W.findIn K (.ref C) "__init__" = some (some (.ref f))
  fn : PySem.W.isFn K (.ref f) = true
  kp : PySem.W.keepIn K (.ref C) = true
theorem run_make {pins : List (Addr × Obj)} {σ : St} {H : Hp} {s : Shared} {Q : VK} {us : List Value} {vs : List V} (M : Mk X.K C f) (F : FnOk X.prog X.w X.K X.mg X.base CX k f fd ps sp) (hr : Room (k + 1) X.A) (hb : Binds X.K fd ps ds) (hd : Vals dvs ds)
    (hx : Passes CX X E) (I : Inv X pins σ H s) (r : Vals vs us)
    (h : ∀ x dx, H x = none → H dx = none → dx ≠ x → sp (.ref x :: (vs ++ dvs)) (upd (upd H dx (.own x)) x (.ins C dx [])) (fun v H2 => v = .non ∧ Q (.ref x) H2) E) :
    wpAny (model X.prog X.w) X.A (call (.ref C) us) (EP X pins σ Q) X.xe s := by
  have hq := h (s.heap.objs.size + 1) s.heap.objs.size (I.hok.fresh (Nat.le_succ _)) (I.hok.fresh (Nat.le_refl _)) (Nat.ne_of_lt (Nat.lt_succ_self _))
  have I2 := Inv.made (C := C) I
  have r2 : Vals (V.ref (s.heap.objs.size + 1) :: (vs ++ dvs)) (Value.ref (s.heap.objs.size + 1) :: (us ++ ds)) := .cons rfl (r.append hd)
  have hl : (Value.ref (s.heap.objs.size + 1) :: us ++ ds).length = ps.length := by
    have e := r2.length
    rw [F.len _ _ _ _ hq] at e
    exact e.symm
  refine wpAny_call (make_map (f := f) I.kIn M.makes M.init (beq_iff_eq.mp M.fn) (codeAny_mono (F.run _ X.stack _ _ ⟨Value.ref (s.heap.objs.size + 1) :: us, []⟩ (Value.ref (s.heap.objs.size + 1) :: (us ++ ds)) _ _ E (hr.make C us [])
    (I2.env0.make C us []) (hb _ (Value.ref (s.heap.objs.size + 1) :: us) I2.kIn hl) r2 hq) fun r s' hq' => ?_))
  cases r with
  | error e => exact hx pins σ _ _ e s' I2 hq'
  | ok fl =>
    cases fl with
    | ret u =>
      obtain ⟨v, H', I3, rv, ev, q3⟩ := I2.after hq'
      subst ev
      exact ⟨rv, ⟨V.ref (s.heap.objs.size + 1), H', I3, rfl, q3⟩⟩
    | next => exact False.elim hq'
    | brk => exact False.elim hq'
    | cont => exact False.elim hq'
theorem pe_make (M : Mk X.K C f) (F : FnOk X.prog X.w X.K X.mg X.base CX k f fd ps sp) (hr : Room (k + 1) X.A) (hg : Gl X x) (hm : X.mg x = some (.ref C)) (hb : Binds X.K fd ps ds) (hd : Vals dvs ds) (hx : Passes CX X E)
    (ha : PA X (e :: es) t) (hdb : (x == ("__debug__" : Str)) = false := by decide) (he : starEach (e :: es) X.env = (false, eval e X.env) :: starEach es X.env := by rfl) (hpl : (backTo pos (starEach es X.env)).any (·.1) = false := by rfl) :
    PE X (.Call (.Name x p) (e :: es) [] pos) (tMake C sp dvs E t) := by
  intro pins s σ H Q I h
  refine wpAny_Call_Name_kw (ld_glob I hg hm ?_ hdb)
  refine PySem.W.callWith_K (h₀ := X.base) I.ok.mod.kin M.kp (thn (ha pos pins s σ H _ I h) fun us s1 ⟨vs, H1, I1, r, q⟩ => ⟨I1.kIn, ?_⟩) he hpl
  exact run_make M F hr hb hd hx I1 r q
end
section
variable {X : Cx} {CX : CXT} {k : Nat} {f C : Addr} {fd : FuncData} {ps ks : List Str} {sp : Sp} {E : XK} {x m : Str} {p pos apos kpos : Pos} {e o : Expr} {es : List Expr} {kws : List Keyword} {te ta : TE} {t tk : TA} {nm : Option Str}
/-- how a call with keywords binds: g puts the positional values us and the keywords' values ws (names ks) in the parameters' order, defaults among them -/
structure KBinds (K : PySem.W.Frag) (fd : FuncData) (ps ks : List Str) (g : List Value → List Value → List Value) (gV : List V → List V → List V) : Prop where
  to : ∀ (s : Shared) (us ws : List Value), K.In s.heap → (g us ws).length = ps.length → BindsTo s fd ⟨us, ks.zip ws⟩ (ps.zip (g us ws))
  rel : ∀ {vs : List V} {us : List Value} {zs : List V} {ws : List Value}, Vals vs us → Vals zs ws → Vals (gV vs zs) (g us ws)
variable {g : List Value → List Value → List Value} {gV : List V → List V → List V}
end
/-- names: the parameters first -/
structure FnScope (N P : List Str) (sc : Scope) : Prop where
  kind : sc.kind = .function
  co : sc.isCoroutine = false
  gen : sc.isGenerator = false
  nd : N.Nodup
  pre : N.take P.length = P
  par : ∀ x ∈ P, sc.names.lookup x = some .local ∨ sc.names.lookup x = some .cell
  nofree : ∀ y ∈ sc.names, y.2 ≠ .free
theorem bindL_out {kindOf : Str → Option NameKind} {x : Str} : ∀ {binds : List (Str × Value)} {m : Str → Option Value}, (∀ v, (x, v) ∉ binds) → bindL kindOf binds m x = m x
  | [], _, _ => rfl
  | (n, v) :: r, m, h => by
    unfold bindL
    rw [bindL_out fun w hw => h w (List.mem_cons_of_mem _ hw)]
    split
    · have : x ≠ n := by rintro rfl; exact h v List.mem_cons_self
      simp [this]
    · rfl
theorem bindC_out {kindOf : Str → Option NameKind} {x : Str} : ∀ {binds : List (Str × Value)} {m : Str → Option Value}, (∀ v, (x, v) ∉ binds) → bindC kindOf binds m x = m x
  | [], _, _ => rfl
  | (n, v) :: r, m, h => by
    unfold bindC
    rw [bindC_out fun w hw => h w (List.mem_cons_of_mem _ hw)]
    split
    · rfl
    · have : x ≠ n := by rintro rfl; exact h v List.mem_cons_self
      simp [this]
theorem bindL_get {kindOf : Str → Option NameKind} {x : Str} {v : Value} : ∀ {P : List Str} {vs : List Value} {i : Nat} {m : Str → Option Value}, P.Nodup → P[i]? = some x → vs[i]? = some v → kindOf x = some .local →
    bindL kindOf (P.zip vs) m x = some v
  | [], _, _, _, _, h, _, _ => by simp at h
  | _ :: _, [], _, _, _, _, h, _ => by simp at h
  | p :: P, w :: vs, 0, m, nd, h1, h2, hk => by
    simp at h1 h2; subst h1; subst h2
    show bindL kindOf ((p, w) :: P.zip vs) m p = _
    unfold bindL
    rw [bindL_out fun v hv => (List.nodup_cons.mp nd).1 (List.of_mem_zip hv).1, if_pos hk]
    simp
  | p :: P, w :: vs, i + 1, m, nd, h1, h2, hk => by
    show bindL kindOf ((p, w) :: P.zip vs) m x = _
    unfold bindL
    exact bindL_get (i := i) (List.nodup_cons.mp nd).2 (by simpa using h1) (by simpa using h2) hk
theorem bindC_get {kindOf : Str → Option NameKind} {x : Str} {v : Value} : ∀ {P : List Str} {vs : List Value} {i : Nat} {m : Str → Option Value}, P.Nodup → P[i]? = some x → vs[i]? = some v → kindOf x ≠ some .local →
    bindC kindOf (P.zip vs) m x = some v
  | [], _, _, _, _, h, _, _ => by simp at h
  | _ :: _, [], _, _, _, _, h, _ => by simp at h
  | p :: P, w :: vs, 0, m, nd, h1, h2, hk => by
    simp at h1 h2; subst h1; subst h2
    show bindC kindOf ((p, w) :: P.zip vs) m p = _
    unfold bindC
    rw [bindC_out fun v hv => (List.nodup_cons.mp nd).1 (List.of_mem_zip hv).1, if_neg hk]
    simp
  | p :: P, w :: vs, i + 1, m, nd, h1, h2, hk => by
    show bindC kindOf ((p, w) :: P.zip vs) m x = _
    unfold bindC
    exact bindC_get (i := i) (List.nodup_cons.mp nd).2 (by simpa using h1) (by simpa using h2) hk
/-- the names' values at the entry -/
def start (N : List Str) (vs : List V) : St := vs.map some ++ List.replicate (N.length - vs.length) none
/-- the context of a def's body, at its entry; an exception leaves the frame, then lies as CX says -/
def cxOf (CX : CXT) (P : Program) (w : World) (K : PySem.W.Frag) (mg : Str → Option Value) (base : Heap) (N : List Str) (qual : Str) (scope : Scope) (f : Addr) (cd : Value) (A : Around) (outer : List Env) (s : Shared) (H : Hp) (E : XK) : Cx where
  prog := P
  w := w
  K := K
  mg := mg
  base := base
  A := A.deeper (envOfC qual scope s.heap.objs.size f cd)
  N := N
  s₀ := s
  H₀ := H
  env := envOfC qual scope s.heap.objs.size f cd
  outer := outer
  stack := envOfC qual scope s.heap.objs.size f cd :: outer
  ex := []
  calm := true
  fn := fun _ => true
  pn := []
  xe := fun e s' => wpAny (model P w) (A.deeper (envOfC qual scope s.heap.objs.size f cd)) (leaving (envOfC qual scope s.heap.objs.size f cd) e) (fun _ s'' => CX outer H s E e s'') (fun e' s'' => CX outer H s E e' s'') s'
theorem cell_has {sc : Scope} {n : Nat} {x : Str} (h : sc.names.lookup x = some .cell) : ∃ c, (cellsFrom n sc.names []).lookup x = some c := by
  have q := PySem.W.cellsFrom_some sc.names n [] (.inl h)
  exact Option.isSome_iff_exists.mp q
theorem inv_start {CX : CXT} {P : Program} {w : World} {K : PySem.W.Frag} {mg : Str → Option Value} {base : Heap} {N ps : List Str} {qual : Str} {scope : Scope} {f : Addr} {cd : Value} {A : Around} {outer : List Env} {s s1 : Shared} {H : Hp} {E : XK} {us : List Value} {vs : List V}
    (S : FnScope N ps scope) (hd : A.handled = none) (e0 : Env0 P w K mg base A outer s H) (hl : vs.length = ps.length) (r : Vals vs us)
    (x : InCallC s s.heap.objs.size (bindL (envOfC qual scope s.heap.objs.size f cd).kindOf (ps.zip us) fun _ => none) (cellsFrom (s.heap.objs.size + 1) scope.names []) (bindC (envOfC qual scope s.heap.objs.size f cd).kindOf (ps.zip us) fun _ => none) s1) :
    Inv (cxOf CX P w K mg base N qual scope f cd A outer s H E) [] (start N vs) H s1 := by
  have hpl : ps.length ≤ N.length := by have := congrArg List.length S.pre; rw [List.length_take] at this; omega
  obtain ⟨h1, tk, rfl, hk⟩ := x.done
  have noA : ∀ b : Addr, b ∉ (cxOf CX P w K mg base N qual scope f cd A outer s H E).ex := fun b z => absurd (show b ∈ ([] : List Addr) from z) (by simp)
  refine ⟨⟨e0.mod, S.kind, rfl, rfl, Nat.le_refl _, fun y z c h1 h2 => ?_, fun y hy => ?_, fun y c _ h => ?_, fun _ => hd, Around.frames_deeper e0.frames, .inr ⟨rfl, rfl⟩, fun b z => absurd z (noA b), e0.bs, e0.bsz, fun b _ _ => noA b, fun b z => absurd z (noA b), e0.funs, e0.frf⟩,
    rfl, e0.bare, Un.kept hk, ⟨_, x.toInCall.ns, fun i y v h1 h2 h3 => ?_⟩, fun y c h => ⟨_, x.cell y c h⟩, e0.hok.fresh (Nat.le_refl _), fun y c h => ?_, fun p hp => absurd (show p ∈ ([] : List (Addr × Obj)) from hp) (by simp), e0.hok.kept hk, ?_⟩
  · exact name_of_addr x.apart (PySem.mem_of_lookup h1) (PySem.mem_of_lookup h2)
  · have hy : scope.names.lookup y = some .cell ∨ scope.names.lookup y = some .free := hy
    rcases hy with hy | hy
    · exact cell_has hy
    · exact absurd rfl (S.nofree _ (PySem.mem_of_lookup hy))
  · exact Nat.le_of_lt (x.above y c (PySem.mem_of_lookup h))
  · have hi : i < vs.length := by
      unfold start at h2
      by_cases hi : i < vs.length
      · exact hi
      · rw [List.getElem?_append_right (by simpa using hi)] at h2
        rw [List.getElem?_replicate] at h2
        split at h2 <;> cases h2
    have ha : vs[i]? = some v := by
      unfold start at h2
      rw [List.getElem?_append_left (by simpa using hi), List.getElem?_map] at h2
      cases e : vs[i]? with
      | none => rw [e] at h2; cases h2
      | some a => rw [e] at h2; cases h2; rfl
    obtain ⟨u, hu, rv⟩ := r.get ha
    have hp : ps[i]? = some y := by
      rw [← S.pre, List.getElem?_take_of_lt (by omega)]; exact h1
    have ndP : ps.Nodup := by rw [← S.pre]; exact S.nd.sublist (List.take_sublist _ _)
    refine ⟨u, rv, ?_⟩
    rcases S.par y (List.mem_of_getElem? hp) with k | k
    · exact .inl ⟨k, bindL_get ndP hp hu k⟩
    · obtain ⟨c, e⟩ := cell_has (n := s.heap.objs.size + 1) k
      refine .inr ⟨.inl k, c, e, ?_⟩
      have q := x.cell y c e
      rw [bindC_get ndP hp hu (by show scope.names.lookup y ≠ _; rw [k]; decide)] at q
      exact q
  · exact e0.hok.fresh (Nat.le_of_lt (x.above y c (PySem.mem_of_lookup h)))
  · unfold start
    show _ = N.length
    rw [List.length_append, List.length_map, List.length_replicate]
    omega
/-- THE RULE: a def (or a method) of the text, by its body. The body's reading t is chosen for each entry; it is run at the parameters' values -/
theorem fn_of {CX : CXT} {P : Program} {w : World} {K : PySem.W.Frag} {mg : Str → Option Value} {base : Heap} {k : Nat} {f : Addr} {name qual : Str} {params : Arguments} {body : List Stmt} {scope : Scope} {dV kV doc pm cdv ct oc : Value} {an od : Option Addr}
    {osl : Array (Option Value)} {N ps : List Str} {sp : Sp} (lk : K.lookup f = some ⟨oc, od, .func (PySem.W.fnOf name qual params body scope dV kV doc pm an cdv ct), osl⟩) (hcd : PySem.W.codeIn K cdv qual = true) (S : FnScope N ps scope)
    (len : ∀ vs H Q E, sp vs H Q E → vs.length = ps.length)
    (hbody : ∀ (A : Around) (outer : List Env) (s : Shared) (H : Hp) (vs : List V) (Q : VK) (E : XK), Room k (A.deeper (envOfC qual scope s.heap.objs.size f cdv)) → sp vs H Q E →
      ∃ t, PSs (cxOf CX P w K mg base N qual scope f cdv A outer s H E) body t ∧ t { nx := fun _ H' => Q .non H', rt := Q } (start N vs) H) :
    FnOk P w K mg base CX (k + 1) f (PySem.W.fnOf name qual params body scope dV kV doc pm an cdv ct) ps sp := by
  refine ⟨len, fun A outer s H args us vs Q E hr e0 hb r hsp => ?_⟩
  have hl := len _ _ _ _ hsp
  have KX : K.In s.heap := e0.mod.kin.keeps fun b o e => (e0.bs b o e).1
  have lim : s.heap.NoLimit := e0.mod.nolimit.keeps fun b o e => (e0.bs b o e).1
  have hkind : ∀ y ∈ ps.zip us, scope.names.lookup y.1 = some .local ∨ (scope.names.lookup y.1 = some .cell ∧ ((cellsFrom (s.heap.objs.size + 1) scope.names []).lookup y.1).isSome = true) := fun ⟨n, v⟩ hy => by
    rcases S.par n (List.of_mem_zip hy).1 with q | q
    · exact .inl q
    · exact .inr ⟨q, PySem.W.cellsFrom_some _ _ _ (.inl q)⟩
  refine codeAny_call_function hr.depth (KX _ _ lk) rfl S.co S.gen rfl (PySem.W.codeRec_of KX hcd) (hb _ _ _ _ ?_)
  refine wpAny_newFunctionEnv_cells S.kind hkind fun env he s1 x => ?_
  subst he
  refine ⟨lim.keeps x.toInCall.keep, codeAny_func ?_⟩
  obtain ⟨t, ht, hq⟩ := hbody A outer s H vs Q E (hr.deeper _) hsp
  have I : Inv (cxOf CX P w K mg base N qual scope f cdv A outer s H E) [] (start N vs) H s1 := inv_start S hr.hd e0 hl r x
  refine wpAny_mono (ht [] s1 (start N vs) H _ I hq) (fun fl s' hs => ?_) fun e s' hs => hs
  have fin : ∀ {σ' : St} {H' : Hp} {v : V} {u : Value}, Inv (cxOf CX P w K mg base N qual scope f cdv A outer s H E) [] σ' H' s' → RelV v u → Q v H' → CE outer P w H s Q u s' :=
    fun {σ' H' v u} J rv q => ⟨v, H', J.os, J.bare, J.base, J.hok, rv, q⟩
  cases fl with
  | ret u =>
    obtain ⟨v, σ', H', J, rv, q⟩ := hs
    exact fin J rv q
  | next =>
    obtain ⟨σ', H', J, q⟩ := hs
    exact fin (v := V.non) (u := Value.none) J rfl q
  | brk =>
    obtain ⟨_, _, _, q⟩ := hs
    exact False.elim q
  | cont =>
    obtain ⟨_, _, _, q⟩ := hs
    exact False.elim q
end L2
namespace L2
open PySem PySem.Spec PyProof.Rows
section
variable {X : Cx} {x : Str} {p pos : Pos} {e : Expr} {es : List Expr} {t : TA} {id T : String} {r : List V → Hp → VK → Prop}
def tCB (r : List V → Hp → VK → Prop) (t : TA) : TE := fun σ H Q => t σ H fun vs H1 => r vs H1 Q
/-- f(e, ..), f a built-in function -/
theorem pe_callB (hc : CallR X (.builtin id) r) (hg : Gl X x) (hm : X.mg x = none) (hv : bootBuiltins x = some (.builtin id)) (ha : PA X (e :: es) t) (hn : x ≠ "__name__" := by decide) (hdb : (x == ("__debug__" : Str)) = false := by decide)
    (he : starEach (e :: es) X.env = (false, eval e X.env) :: starEach es X.env := by rfl) (hpl : (backTo pos (starEach es X.env)).any (·.1) = false := by rfl) : PE X (.Call (.Name x p) (e :: es) [] pos) (tCB r t) := by
  intro pins s σ H Q I h
  refine wpAny_Call_Name_kw (ld_blt I hg hm hv ?_ hn hdb)
  exact PyProof.Rows.callWith_builtin1 (thn (ha pos pins s σ H _ I h) fun us s1 ⟨vs, H1, I1, r1, q1⟩ => hc pins s1 σ H1 vs us Q I1 r1 q1) he hpl
/-- T(e, ..), T a built-in type -/
theorem pe_callTy (hc : CallR X (.type T) r) (hg : Gl X x) (hm : X.mg x = none) (hv : bootBuiltins x = some (.type T)) (ha : PA X (e :: es) t) (hn : x ≠ "__name__" := by decide) (hdb : (x == ("__debug__" : Str)) = false := by decide)
    (he : starEach (e :: es) X.env = (false, eval e X.env) :: starEach es X.env := by rfl) (hpl : (backTo pos (starEach es X.env)).any (·.1) = false := by rfl) : PE X (.Call (.Name x p) (e :: es) [] pos) (tCB r t) := by
  intro pins s σ H Q I h
  refine wpAny_Call_Name_kw (ld_blt I hg hm hv ?_ hn hdb)
  exact PyProof.Rows.callWith_type1 (thn (ha pos pins s σ H _ I h) fun us s1 ⟨vs, H1, I1, r1, q1⟩ => hc pins s1 σ H1 vs us Q I1 r1 q1) he hpl
end
end L2
namespace HT
open PySem PyProof.Rows
theorem eqAt_int (A : Around) (s : Shared) (a : Int) (t : Tok) (c : Int) (u : Tok) : ∃ e, SeqAt.EqAt A s (.int a t) (.int c u) e ∧ (e = true ↔ a = c) :=
  ⟨(a == c), SeqAt.EqAt.int_int a t c u, by simp⟩
section
open PySem.SeqAt
open PySem.AutoSeq1 (wpAny_loadPart')
open PySem.MeetsSeq PySem.MeetsSeq2 PySem.MeetsSeq3
end
section
variable {prog : Program} {w : World} {A : Around} {E : Value → Shared → Prop} {s : Shared}
/-- a slice's bound as a place among n (d where it is left out) -/
def sIx (n d : Nat) : Option Int → Nat
  | none => d
  | some v => if v < 0 then (v + (n : Int)).toNat else min v.toNat n
theorem sIx_none (n d : Nat) : sIx n d none = d := rfl
theorem sIx_nat (n d k : Nat) : sIx n d (some (k : Int)) = min k n := by
  show (if (k : Int) < 0 then ((k : Int) + (n : Int)).toNat else min (k : Int).toNat n) = min k n
  rw [if_neg (by omega), Int.toNat_natCast]
end
end HT
namespace L2
open PySem PySem.Spec PyProof.Rows
abbrev TO := St → Hp → (Option Int → Hp → Prop) → Prop
/-- a slice's part (left out, or an int) -/
def PO (X : Cx) (e : Option Expr) (t : TO) : Prop :=
  ∀ (pins : List (Addr × Obj)) (s : Shared) (σ : St) (H : Hp) (Q : Option Int → Hp → Prop), Inv X pins σ H s → t σ H Q →
    wpAny (model X.prog X.w) X.A (evalPart e X.env) (fun u s' => ∃ o H', Inv X pins σ H' s' ∧ IsPart u o ∧ Q o H') X.xe s
def tNoPart : TO := fun _ H Q => Q none H
def tPart (t : TE) : TO := fun σ H Q => t σ H fun x H1 => ∃ i, x = .int i ∧ Q (some i) H1
theorem intsAre_of {ns : List Int} : ∀ {us : List Value}, Vals (ns.map V.int) us → IntsAre us ns := by
  induction ns with
  | nil => intro us r; rw [List.map_nil] at r; cases r; exact .nil
  | cons n ns ih =>
    intro us r
    rw [List.map_cons] at r
    cases r with
    | cons r1 r2 =>
      obtain ⟨t, e⟩ := r1
      subst e
      exact .cons n t (ih r2)
section
variable {X : Cx} {e : Expr} {te : TE} {lo hi : Option Expr} {tl th : TO} {pos p2 : Pos}
theorem po_none : PO X none tNoPart := by
  intro pins s σ H Q I h
  rw [evalPart_none]
  exact wpAny_pure ⟨none, H, I, .none, h⟩
theorem po_some (h : PE X e te) : PO X (some e) (tPart te) := by
  intro pins s σ H Q I hw
  rw [evalPart_some]
  refine thn (h pins s σ H _ I hw) fun u s1 ⟨x, H1, I1, r1, q1⟩ => ?_
  obtain ⟨i, rfl, q⟩ := q1
  obtain ⟨t, rfl⟩ := r1
  exact ⟨some i, H1, I1, .int i t, q⟩
/-- what a slice of a value is, by values: the slice object stands at sl -/
def SlR (X : Cx) (r : V → Option Int → Option Int → Hp → VK → Prop) : Prop :=
  ∀ (pins : List (Addr × Obj)) (s : Shared) (σ : St) (H : Hp) (x : V) (v vl vu : Value) (lo hi : Option Int) (sl : Addr) (Q : VK), Inv X pins σ H s → RelV x v → s.heap.IsSliceOf sl vl vu .none → IsPart vl lo → IsPart vu hi → r x lo hi H Q →
    ∃ T id, typeLookup (.type T) "__getitem__" = pure (some (.builtin id)) ∧ s.TypeIs v T ∧ wpAny (model X.prog X.w) X.A (getItem v (.ref sl)) (EP X pins σ Q) X.xe s
theorem SlR.or {r r' : V → Option Int → Option Int → Hp → VK → Prop} (h : SlR X r) (h' : SlR X r') : SlR X (fun x lo hi H Q => r x lo hi H Q ∨ r' x lo hi H Q) := by
  intro pins s σ H x v vl vu lo hi sl Q I rx hs pl pu q
  rcases q with q | q
  · exact h pins s σ H x v vl vu lo hi sl Q I rx hs pl pu q
  · exact h' pins s σ H x v vl vu lo hi sl Q I rx hs pl pu q
def tSl (r : V → Option Int → Option Int → Hp → VK → Prop) (te : TE) (tl th : TO) : TE := fun σ H Q => te σ H fun x H1 => tl σ H1 fun l H2 => th σ H2 fun u H3 => r x l u H3 Q
/-- a[lo:hi], any a -/
theorem pe_slice {r : V → Option Int → Option Int → Hp → VK → Prop} (hr : SlR X r) (he : PE X e te) (hl : PO X lo tl) (hu : PO X hi th) : PE X (.Subscript e (.Slice lo hi none p2) pos) (tSl r te tl th) := by
  intro pins s σ H Q I h
  refine Subscript_ (thn (he pins s σ H _ I h) fun v s1 ⟨x, H1, I1, r1, q1⟩ => ?_)
  refine wpAny_Slice (thn (hl pins s1 σ H1 _ I1 q1) fun vl s2 ⟨l, H2, I2, pl, q2⟩ => thn (hu pins s2 σ H2 _ I2 q2) fun vu s3 ⟨u, H3, I3, pu, q3⟩ => ?_)
  rw [evalPart_none]
  refine wpAny_pure ?_
  have I4 : Inv X pins σ H3 { s3 with heap := s3.heap.push { cls := .type "slice", data := .fields #[vl, vu, .none] } } := I3.kept (t' := s3.toks) fun b ob q => Heap.get?_push_of_some _ q
  obtain ⟨T, id, hT, ht, hg⟩ := hr pins { s3 with heap := s3.heap.push { cls := .type "slice", data := .fields #[vl, vu, .none] } } σ H3 x v vl vu l u s3.heap.objs.size Q I4 r1 (Heap.IsSliceOf.new ..) pl pu q3
  show wpAny (model X.prog X.w) X.A (subscriptTail e (.Slice lo hi none p2) v (.ref s3.heap.objs.size)) (EP X pins σ Q) X.xe { s3 with heap := s3.heap.push { cls := .type "slice", data := .fields #[vl, vu, .none] } }
  exact tail_any (ops := [.ref s3.heap.objs.size, v]) ht hT hg (by with_unfolding_all rfl)
/-- the items of xs[lo:hi] -/
def cutV (xs : List V) (lo hi : Option Int) : List V := (xs.drop (HT.sIx xs.length 0 lo)).take (HT.sIx xs.length xs.length hi - HT.sIx xs.length 0 lo)
theorem cutV_length (xs : List V) (lo hi : Option Int) : (cutV xs lo hi).length ≤ xs.length := by
  unfold cutV
  rw [List.length_take, List.length_drop]
  omega
end
end L2
namespace L2
open PySem PySem.Spec PyProof.Rows
/-- the place that an index of any sign means -/
def ixN (n : Nat) (i : Int) : Option Nat := if 0 ≤ i then (if i < n then some i.toNat else none) else if -(n : Int) ≤ i then some (i + n).toNat else none
def atI {α : Type} (xs : List α) (i : Int) : Option α := (ixN xs.length i).bind fun j => xs[j]?
theorem ixN_seq {n : Nat} {i : Int} {j : Nat} (h : ixN n i = some j) : seqIndex? i n = some j ∧ j < n ∧ -(n : Int) ≤ i ∧ i < n := by
  unfold ixN at h
  by_cases h0 : 0 ≤ i
  · rw [if_pos h0] at h
    by_cases h1 : i < n
    · rw [if_pos h1] at h
      have e : i.toNat = j := Option.some.inj h
      exact ⟨by rw [seqIndex_of h0 h1, e], by omega, by omega, h1⟩
    · rw [if_neg h1] at h; cases h
  · rw [if_neg h0] at h
    by_cases h1 : -(n : Int) ≤ i
    · rw [if_pos h1] at h
      have e : (i + n).toNat = j := Option.some.inj h
      exact ⟨by rw [seqIndex_neg (by omega) h1, e], by omega, h1, by omega⟩
    · rw [if_neg h1] at h; cases h
theorem atI_get {α : Type} {xs : List α} {i : Int} {v : α} (h : atI xs i = some v) : ∃ j, seqIndex? i xs.length = some j ∧ xs[j]? = some v ∧ j < xs.length ∧ -(xs.length : Int) ≤ i ∧ i < xs.length := by
  unfold atI at h
  cases e : ixN xs.length i with
  | none => rw [e] at h; cases h
  | some j =>
    rw [e] at h
    obtain ⟨h1, h2, h3, h4⟩ := ixN_seq e
    exact ⟨j, h1, h, h2, h3, h4⟩
theorem atI_nat {α : Type} {xs : List α} {j : Nat} {v : α} (h : xs[j]? = some v) : atI xs (j : Int) = some v := by
  have hj : j < xs.length := (List.getElem?_eq_some_iff.mp h).1
  have e : ixN xs.length (j : Int) = some j := by
    unfold ixN
    rw [if_pos (by omega), if_pos (by omega)]; simp
  unfold atI; rw [e]; exact h
theorem atI_last {α : Type} (xs : List α) (v : α) : atI (xs ++ [v]) (-1) = some v := by
  have hl : (xs ++ [v]).length = xs.length + 1 := by simp
  have e : ixN (xs ++ [v]).length (-1) = some xs.length := by
    unfold ixN
    rw [hl, if_neg (by decide), if_pos (by omega)]
    congr 1
    omega
  unfold atI
  rw [e]
  show (xs ++ [v])[xs.length]? = some v
  simp
/-- what stands as an index of a plain subscript -/
def PlainIx (b : Expr) : Prop := ∀ o i, subscripted b false o i = operate [o, i] (getItem o i)
/-- a subscript by values -/
def IxR (X : Cx) (r : R2) : Prop :=
  ∀ (value slice : Expr) (pins : List (Addr × Obj)) (s : Shared) (σ : St) (H : Hp) (x y : V) (v u : Value) (Q : VK), Inv X pins σ H s → RelV x v → RelV y u → r x y H Q →
    subscripted slice false v u = operate [v, u] (getItem v u) → wpAny (model X.prog X.w) X.A (subscriptTail value slice v u) (EP X pins σ Q) X.xe s
/-- a call of a builtin's method by values: the receiver, the arguments -/
def MtR (X : Cx) (id : String) (r : V → List V → Hp → VK → Prop) : Prop :=
  ∀ (pins : List (Addr × Obj)) (s : Shared) (σ : St) (H : Hp) (x : V) (xs : List V) (v : Value) (us : List Value) (Q : VK), Inv X pins σ H s → RelV x v → Vals xs us → r x xs H Q →
    wpAny (model X.prog X.w) X.A (call (.builtin id) (v :: us)) (EP X pins σ Q) X.xe s
section
variable {X : Cx} {a b : Expr} {ta tb : TE} {pos : Pos}
theorem IxR.or {r r' : R2} (h : IxR X r) (h' : IxR X r') : IxR X (fun x y H Q => r x y H Q ∨ r' x y H Q) := by
  intro value slice pins s σ H x y v u Q I rx ry q hs
  rcases q with q | q
  · exact h value slice pins s σ H x y v u Q I rx ry q hs
  · exact h' value slice pins s σ H x y v u Q I rx ry q hs
theorem MtR.or {id : String} {r r' : V → List V → Hp → VK → Prop} (h : MtR X id r) (h' : MtR X id r') : MtR X id (fun x xs H Q => r x xs H Q ∨ r' x xs H Q) := by
  intro pins s σ H x xs v us Q I rx rs q
  rcases q with q | q
  · exact h pins s σ H x xs v us Q I rx rs q
  · exact h' pins s σ H x xs v us Q I rx rs q
/-- a[b] -/
theorem pe_ix {r : R2} (hr : IxR X r) (ha : PE X a ta) (hb : PE X b tb) (hs : PlainIx b) : PE X (.Subscript a b pos) (tOp r ta tb) := by
  intro pins s σ H Q I h
  exact Subscript_ (binT ha hb I h fun v u s2 x y H2 I2 rx ry q => hr a b pins s2 σ H2 x y v u Q I2 rx ry q (hs _ _))
def rIxL (K : PySem.W.Frag) : R2 := fun x y H Q => ∃ p xs i v, x = .ref p ∧ y = .int i ∧ SqL K H p xs ∧ atI xs i = some v ∧ Q v H
def rIxT (K : PySem.W.Frag) : R2 := fun x y H Q => ∃ p xs i v, x = .ref p ∧ y = .int i ∧ SqT K H p xs ∧ atI xs i = some v ∧ Q v H
def rIxS : R2 := fun x y H Q => ∃ z i c, x = .str z ∧ y = .int i ∧ z.length ≤ sizeLine ∧ atI z.cps.toList i = some c ∧ Q (.str ⟨#[c]⟩) H
theorem ix_list : IxR X (rIxL X.K) := by
  intro value slice pins s σ H x y v u Q I rx ry h hs
  obtain ⟨p, xs, i, z, rfl, rfl, hq, he, q⟩ := h
  cases rx
  obtain ⟨t, rfl⟩ := ry
  obtain ⟨its, r, pl, hz⟩ := I.list hq
  obtain ⟨j, h1, h2, h3, h4, h5⟩ := atI_get he
  obtain ⟨w, ew, rw'⟩ := r.get h2
  have hl := r.length
  have hn := line63
  have fin : EP X pins σ Q w s := ⟨z, H, I, rw', q⟩
  by_cases h0 : 0 ≤ i
  · have hj : i.toNat = j := by
      rw [seqIndex_of h0 h5] at h1
      exact Option.some.inj h1
    exact item_listR pl.isList h0 (by omega) (by rw [hj]; simpa using ew) fin hs
  · have hj : (i + (its.toArray.size : Int)).toNat = j := by
      rw [seqIndex_neg (by omega) h4] at h1
      rw [List.size_toArray, ← hl]
      exact Option.some.inj h1
    exact subscriptTail_builtinR (x := w) pl.isList.typeIs slot_list_getitem.lookup
      (wpAny_getItem_list_neg (Q := fun r s' => r = w ∧ EP X pins σ Q r s') pl.isList (by omega) (by rw [List.size_toArray] <;> omega) (by omega) (by rw [hj]; simpa using ew) ⟨rfl, fin⟩) hs
theorem ix_tup : IxR X (rIxT X.K) := by
  intro value slice pins s σ H x y v u Q I rx ry h hs
  obtain ⟨p, xs, i, z, rfl, rfl, hq, he, q⟩ := h
  cases rx
  obtain ⟨t, rfl⟩ := ry
  obtain ⟨its, r, pl, hz⟩ := I.tuple hq
  obtain ⟨j, h1, h2, h3, h4, h5⟩ := atI_get he
  obtain ⟨w, ew, rw'⟩ := r.get h2
  have hl := r.length
  have hn := line63
  have fin : EP X pins σ Q w s := ⟨z, H, I, rw', q⟩
  exact subscriptTail_builtinR (x := w) pl.typeIs slot_tuple_getitem.lookup
    (getItem_tuple (j := j) (Q := fun r s' => r = w ∧ EP X pins σ Q r s') pl (by omega) (by omega) (by rw [List.size_toArray, ← hl]; exact h1) (by simpa using ew) ⟨rfl, fin⟩) hs
theorem ix_str : IxR X rIxS := by
  intro value slice pins s σ H x y v u Q I rx ry h hs
  obtain ⟨z, i, c, rfl, rfl, hz, he, q⟩ := h
  obtain ⟨t, rfl⟩ := rx
  obtain ⟨t', rfl⟩ := ry
  obtain ⟨j, h1, h2, h3, h4, h5⟩ := atI_get he
  have hl : z.cps.toList.length = z.length := by simp [Str.length]
  rw [hl] at h1 h4 h5
  have hn := line63
  exact tail_any (typeIs_str s z t) slot_str_getitem.lookup (getItem_str (c := c) (by
    have e1 : decide (i < -(2 ^ 63 : Int)) = false := decide_eq_false (by omega)
    have e2 : decide (i ≥ 2 ^ 63) = false := decide_eq_false (by omega)
    rw [e1, e2, Bool.or_false]) (by rw [h1]; simpa using h2) ⟨.str ⟨#[c]⟩, H, I.tok _, ⟨_, rfl⟩, q⟩) hs
/-- the list's object behind a store -/
theorem mapSeq_set (its : List Value) (n j : Nat) (u : Value) : Obj.mapSeq (·.setIfInBounds j u) { cls := .type "list", data := .seq its.toArray n } = { cls := .type "list", data := .seq (its.set j u).toArray n } := by
  simp [Obj.mapSeq]
theorem Inv.lst {pins : List (Addr × Obj)} {σ : St} {H : Hp} {s : Shared} {p : Addr} {xs : List V} (I : Inv X pins σ H s) (h : H p = some (.lst xs)) :
    ∃ (its : List Value) (n : Nat), Vals xs its ∧ s.heap.get? p = some { cls := .type "list", data := .seq its.toArray n } ∧ xs.length ≤ sizeLine := by
  obtain ⟨z, its, n, r, e⟩ := I.hok p _ h
  exact ⟨its, n, r, e, z⟩
/-- the list at p is written by an update of its object -/
theorem Inv.lstUpd {pins : List (Addr × Obj)} {σ : St} {H : Hp} {s : Shared} {p : Addr} {xs ys : List V} {its its' : List Value} {n n' : Nat} {f : Obj → Obj} (I : Inv X pins σ H s) (h : H p = some (.lst xs))
    (ho : s.heap.get? p = some { cls := .type "list", data := .seq its.toArray n }) (hf : f { cls := .type "list", data := .seq its.toArray n } = { cls := .type "list", data := .seq its'.toArray n' }) (r : Vals ys its') (hz : ys.length ≤ sizeLine) (t : Nat) :
    Inv X pins σ (upd H p (.lst ys)) { s with heap := s.heap.update p f, toks := t } := by
  have e : (s.heap.update p f).get? p = some { cls := .type "list", data := .seq its'.toArray n' } := by
    rw [Heap.get?_update_self f ho (by rw [hf] <;> rfl), hf]
  refine I.write (x := p) (e := p) (by rw [h]; trivial) (.inl rfl) (fun b u hb q => (Heap.get?_update_other _ _ (Ne.symm hb)).trans q) ⟨_, e⟩ ?_
  exact ⟨hz, its', n', r, e⟩
def rSetL : V → V → V → Hp → (Hp → Prop) → Prop := fun o i v H Q => ∃ p xs k j, o = .ref p ∧ i = .int k ∧ H p = some (.lst xs) ∧ ixN xs.length k = some j ∧ Q (upd H p (.lst (xs.set j v)))
theorem set_list : PSet X rSetL := by
  intro pins s σ H o i v ov iv u Q I ro ri rv h
  obtain ⟨p, xs, k, j, rfl, rfl, hp, hj, q⟩ := h
  cases ro
  obtain ⟨t, rfl⟩ := ri
  obtain ⟨its, n, r, ho, hz⟩ := I.lst hp
  obtain ⟨h1, h2, h3, h4⟩ := ixN_seq hj
  have hl := r.length
  have hn := line63
  have I' : Inv X pins σ (upd H p (.lst (xs.set j v))) { s with heap := s.heap.update p (Obj.mapSeq (·.setIfInBounds j u)) } :=
    I.lstUpd hp ho (mapSeq_set its n j u) (r.set rv j) (by rw [List.length_set]; exact hz) s.toks
  by_cases h0 : 0 ≤ k
  · have hk : k.toNat = j := by
      rw [seqIndex_of h0 h4] at h1
      exact Option.some.inj h1
    exact PySem.W.ki_setAt ho h0 (by omega) (by rw [List.size_toArray, ← hl]; exact h4) (by rw [hk]; exact ⟨_, I', q⟩)
  · have hk : (k + (its.toArray.size : Int)).toNat = j := by
      rw [seqIndex_neg (by omega) h3] at h1
      rw [List.size_toArray, ← hl]
      exact Option.some.inj h1
    exact PySem.W.ki_setBack ho (by omega) (by rw [List.size_toArray, ← hl]; exact h3) (by omega) (by rw [hk]; exact ⟨_, I', q⟩)
theorem slice_bounds (lo hi : Option Int) (n : Nat) : (sliceBounds lo hi none n).1 = ((HT.sIx n 0 lo : Nat) : Int) ∧ (sliceBounds lo hi none n).2.1 = ((HT.sIx n n hi : Nat) : Int) ∧ (sliceBounds lo hi none n).2.2 = 1 := by
  refine ⟨?_, ?_, rfl⟩
  · cases lo with
    | none => simp [sliceBounds, HT.sIx]
    | some i =>
      simp only [sliceBounds, HT.sIx, Option.getD_none, show (1 : Int) > 0 by decide, if_true]
      by_cases h : i < 0
      · simp only [h, if_true] <;> omega
      · simp only [h, if_false] <;> omega
  · cases hi with
    | none => simp [sliceBounds, HT.sIx]
    | some i =>
      simp only [sliceBounds, HT.sIx, Option.getD_none, show (1 : Int) > 0 by decide, if_true]
      by_cases h : i < 0
      · simp only [h, if_true] <;> omega
      · simp only [h, if_false] <;> omega
theorem slicePick_cut (its : List Value) (lo hi : Option Int) : slicePick its.toArray lo hi none = ((its.drop (HT.sIx its.length 0 lo)).take (HT.sIx its.length its.length hi - HT.sIx its.length 0 lo)).toArray := by
  obtain ⟨h1, h2, h3⟩ := slice_bounds lo hi its.toArray.size
  unfold slicePick
  rw [h1, h2, h3]
  simp only [sliceRange_one, pick_run, List.size_toArray] <;> rfl
/-- xs[lo:hi] of a list: a new list -/
def rSlL (K : PySem.W.Frag) : V → Option Int → Option Int → Hp → VK → Prop := fun x lo hi H Q => ∃ a xs, x = .ref a ∧ SqL K H a xs ∧ ∀ p, H p = none → Q (.ref p) (upd H p (.lst (cutV xs lo hi)))
theorem sl_list : SlR X (rSlL X.K) := by
  intro pins s σ H x v vl vu lo hi sl Q I rx hs pl pu h
  obtain ⟨a, xs, rfl, hx, q⟩ := h
  cases rx
  obtain ⟨its, r, ht, hz⟩ := I.list hx
  have hlen := r.length
  refine ⟨"list", _, slot_list_getitem.lookup, ht.isList.typeIs, ?_⟩
  refine wpAny_getItem_list_slice ht.isList hs pl pu .none (by simp) ?_ (by rw [List.size_toArray] <;> omega)
  rw [slicePick_cut, ← hlen]
  refine ⟨.ref s.heap.objs.size, _, I.laid (t' := s.toks) (o := .lst (cutV xs lo hi)) (fun b ob q => Heap.get?_push_of_some _ q) (Nat.le_refl _) ?_, rfl, q _ (I.hok.fresh (Nat.le_refl _))⟩
  exact ⟨Nat.le_trans (cutV_length xs lo hi) hz, _, 0, (r.drop (HT.sIx xs.length 0 lo)).take (HT.sIx xs.length xs.length hi - HT.sIx xs.length 0 lo), Heap.get?_push_size _ rfl⟩
def flatV : V → Bool
  | .non => true
  | .bl _ => true
  | .int _ => true
  | .str _ => true
  | _ => false
/-- == of flat values -/
def eqV : V → V → Bool
  | .non, .non => true
  | .bl a, .bl b => a == b
  | .bl a, .int b => (if a then 1 else 0) == b
  | .int a, .bl b => a == (if b then 1 else 0)
  | .int a, .int b => a == b
  | .str a, .str b => a == b
  | _, _ => false
theorem eqAt_V {A : Around} {s : Shared} {y x : V} {u v : Value} (ry : RelV y u) (rx : RelV x v) (fy : flatV y = true) (fx : flatV x = true) : SeqAt.EqAt A s u v (eqV y x) := by
  cases y with
  | non =>
    cases ry
    cases x with
    | non => cases rx; exact SeqAt.EqAt.same _
    | bl b => cases rx; exact SeqAt.EqAt.none_bool b
    | int b => obtain ⟨t, rfl⟩ := rx; exact SeqAt.EqAt.none_int b t
    | str b => obtain ⟨t, rfl⟩ := rx; exact SeqAt.EqAt.none_str b t
    | _ => exact absurd (show false = true from fx) Bool.false_ne_true
  | bl a =>
    cases ry
    cases x with
    | non => cases rx; exact SeqAt.EqAt.bool_none a
    | bl b => cases rx; exact SeqAt.EqAt.bool_bool a b
    | int b => obtain ⟨t, rfl⟩ := rx; exact SeqAt.EqAt.bool_int a b t
    | str b => obtain ⟨t, rfl⟩ := rx; exact SeqAt.EqAt.bool_str a b t
    | _ => exact absurd (show false = true from fx) Bool.false_ne_true
  | int a =>
    obtain ⟨t', rfl⟩ := ry
    cases x with
    | non => cases rx; exact SeqAt.EqAt.int_none a t'
    | bl b => cases rx; exact SeqAt.EqAt.int_bool a t' b
    | int b => obtain ⟨t, rfl⟩ := rx; exact SeqAt.EqAt.int_int a t' b t
    | str b => obtain ⟨t, rfl⟩ := rx; exact SeqAt.EqAt.int_str a t' b t
    | _ => exact absurd (show false = true from fx) Bool.false_ne_true
  | str a =>
    obtain ⟨t', rfl⟩ := ry
    cases x with
    | non => cases rx; exact SeqAt.EqAt.str_none a t'
    | bl b => cases rx; exact SeqAt.EqAt.str_bool a t' b
    | int b => obtain ⟨t, rfl⟩ := rx; exact SeqAt.EqAt.str_int a t' b t
    | str b => obtain ⟨t, rfl⟩ := rx; exact SeqAt.EqAt.str_str a t' b t
    | _ => exact absurd (show false = true from fx) Bool.false_ne_true
  | _ => exact absurd (show false = true from fy) Bool.false_ne_true
/-- the items' answers, read off the values (a value's own answer does not lean on its token) -/
def eqU (x : V) (u : Value) : Bool := match u with
  | .none => eqV .non x
  | .bool b => eqV (.bl b) x
  | .int i _ => eqV (.int i) x
  | .str z _ => eqV (.str z) x
  | _ => false
theorem eqU_of {x y : V} {u : Value} (r : RelV y u) (f : flatV y = true) : eqU x u = eqV y x := by
  cases y with
  | non => cases r; rfl
  | bl b => cases r; rfl
  | int i => obtain ⟨t, rfl⟩ := r; rfl
  | str z => obtain ⟨t, rfl⟩ := r; rfl
  | _ => exact absurd (show false = true from f) Bool.false_ne_true
theorem any_eqU {x : V} : ∀ {xs : List V} {us : List Value}, Vals xs us → xs.all flatV = true → us.any (eqU x) = xs.any fun y => eqV y x
  | _, _, .nil, _ => rfl
  | y :: xs, u :: us, .cons r t, f => by
    rw [List.all_cons, Bool.and_eq_true] at f
    rw [List.any_cons, List.any_cons, eqU_of r f.1, any_eqU t f.2]
theorem mem_eqAt {A : Around} {s : Shared} {x : V} {v : Value} (rx : RelV x v) (fx : flatV x = true) : ∀ {xs : List V} {us : List Value}, Vals xs us → xs.all flatV = true → ∀ u ∈ us, SeqAt.EqAt A s u v (eqU x u)
  | _, _, .nil, _ => fun u hu => by cases hu
  | y :: xs, u :: us, .cons r t, f => fun u' hu => by
    rw [List.all_cons, Bool.and_eq_true] at f
    rcases List.mem_cons.mp hu with rfl | hu
    · rw [eqU_of r f.1]; exact eqAt_V r rx f.1 fx
    · exact mem_eqAt rx fx t f.2 u' hu
def inV (x : V) (xs : List V) : Bool := xs.any fun y => eqV y x
/-- x in a list or tuple of flat items -/
def rIn (K : PySem.W.Frag) (neg : Bool) : R2 := fun x y H Q => ∃ p xs, y = .ref p ∧ (SqL K H p xs ∨ SqT K H p xs) ∧ flatV x = true ∧ xs.all flatV = true ∧ Q (.bl (if neg then !inV x xs else inV x xs)) H
theorem op_in_seq : OpR X (compareOp .In) (rIn X.K false) := by
  intro pins s σ H x y v u Q I rx ry h
  obtain ⟨p, xs, rfl, hq, fx, fs, q⟩ := h
  cases ry
  rcases hq with hq | hq
  · obtain ⟨its, r, pl, hz⟩ := I.list hq
    refine SeqAt.in_listAt (eqU x) pl.isList (fun w hw => mem_eqAt rx fx r fs w (by simpa using hw)) ⟨.bl _, H, I, rfl, ?_⟩
    rw [show its.toArray.any (eqU x) = its.any (eqU x) by simp, any_eqU r fs]
    exact q
  · obtain ⟨its, r, pl, hz⟩ := I.tuple hq
    refine SeqAt.in_tupleAt (eqU x) pl (fun w hw => mem_eqAt rx fx r fs w (by simpa using hw)) ⟨.bl _, H, I, rfl, ?_⟩
    rw [show its.toArray.any (eqU x) = its.any (eqU x) by simp, any_eqU r fs]
    exact q
theorem call_len_seq : CallR X (.builtin "len") (fun xs H Q => ∃ p ys, xs = [.ref p] ∧ (SqL X.K H p ys ∨ SqT X.K H p ys) ∧ Q (.int ys.length) H) := by
  intro pins s σ H xs us Q I r h
  obtain ⟨p, ys, rfl, hq, q⟩ := h
  obtain ⟨u, rfl, rx⟩ := vals1 r
  cases rx
  have hn := line63
  rcases hq with hq | hq
  · obtain ⟨its, r', pl, hz⟩ := I.list hq
    have hlen := r'.length
    exact Calls.call_len_list pl.isList (by simp only [List.size_toArray] <;> omega) ⟨.int ys.length, H, I.tok _, ⟨s.toks + 1, by rw [List.size_toArray, hlen]⟩, q⟩
  · obtain ⟨its, r', pl, hz⟩ := I.tuple hq
    have hlen := r'.length
    exact len_tuple pl (by simp only [List.size_toArray] <;> omega) ⟨.int ys.length, H, I.tok _, ⟨s.toks + 1, by rw [List.size_toArray, hlen]⟩, q⟩
theorem call_len_str : CallR X (.builtin "len") (fun xs H Q => ∃ z, xs = [.str z] ∧ z.length ≤ sizeLine ∧ Q (.int z.length) H) := by
  intro pins s σ H xs us Q I r h
  obtain ⟨z, rfl, hz, q⟩ := h
  obtain ⟨u, rfl, t, rfl⟩ := vals1 r
  have hn := line63
  exact len_str (by omega) ⟨.int z.length, H, I.tok _, ⟨_, rfl⟩, q⟩
theorem CallR.or {f : Value} {r r' : List V → Hp → VK → Prop} (h : CallR X f r) (h' : CallR X f r') : CallR X f (fun xs H Q => r xs H Q ∨ r' xs H Q) := by
  intro pins s σ H xs us Q I rs q
  rcases q with q | q
  · exact h pins s σ H xs us Q I rs q
  · exact h' pins s σ H xs us Q I rs q
/-- the value is of that builtin type -/
def tyV (K : PySem.W.Frag) (T : String) (x : V) (H : Hp) : Prop := match x with
  | .str _ => T = "str"
  | .int _ => T = "int"
  | .ref p => (T = "list" ∧ ∃ xs, SqL K H p xs) ∨ (T = "tuple" ∧ ∃ o, K.lookup p = some o ∧ o.cls = .type "tuple" ∧ o.dict = none) ∨
      (T = "dict" ∧ ((∃ kvs, H p = some (.dK kvs)) ∨ ∃ kvs, H p = some (.dT kvs))) ∨ (T = "set" ∧ ∃ S n, H p = some (.set S n))
  | _ => False
theorem tyV_is {pins : List (Addr × Obj)} {σ : St} {H : Hp} {s : Shared} {T : String} {x : V} {v : Value} (I : Inv X pins σ H s) (r : RelV x v) (ty : tyV X.K T x H) :
    s.TypeIs v T ∧ ∀ a, v = .ref a → ∃ ob, s.heap.get? a = some ob ∧ ob.dict = none := by
  cases x with
  | str z =>
    obtain ⟨t, rfl⟩ := r
    cases (show T = "str" from ty)
    exact ⟨typeIs_str s z t, fun _ e => nomatch e⟩
  | int i =>
    obtain ⟨t, rfl⟩ := r
    cases (show T = "int" from ty)
    exact ⟨typeIs_int s i t, fun _ e => nomatch e⟩
  | ref p =>
    cases r
    rcases ty with ⟨rfl, xs, hq⟩ | ⟨rfl, o, hk, hc, hd⟩ | ⟨rfl, hk⟩ | ⟨rfl, S, n, hk⟩
    · obtain ⟨its, _, pl, _⟩ := I.list hq
      refine ⟨pl.isList.typeIs, fun a e => ?_⟩
      cases e
      obtain ⟨o, n, e, c, hd, _⟩ := pl
      exact ⟨o, e, hd⟩
    · refine ⟨⟨o, I.kIn p o hk, hc⟩, fun a e => ?_⟩
      cases e
      exact ⟨o, I.kIn _ o hk, hd⟩
    · have z : ∃ o, s.heap.get? p = some o ∧ o.ExactDict := by
        rcases hk with ⟨kvs, hk⟩ | ⟨kvs, hk⟩
        · obtain ⟨_, _, _, _, o, _, _, e, ex, _⟩ := I.hok p _ hk
          exact ⟨o, e, ex⟩
        · obtain ⟨_, _, _, _, o, _, _, e, ex, _⟩ := I.hok p _ hk
          exact ⟨o, e, ex⟩
      obtain ⟨o, e, ex⟩ := z
      refine ⟨⟨o, e, ex.1⟩, fun a e2 => ?_⟩
      cases e2
      exact ⟨o, e, ex.2.1⟩
    · obtain ⟨o, _, _, _, e, ex, _⟩ := I.hok p _ hk
      refine ⟨⟨o, e, ex.1⟩, fun a e2 => ?_⟩
      cases e2
      exact ⟨o, e, ex.2.1⟩
  | _ => exact False.elim ty
def tBM0 (K : PySem.W.Frag) (T : String) (r : V → List V → Hp → VK → Prop) (to : TE) : TE := fun σ H Q => to σ H fun x H1 => tyV K T x H1 ∧ r x [] H1 Q
def tBM (K : PySem.W.Frag) (T : String) (r : V → List V → Hp → VK → Prop) (to : TE) (t : TA) : TE := fun σ H Q => to σ H fun x H1 => tyV K T x H1 ∧ t σ H1 fun xs H2 => r x xs H2 Q
variable {o e : Expr} {es : List Expr} {to : TE} {t : TA} {name : Str} {apos cpos : Pos} {T id : String} {r : V → List V → Hp → VK → Prop}
theorem pe_bm0 (pa : PlainAttrs T) (slot : Slot T name id) (hty : typeOf (.builtin id) = pure (.type "method_descriptor")) (hm : MtR X id r) (ho : PE X o to)
    (hbase : attributeBase o name X.env (eval o X.env) = eval o X.env := by rfl) (hline : (apos.endLine == cpos.line) = true := by rfl) : PE X (.Call (.Attribute o name apos) [] [] cpos) (tBM0 X.K T r to) := by
  intro pins s σ H Q I h
  refine wpAny_Call_method0_late hbase hline (thn (ho pins s σ H _ I h) fun v s1 ⟨x, H1, I1, r1, ty, q1⟩ => ?_)
  obtain ⟨h1, h2⟩ := tyV_is I1 r1 ty
  exact ⟨T, id, pa, slot, hty, h1, h2, Calls.callWith_builtin rfl (PySem.evalArgs_none (hm pins s1 σ H1 x [] v [] Q I1 r1 .nil q1))⟩
theorem pe_bm (pa : PlainAttrs T) (slot : Slot T name id) (hty : typeOf (.builtin id) = pure (.type "method_descriptor")) (hm : MtR X id r) (ho : PE X o to) (ha : PA X (e :: es) t)
    (hbase : attributeBase o name X.env (eval o X.env) = eval o X.env := by rfl)
    (hfew : ((backTo cpos (starEach (e :: es) X.env)).all (fun x => !x.1) && (backToKw cpos (keywordEach [] X.env)).all (fun x => x.1.isSome)
      && decide ((e :: es).length + ([] : List Keyword).length + (if ([] : List Keyword).isEmpty then 0 else 1) < 30)) = true := by rfl)
    (hline : (apos.endLine == cpos.line) = true := by rfl) (hs : starEach (e :: es) X.env = (false, eval e X.env) :: starEach es X.env := by rfl) (hplain : (backTo cpos (starEach es X.env)).any (·.1) = false := by rfl) :
    PE X (.Call (.Attribute o name apos) (e :: es) [] cpos) (tBM X.K T r to t) := by
  intro pins s σ H Q I h
  refine wpAny_Call_method_late hbase hfew hline rfl (thn (ho pins s σ H _ I h) fun v s1 ⟨x, H1, I1, r1, ty, q1⟩ => ?_)
  obtain ⟨h1, h2⟩ := tyV_is I1 r1 ty
  refine ⟨T, id, pa, slot, hty, h1, h2, ?_⟩
  have hA := ha cpos pins s1 σ H1 _ I1 q1
  rw [hs] at hA ⊢
  refine Calls.callWith_builtin (by show (false || (backTo cpos (starEach es X.env)).any (·.1)) = false; rw [hplain] <;> rfl) (Calls.evalArgs_plain ?_)
  exact thn hA fun us s2 ⟨vs, H2, I2, r2, q2⟩ => hm pins s2 σ H2 x vs v us Q I2 r1 r2 q2
end
end L2
namespace L2
open PySem PySem.Spec PyProof.Rows
def MtM (X : Cx) (id : String) (r : V → List V → Hp → VK → Prop) : Prop :=
  ∀ (pins : List (Addr × Obj)) (s : Shared) (σ : St) (H : Hp) (x : V) (xs : List V) (v : Value) (us : List Value) (Q : VK), Inv X pins σ H s → RelV x v → Vals xs us → r x xs H Q →
    wpAny (model X.prog X.w) X.A (call (.builtin id) (v :: us)) (EP X pins σ Q) X.xe s
theorem Vals.one : ∀ {x : V} {us : List Value}, Vals [x] us → ∃ u, us = [u] ∧ RelV x u
  | _, _, .cons r .nil => ⟨_, rfl, r⟩
theorem Vals.two : ∀ {x y : V} {us : List Value}, Vals [x, y] us → ∃ u v, us = [u, v] ∧ RelV x u ∧ RelV y v
  | _, _, _, .cons r (.cons q .nil) => ⟨_, _, rfl, r, q⟩
theorem Vals.zero : ∀ {us : List Value}, Vals [] us → us = []
  | _, .nil => rfl
theorem Vals.dropLast {xs : List V} {us : List Value} (h : Vals xs us) : Vals xs.dropLast us.dropLast := by
  induction h with
  | nil => exact .nil
  | cons r t ih =>
    cases t with
    | nil => exact .nil
    | cons q t' => exact .cons r ih
theorem Vals.eraseIdx : ∀ {xs : List V} {us : List Value} (i : Nat), Vals xs us → Vals (xs.eraseIdx i) (us.eraseIdx i)
  | _, _, _, .nil => .nil
  | _, _, 0, .cons _ t => t
  | _, _, i + 1, .cons r t => .cons r (Vals.eraseIdx i t)
theorem Vals.reverse {xs : List V} {us : List Value} (h : Vals xs us) : Vals xs.reverse us.reverse := by
  induction h with
  | nil => exact .nil
  | cons r t ih => rw [List.reverse_cons, List.reverse_cons]; exact Vals.append ih (.cons r .nil)
theorem erase_last {α : Type} (l : List α) : l.eraseIdx (l.length - 1) = l.dropLast := by
  induction l with
  | nil => rfl
  | cons a r ih =>
    cases r with
    | nil => rfl
    | cons b r =>
      have e : (a :: b :: r).length - 1 = ((b :: r).length - 1) + 1 := by
        have h1 : (a :: b :: r).length = r.length + 2 := rfl
        have h2 : (b :: r).length = r.length + 1 := rfl
        omega
      rw [e, List.eraseIdx_cons_succ, ih]
      all_goals rfl
section
variable {X : Cx} {pins : List (Addr × Obj)} {σ : St} {H : Hp} {s : Shared} {l b : Addr} {xs ys zs : List V}
theorem Inv.lset {its its' : List Value} {n : Nat} {f : Array Value → Array Value} {t' : Nat} (I : Inv X pins σ H s) (hH : H l = some (.lst xs))
    (e : s.heap.get? l = some { cls := .type "list", data := .seq its.toArray n }) (hf : f its.toArray = its'.toArray) (hv : Vals ys its') (hz : ys.length ≤ sizeLine) :
    Inv X pins σ (upd H l (.lst ys)) { s with heap := s.heap.update l (Obj.mapSeq f), toks := t' } := by
  have q := PySem.IsL.update e f
  rw [hf] at q
  refine I.write (x := l) (e := l) (by rw [hH]; exact trivial) (.inl rfl) (fun b' u hb hu => (Heap.get?_update_other s.heap (Obj.mapSeq f) (Ne.symm hb)).trans hu) ⟨_, q⟩ ?_
  exact ⟨hz, its', _, hv, q⟩
theorem Inv.lnew {its : List Value} {t' : Nat} (I : Inv X pins σ H s) (hv : Vals ys its) (hz : ys.length ≤ sizeLine) :
    Inv X pins σ (upd H s.heap.objs.size (.lst ys)) { s with heap := s.heap.push { cls := .type "list", data := .seq its.toArray }, toks := t' } :=
  I.laid (fun _ _ q => Heap.get?_push_of_some _ q) (Nat.le_refl _) ⟨hz, its, 0, hv, Heap.get?_push_size _ rfl⟩
theorem Inv.fresh (I : Inv X pins σ H s) : H s.heap.objs.size = none := I.hok.fresh (Nat.le_refl _)
theorem Inv.lstM (I : Inv X pins σ H s) (hH : H l = some (.lst xs)) : xs.length ≤ sizeLine ∧ ∃ (its : List Value) (n : Nat), Vals xs its ∧ xs.length = its.length ∧ s.heap.get? l = some { cls := .type "list", data := .seq its.toArray n } := by
  obtain ⟨z, its, n, r, e⟩ := I.hok l _ hH
  exact ⟨z, its, n, r, r.length, e⟩
end
section
variable {X : Cx}
def rAppend : V → List V → Hp → VK → Prop := fun x vs H Q => ∃ l xs y, x = .ref l ∧ vs = [y] ∧ H l = some (.lst xs) ∧ xs.length < sizeLine ∧ Q .non (upd H l (.lst (xs ++ [y])))
theorem mt_append : MtM X "list.append" rAppend := by
  intro pins s σ H x vs v us Q I rx rv h
  obtain ⟨l, xs, y, rfl, rfl, hH, hz, q⟩ := h
  cases rx
  obtain ⟨u, rfl, ru⟩ := rv.one
  obtain ⟨z, its, n, r, hl, e⟩ := I.lstM hH
  refine call_meets F.slot_list_append ⟨_, e, rfl⟩ F.entry_list_append (F.args_list_append_2 _ _) (PySem.list_append l its.toArray n u (by rw [List.size_toArray]; omega)) ⟨e, ?_⟩
  refine ⟨.non, _, I.lset (its' := its ++ [u]) hH e (by simp) (r.append (.cons ru .nil)) ?_, rfl, q⟩
  rw [List.length_append, List.length_singleton]
  omega
def rPop : V → List V → Hp → VK → Prop := fun x vs H Q => ∃ l xs y, x = .ref l ∧ vs = [] ∧ H l = some (.lst xs) ∧ xs[xs.length - 1]? = some y ∧ Q y (upd H l (.lst xs.dropLast))
theorem mt_pop : MtM X "list.pop" rPop := by
  intro pins s σ H x vs v us Q I rx rv h
  obtain ⟨l, xs, y, rfl, rfl, hH, hy, q⟩ := h
  cases rx
  have hus := rv.zero
  subst hus
  obtain ⟨z, its, n, r, hl, e⟩ := I.lstM hH
  obtain ⟨u, hu, ru⟩ := r.get hy
  have hy' : its.toArray[its.toArray.size - 1]? = some u := by
    show its.toArray[its.length - 1]? = some u
    rw [← Array.getElem?_toList, ← hl]
    exact hu
  refine call_meets F.slot_list_pop ⟨_, e, rfl⟩ F.entry_list_pop (F.args_list_pop_1 _) (MeetsSeq.list_pop_last l its.toArray n u hy' (by rw [List.size_toArray]; omega)) ⟨e, ?_⟩
  refine ⟨y, _, I.lset (its' := its.dropLast) hH e ?_ r.dropLast ?_, ru, q⟩
  · show its.toArray.eraseIdxIfInBounds (its.toArray.size - 1) = its.dropLast.toArray
    rw [List.size_toArray, List.eraseIdxIfInBounds_toArray, erase_last]
  · rw [List.length_dropLast]
    omega
def rReverse : V → List V → Hp → VK → Prop := fun x vs H Q => ∃ l xs, x = .ref l ∧ vs = [] ∧ H l = some (.lst xs) ∧ Q .non (upd H l (.lst xs.reverse))
theorem mt_reverse : MtM X "list.reverse" rReverse := by
  intro pins s σ H x vs v us Q I rx rv h
  obtain ⟨l, xs, rfl, rfl, hH, q⟩ := h
  cases rx
  have hus := rv.zero
  subst hus
  obtain ⟨z, its, n, r, hl, e⟩ := I.lstM hH
  refine call_meets F.slot_list_reverse ⟨_, e, rfl⟩ F.entry_list_reverse (F.args_list_reverse_1 _) (AutoSeq1.list_reverse_list_0 l its.toArray n (by rw [List.size_toArray]; omega)) ⟨e, ?_⟩
  refine ⟨.non, _, I.lset (its' := its.reverse) hH e (by simp) r.reverse ?_, rfl, q⟩
  rw [List.length_reverse]
  omega
def rCat : R2 := fun x y H Q => ∃ l b xs zs, x = .ref l ∧ y = .ref b ∧ H l = some (.lst xs) ∧ H b = some (.lst zs) ∧ xs.length + zs.length ≤ sizeLine ∧ ∀ p, H p = none → Q (.ref p) (upd H p (.lst (xs ++ zs)))
theorem op_cat : OpR X (binaryOp .Add) rCat := by
  intro pins s σ H x y v u Q I rx ry h
  obtain ⟨l, b, xs, zs, rfl, rfl, hH, hB, hz, q⟩ := h
  cases rx
  cases ry
  obtain ⟨z, its, n, r, hl, e⟩ := I.lstM hH
  obtain ⟨z2, its2, n2, r2, hl2, e2⟩ := I.lstM hB
  refine PySem.P.add_list e e2 ?_ (by rw [List.size_toArray, List.size_toArray]; omega)
  have ea : its.toArray ++ its2.toArray = (its ++ its2).toArray := by simp
  rw [ea]
  exact ⟨.ref _, _, I.lnew (t' := s.toks) (r.append r2) (by rw [List.length_append]; omega), rfl, q _ I.fresh⟩
end
section
variable {prog : Program} {w : World} {A : Around} {E : Value → Shared → Prop} {s : Shared}
set_option maxRecDepth 100000 in
end
section
variable {X : Cx}
end
end L2
namespace L2
open PySem PySem.Spec PyProof.Rows
section
variable {κ : Type} [DecidableEq κ]
def valV (kvs : List (κ × V)) (k : κ) : Option V := (kvs.find? fun kv => decide (kv.1 = k)).map (·.2)
/-- in its place, or at the end -/
def putK (kvs : List (κ × V)) (k : κ) (v : V) : List (κ × V) :=
  if (kvs.any fun kv => decide (kv.1 = k)) = true then kvs.map (fun kv => if kv.1 = k then (kv.1, v) else kv) else kvs ++ [(k, v)]
def dropK (kvs : List (κ × V)) (k : κ) : List (κ × V) := kvs.filter fun kv => decide (kv.1 ≠ k)
theorem valV_pos {p : κ × V} {r : List (κ × V)} {k : κ} (e : p.1 = k) : valV (p :: r) k = some p.2 := by simp [valV, List.find?_cons, e]
theorem valV_neg {p : κ × V} {r : List (κ × V)} {k : κ} (e : ¬ p.1 = k) : valV (p :: r) k = valV r k := by simp [valV, List.find?_cons, e]
theorem valV_any (k : κ) : ∀ kvs : List (κ × V), (kvs.any fun kv => decide (kv.1 = k)) = (valV kvs k).isSome
  | [] => rfl
  | p :: r => by
    rw [List.any_cons]
    by_cases e : p.1 = k
    · simp only [valV_pos e, decide_eq_true e, Bool.true_or, Option.isSome_some]
    · rw [valV_neg e, decide_eq_false e, Bool.false_or]; exact valV_any k r
theorem length_putK (kvs : List (κ × V)) (k : κ) (v : V) : (putK kvs k v).length ≤ kvs.length + 1 := by
  unfold putK
  split
  · rw [List.length_map]; omega
  · rw [List.length_append, List.length_cons, List.length_nil]; omega
theorem RelO.isSome_eq {o : Option V} {u : Option Value} (r : RelO o u) : o.isSome = u.isSome := by
  cases o with
  | none => cases u with
    | none => rfl
    | some _ => exact (show False from r).elim
  | some _ => cases u with
    | none => exact (show False from r).elim
    | some _ => rfl
theorem RelO.getD {o : Option V} {u : Option Value} {d : V} {d' : Value} (r : RelO o u) (rd : RelV d d') : RelV (o.getD d) (u.getD d') := by
  cases o with
  | none => cases u with
    | none => exact rd
    | some _ => exact (show False from r).elim
  | some _ => cases u with
    | none => exact (show False from r).elim
    | some _ => exact r
/-- raw tables of the same keys -/
theorem KV.val {kvs : List (κ × V)} {vs : List (κ × Value)} (r : KV kvs vs) (k : κ) : RelO (valV kvs k) (valueAt vs k) := by
  unfold KV at r
  induction r with
  | nil => exact True.intro
  | @cons p q ps qs h t ih =>
    obtain ⟨h1, h2⟩ := h
    by_cases e : p.1 = k
    · have e' : q.1 = k := h1.symm.trans e
      have b : valueAt (q :: qs) k = some q.2 := by simp [valueAt, List.find?_cons, e']
      rw [valV_pos e, b]; exact h2
    · have e' : ¬ q.1 = k := fun z => e (h1.trans z)
      have b : valueAt (q :: qs) k = valueAt qs k := by simp [valueAt, List.find?_cons, e']
      rw [valV_neg e, b]; exact ih
theorem KV.any {kvs : List (κ × V)} {vs : List (κ × Value)} (r : KV kvs vs) (k : κ) : (kvs.any fun kv => decide (kv.1 = k)) = vs.any fun kv => decide (kv.1 = k) := by
  unfold KV at r
  induction r with
  | nil => rfl
  | cons h t ih => rw [List.any_cons, List.any_cons, ih, h.1]
theorem KV.repl {kvs : List (κ × V)} {vs : List (κ × Value)} (r : KV kvs vs) (k : κ) {y : V} {u : Value} (ry : RelV y u) :
    KV (kvs.map fun kv => if kv.1 = k then (kv.1, y) else kv) (vs.map fun kv => if kv.1 = k then (kv.1, u) else kv) := by
  unfold KV at r ⊢
  induction r with
  | nil => exact .nil
  | @cons p q ps qs h t ih =>
    rw [List.map_cons, List.map_cons]
    refine .cons ?_ ih
    obtain ⟨h1, h2⟩ := h
    by_cases e : p.1 = k
    · rw [if_pos e, if_pos (h1.symm.trans e)]; exact ⟨h1, ry⟩
    · rw [if_neg e, if_neg (fun z => e (h1.trans z))]; exact ⟨h1, h2⟩
theorem KV.put {kvs : List (κ × V)} {vs : List (κ × Value)} (r : KV kvs vs) (k : κ) {y : V} {u : Value} (ry : RelV y u) : KV (putK kvs k y) (stored vs k u) := by
  unfold putK stored
  rw [r.any k]
  by_cases e : (vs.any fun kv => decide (kv.1 = k)) = true
  · rw [if_pos e, if_pos e]; exact r.repl k ry
  · rw [if_neg e, if_neg e]; exact Paired.snoc r ⟨rfl, ry⟩
theorem KV.drop {kvs : List (κ × V)} {vs : List (κ × Value)} (r : KV kvs vs) (k : κ) : KV (dropK kvs k) (without vs k) := by
  unfold KV at r ⊢
  unfold dropK without
  induction r with
  | nil => exact .nil
  | @cons p q ps qs h t ih =>
    obtain ⟨h1, h2⟩ := h
    rw [List.filter_cons, List.filter_cons]
    by_cases e : p.1 = k
    · have a : ¬ decide (p.1 ≠ k) = true := by simp [e]
      have b : ¬ decide (q.1 ≠ k) = true := by simp [h1.symm.trans e]
      rw [if_neg a, if_neg b]; exact ih
    · have e' : ¬ q.1 = k := fun z => e (h1.trans z)
      have a : decide (p.1 ≠ k) = true := by simp [e]
      have b : decide (q.1 ≠ k) = true := by simp [e']
      rw [if_pos a, if_pos b]; exact .cons ⟨h1, h2⟩ ih
theorem KV.keys {kvs : List (κ × V)} {vs : List (κ × Value)} (r : KV kvs vs) : kvs.map (·.1) = vs.map (·.1) := by
  unfold KV at r
  induction r with
  | nil => rfl
  | cons h t ih => rw [List.map_cons, List.map_cons, ih, h.1]
theorem KV.length {kvs : List (κ × V)} {vs : List (κ × Value)} (r : KV kvs vs) : kvs.length = vs.length := Paired.length r
end
theorem kV_is {P : Program} {w : World} {k : Key} {u : Value} (r : RelV (kV k) u) : (mixKind P w).is k u = true := by
  cases k with
  | inl i => obtain ⟨t, e⟩ := (show ∃ t, u = Value.int i t from r); subst e; exact mixKind_int P w i t
  | inr x => obtain ⟨t, e⟩ := (show ∃ t, u = Value.str x t from r); subst e; exact mixKind_str P w x t
theorem items_are {P : Program} {w : World} : ∀ {ks : List Key} {us : List Value}, Vals (ks.map kV) us → ItemsAre (mixKind P w) ks us
  | [], _, r => by rw [List.map_nil] at r; cases r; exact .nil
  | k :: ks, _, r => by
    rw [List.map_cons] at r
    cases r with
    | cons h t => exact .cons (kV_is h) (items_are t)
/-- raw entries of a dict with tuple keys -/
abbrev KT (H : Hp) : List (List Key × V) → List (List Key × Addr × Value) → Prop := Paired fun p q => p.1 = q.1 ∧ H q.2.1 = some (.tup (p.1.map kV)) ∧ RelV p.2 q.2.2
theorem KT.val {H : Hp} {kvs : List (List Key × V)} {xs : List (List Key × Addr × Value)} (r : KT H kvs xs) (k : List Key) : RelO (valV kvs k) ((atKey xs k).map (·.2)) := by
  induction r with
  | nil => exact True.intro
  | @cons p q ps qs h t ih =>
    obtain ⟨h1, _, h2⟩ := h
    by_cases e : p.1 = k
    · have e' : q.1 = k := h1.symm.trans e
      have b : atKey (q :: qs) k = some q.2 := by simp [atKey, List.find?_cons, e']
      rw [valV_pos e, b]; exact h2
    · have e' : ¬ q.1 = k := fun z => e (h1.trans z)
      have b : atKey (q :: qs) k = atKey qs k := by simp [atKey, List.find?_cons, e']
      rw [valV_neg e, b]; exact ih
theorem KT.repl {H : Hp} {kvs : List (List Key × V)} {xs : List (List Key × Addr × Value)} (r : KT H kvs xs) (k : List Key) {y : V} {u : Value} (ry : RelV y u) :
    KT H (kvs.map fun kv => if kv.1 = k then (kv.1, y) else kv) (xs.map (putAt k u)) := by
  induction r with
  | nil => exact .nil
  | @cons p q ps qs h t ih =>
    rw [List.map_cons, List.map_cons]
    refine .cons ?_ ih
    obtain ⟨h1, h2, h3⟩ := h
    unfold putAt
    by_cases e : p.1 = k
    · rw [if_pos e, if_pos (h1.symm.trans e)]; exact ⟨h1, h2, ry⟩
    · rw [if_neg e, if_neg (fun z => e (h1.trans z))]; exact ⟨h1, h2, h3⟩
theorem KT.put {H : Hp} {kvs : List (List Key × V)} {xs : List (List Key × Addr × Value)} (r : KT H kvs xs) (k : List Key) {b : Addr} {y : V} {u : Value} (hb : H b = some (.tup (k.map kV))) (ry : RelV y u) :
    KT H (putK kvs k y) (storedH xs k b u) := by
  have e : (kvs.any fun kv => decide (kv.1 = k)) = (atKey xs k).isSome := by
    rw [valV_any, (r.val k).isSome_eq, Option.isSome_map]
  unfold putK storedH
  rw [e]
  by_cases q : (atKey xs k).isSome = true
  · rw [if_pos q, if_pos q]; exact r.repl k ry
  · rw [if_neg q, if_neg q]; exact Paired.snoc r ⟨rfl, hb, ry⟩
theorem KT.keeps {H H' : Hp} {kvs : List (List Key × V)} {xs : List (List Key × Addr × Value)} (r : KT H kvs xs) (ht : ∀ b ys, H b = some (.tup ys) → H' b = some (.tup ys)) : KT H' kvs xs :=
  Paired.mapP r fun _ _ z => ⟨z.1, ht _ _ z.2.1, z.2.2⟩
section
variable {P : Program} {w : World} {H : Hp} {h : Heap} {a : Addr}
theorem rd_of {u : HO} (ok : HOk P w H h) (e : Rd H a u) : ObjOk P w H h a u := e.ok ok
theorem dk_rd {kvs : List (Key × V)} (ok : HOk P w H h) (e : Rd H a (.dK kvs)) : kvs.length ≤ sizeLine ∧ (a == sysModules) = false ∧ ∃ vs, KV kvs vs ∧ h.DictOf (mixKind P w) a vs :=
  show ObjOk P w H h a (.dK kvs) from rd_of ok e
theorem dk_of {kvs : List (Key × V)} (ok : HOk P w H h) (e : H a = some (.dK kvs)) : kvs.length ≤ sizeLine ∧ (a == sysModules) = false ∧ ∃ vs, KV kvs vs ∧ h.DictOf (mixKind P w) a vs := dk_rd ok (.inl e)
/-- a tracked tuple of ints and texts is a key -/
theorem key_of {ks : List Key} (ok : HOk P w H h) (e : H a = some (.tup (ks.map kV))) : (tupleKind (mixKind P w)).is h ks a := by
  obtain ⟨_, its, r, o, h1, h2, n, h3⟩ := (show ObjOk P w H h a (.tup (ks.map kV)) from ok a _ e)
  exact ⟨o, its.toArray, n, h1, h2, h3, by simpa using items_are r⟩
theorem dt_rd {kvs : List (List Key × V)} (ok : HOk P w H h) (e : Rd H a (.dT kvs)) : kvs.length ≤ sizeLine ∧ (a == sysModules) = false ∧
    ∃ xs, KT H kvs xs ∧ h.DictOfH (tupleKind (mixKind P w)) a xs := by
  obtain ⟨z, y, xs, r, o, es, ep, h1, h2, h3, h4, h5⟩ := (show ObjOk P w H h a (.dT kvs) from rd_of ok e)
  refine ⟨z, y, xs, r, o, es, ep, h1, h2, h3, h4, fun x hx => ?_, h5⟩
  have all : ∀ {l : List (List Key × V)} {m : List (List Key × Addr × Value)}, KT H l m → ∀ x ∈ m, (tupleKind (mixKind P w)).is h x.1 x.2.1 := by
    intro l m q
    induction q with
    | nil => intro x hx; exact nomatch hx
    | @cons p q ps qs hq t ih =>
      intro x hx
      rcases List.mem_cons.mp hx with e | hx
      · subst e
        exact key_of ok (by rw [← hq.1]; exact hq.2.1)
      · exact ih x hx
  exact all r x hx
theorem dt_of {kvs : List (List Key × V)} (ok : HOk P w H h) (e : H a = some (.dT kvs)) : kvs.length ≤ sizeLine ∧ (a == sysModules) = false ∧
    ∃ xs, KT H kvs xs ∧ h.DictOfH (tupleKind (mixKind P w)) a xs := dt_rd ok (.inl e)
end
/-- what the dict at a holds at the key y -/
def DGet (H : Hp) (a : Addr) (y : V) (r : Option V) : Prop :=
  (∃ kvs k, Rd H a (.dK kvs) ∧ y = kV k ∧ r = valV kvs k) ∨ ∃ kvs k b, Rd H a (.dT kvs) ∧ y = .ref b ∧ H b = some (.tup (k.map kV)) ∧ r = valV kvs k
/-- the heap behind a[y] = v -/
def DPut (H : Hp) (a : Addr) (y v : V) (H' : Hp) : Prop :=
  (∃ kvs k, H a = some (.dK kvs) ∧ y = kV k ∧ kvs.length < sizeLine ∧ H' = upd H a (.dK (putK kvs k v))) ∨
  ∃ kvs k b, H a = some (.dT kvs) ∧ y = .ref b ∧ H b = some (.tup (k.map kV)) ∧ kvs.length < sizeLine ∧ H' = upd H a (.dT (putK kvs k v))
theorem DGet.k {H : Hp} {a : Addr} {kvs : List (Key × V)} {k : Key} (e : H a = some (.dK kvs)) : DGet H a (kV k) (valV kvs k) := .inl ⟨kvs, k, .inl e, rfl, rfl⟩
theorem DGet.t {H : Hp} {a b : Addr} {kvs : List (List Key × V)} {k : List Key} (e : H a = some (.dT kvs)) (eb : H b = some (.tup (k.map kV))) : DGet H a (.ref b) (valV kvs k) := .inr ⟨kvs, k, b, .inl e, rfl, eb, rfl⟩
theorem DPut.k {H : Hp} {a : Addr} {kvs : List (Key × V)} {k : Key} {v : V} (e : H a = some (.dK kvs)) (hl : kvs.length < sizeLine) : DPut H a (kV k) v (upd H a (.dK (putK kvs k v))) := .inl ⟨kvs, k, e, rfl, hl, rfl⟩
theorem DPut.t {H : Hp} {a b : Addr} {kvs : List (List Key × V)} {k : List Key} {v : V} (e : H a = some (.dT kvs)) (eb : H b = some (.tup (k.map kV))) (hl : kvs.length < sizeLine) :
    DPut H a (.ref b) v (upd H a (.dT (putK kvs k v))) := .inr ⟨kvs, k, b, e, rfl, eb, hl, rfl⟩
section
variable {X : Cx} {pins : List (Addr × Obj)} {σ : St} {H : Hp} {s : Shared} {a : Addr} {y v : V} {u r : Value} {o : Option V} {A : Around} {E : Value → Shared → Prop}
theorem Inv.big (I : Inv X pins σ H s) : sysModules < s.heap.objs.size := by
  have h : mainGlobals < s.heap.objs.size := (I.mod.glob.keeps I.bk).lt
  exact Nat.lt_trans (by decide) h
/-- d[y], there -/
theorem d_getItem {Q : Value → Shared → Prop} (hu : A.units + 1 < cLine) (I : Inv X pins σ H s) (g : DGet H a y (some v)) (ry : RelV y u) (h : ∀ w' s', Inv X pins σ H s' → RelV v w' → Q w' s') :
    wpAny (model X.prog X.w) A (getItem (.ref a) u) Q E s := by
  rcases g with ⟨kvs, k, e, ey, l⟩ | ⟨kvs, k, b, e, ey, eb, l⟩
  · subst ey
    obtain ⟨z, hd, vs, rel, dd⟩ := dk_rd I.hok e
    obtain ⟨w', hw, rw'⟩ := RelO.some_of (v := v) (o := valueAt vs k) (by rw [l]; exact rel.val k)
    exact wpAny_getItem_of (kV_is ry) dd.mapOf hw (h w' _ (I.tok _) rw')
  · subst ey
    cases (show u = Value.ref b from ry)
    obtain ⟨z, hd, xs, rel, dd⟩ := dt_rd I.hok e
    obtain ⟨w', hw, rw'⟩ := RelO.some_of (v := v) (o := (atKey xs k).map (·.2)) (by rw [l]; exact rel.val k)
    obtain ⟨p, hp, hp2⟩ := Option.map_eq_some_iff.mp hw
    refine wpAny_getItem_heap (tupleKind_room_in1 hu) (key_of I.hok eb) dd hp ?_
    rw [hp2]
    exact h w' _ (I.tok _) rw'
/-- a dict's object is replaced -/
theorem d_write {h' : Heap} {t' : Nat} {ob : HO} (I : Inv X pins σ H s) (mu : Mut (H a)) (hs : Heap.SameBut a s.heap h') (he : ∃ q, h'.get? a = some q) (new : ObjOk X.prog X.w (upd H a ob) h' a ob) :
    Inv X pins σ (upd H a ob) { s with heap := h', toks := t' } :=
  I.write (x := a) (e := a) mu (.inl rfl) (fun b q hb z => (hs.2 b hb).trans z) he new
theorem dk_new {P : Program} {w : World} {H' : Hp} {h' : Heap} {kvs : List (Key × V)} {vs : List (Key × Value)} (z : kvs.length ≤ sizeLine) (hd : (a == sysModules) = false) (rel : KV kvs vs) (dd : h'.DictOf (mixKind P w) a vs) :
    ObjOk P w H' h' a (.dK kvs) := ⟨z, hd, vs, rel, dd⟩
/-- d[y] = v -/
theorem d_setItem {H' : Hp} {Q : Unit → Shared → Prop} (hu : A.units + 1 < cLine) (I : Inv X pins σ H s) (g : DPut H a y v H') (ry : RelV y u) (rv : RelV v r) (h : ∀ s', Inv X pins σ H' s' → Q () s') :
    wpAny (model X.prog X.w) A (setItem (.ref a) u r) Q E s := by
  rcases g with ⟨kvs, k, e, ey, l, eH⟩ | ⟨kvs, k, b, e, ey, eb, l, eH⟩
  · subst ey eH
    obtain ⟨z, hd, vs, rel, dd⟩ := dk_of I.hok e
    have hz : vs.length ≤ sizeLine := by rw [← rel.length]; exact z
    have hl : (putK kvs k v).length ≤ sizeLine := by have := length_putK kvs k v; omega
    refine wpAny_setItem_pairs (hsz := hz) (kV_is ry) dd fun h' dd' hs => h _ ?_
    have he : ∃ q, h'.get? a = some q := let ⟨q, _, _, hq, _⟩ := dd'; ⟨q, hq⟩
    exact d_write I (by rw [e]; exact True.intro) hs he (dk_new hl hd (rel.put k rv) dd')
  · subst ey eH
    cases (show u = Value.ref b from ry)
    obtain ⟨z, hd, xs, rel, dd⟩ := dt_of I.hok e
    have hz : xs.length ≤ sizeLine := by rw [← Paired.length rel]; exact z
    have hl : (putK kvs k v).length ≤ sizeLine := by have := length_putK kvs k v; omega
    refine wpAny_setItem_heap (hsz := hz) (tupleKind_room_in1 hu) (key_of I.hok eb) dd fun h' dd' hs => h _ ?_
    obtain ⟨q, es, ep, hq, h2, h3, h4, _, h5⟩ := dd'
    refine d_write I (by rw [e]; exact True.intro) hs ⟨q, hq⟩ ⟨hl, hd, _, (rel.put k eb rv).keeps fun c ys ec => ?_, q, es, ep, hq, h2, h3, h4, h5⟩
    rw [upd_ne (ne_of ec e (fun z => nomatch z))]
    exact ec
end
section
variable {X : Cx} {pins : List (Addr × Obj)} {σ : St} {H : Hp} {s : Shared} {a : Addr} {kvs : List (Key × V)} {k : Key} {u : Value} {A : Around} {E : Value → Shared → Prop}
end
/-- the element of a subscription, not a slice -/
def NoSl (i : Expr) : Prop := ∀ ov iv, subscripted i false ov iv = operate [ov, iv] (getItem ov iv)
theorem subD_of {prog : Program} {w : World} {A : Around} {E : Value → Shared → Prop} {s : Shared} {env : Env} {value slice : Expr} {pos : Pos} {T id : String} {Q : Value → Shared → Prop}
    (hl : typeLookup (.type T) "__getitem__" = pure (some (.builtin id))) (hs : NoSl slice)
    (h : wpAny (model prog w) A (eval value env) (fun o s₁ => wpAny (model prog w) A (eval slice env) (fun i s₂ => s₂.TypeIs o T ∧ wpAny (model prog w) A (getItem o i) Q E s₂) E s₁) E s) :
    wpAny (model prog w) A (eval (.Subscript value slice pos) env) Q E s := by
  refine Subscript_ (wpAny_mono h (fun o s₁ h₁ => wpAny_mono h₁ (fun i s₂ h₂ => ?_) fun _ _ x => x) fun _ _ x => x)
  obtain ⟨hT, h₂⟩ := h₂
  unfold subscriptTail
  refine wpAny_bind ?_
  rw [getitemInPython_of_ne hT.not_modules]
  refine wpAny_bind (wpAny_specialOf hT hl ?_)
  have fin : wpAny (model prog w) A (subscripted slice false o i) (fun r s₃ => wpAny (model prog w) A (letTemporaryGo value o r >>= fun _ => pure r) Q E s₃) E s₂ := by
    rw [hs o i]
    exact wpAny_operating (wpAny_mono h₂ (fun r s₃ h₃ => wpAny_bind (wpAny_letTemporaryGo (wpAny_pure h₃))) fun _ _ x => x)
  first
    | exact wpAny_pure (wpAny_bind fin)
    | exact wpAny_bind (wpAny_pure (wpAny_bind fin))
    | exact wpAny_bind fin
theorem dict_typeIs {X : Cx} {pins : List (Addr × Obj)} {σ : St} {H : Hp} {s : Shared} {a : Addr} {y : V} {o : Option V} (I : Inv X pins σ H s) (g : DGet H a y o) : s.TypeIs (.ref a) "dict" := by
  rcases g with ⟨kvs, k, e, _, _⟩ | ⟨kvs, k, b, e, _, _, _⟩
  · obtain ⟨_, _, vs, _, dd⟩ := dk_rd I.hok e
    exact dd.typeIs
  · obtain ⟨_, _, xs, _, dd⟩ := dt_rd I.hok e
    exact dd.typeIs
/-- d[y] -/
def tDGet (td ty : TE) : TE := fun σ H Q => td σ H fun x H1 => ty σ H1 fun y H2 => ∃ a v, x = .ref a ∧ DGet H2 a y (some v) ∧ Q v H2
/-- d[y] = v -/
def sDPut (td ty tv : TE) : TS := fun D σ H => tv σ H fun v H1 => td σ H1 fun x H2 => ty σ H2 fun y H3 => ∃ a H4, x = .ref a ∧ DPut H3 a y v H4 ∧ D.nx σ H4
section
variable {X : Cx} {o i e value : Expr} {pos pos' tpos : Pos} {td ty tv : TE}
theorem pe_dget (hu : X.A.units + 1 < cLine) (ho : PE X o td) (hi : PE X i ty) (hs : NoSl i) : PE X (.Subscript o i pos) (tDGet td ty) := by
  intro pins s σ H Q I h
  refine subD_of PySem.F.slot_dict_getitem.lookup hs (thn (ho pins s σ H _ I h) fun u s1 ⟨x, H1, I1, rx, q1⟩ => thn (hi pins s1 σ H1 _ I1 q1) fun iv s2 ⟨y, H2, I2, ry, a, v, ex, g, q2⟩ => ?_)
  subst ex
  obtain rfl : u = Value.ref a := rx
  exact ⟨dict_typeIs I2 g, d_getItem hu I2 g ry fun w' s3 I3 rw' => ⟨v, H2, I3, rw', q2⟩⟩
theorem ps_dput (hu : X.A.units + 1 < cLine) (ho : PE X o td) (hi : PE X i ty) (hv : PE X value tv) (hs : swapsWith value (some (.Subscript o i pos')) pos.line X.env = pure false) :
    PS X (.Assign [.Subscript o i pos'] value pos) (sDPut td ty tv) := by
  intro pins s σ H D I h
  refine wpAny_Assign_Subscript (thn (hv pins s σ H _ I h) fun r s1 ⟨v, H1, I1, rv, q1⟩ => thn (ho pins s1 σ H1 _ I1 q1) fun u s2 ⟨x, H2, I2, rx, q2⟩ => thn (hi pins s2 σ H2 _ I2 q2) fun iv s3 ⟨y, H3, I3, ry, a, H4, ex, g, q3⟩ => ?_) hs
  subst ex
  obtain rfl : u = Value.ref a := rx
  exact d_setItem hu I3 g ry rv fun s4 I4 => ⟨σ, H4, I4, q3⟩
end
theorem dk_empty {P : Program} {w : World} {H : Hp} (h : Heap) (hb : sysModules < h.objs.size) : ObjOk P w H (h.push { cls := .type "dict", data := .dict #[] }) h.objs.size (.dK []) :=
  ⟨Nat.zero_le _, beq_eq_false_iff_ne.mpr (Ne.symm (Nat.ne_of_lt hb)), [], .nil, Heap.DictOf.new h⟩
/-- {}, to be a dict of the kind that is wanted -/
def tDNewK : TE := fun _ H Q => ∀ p, H p = none → Q (.ref p) (upd H p (.dK []))
section
variable {X : Cx} {pos : Pos}
theorem pe_dnewK : PE X (.Dict [] [] pos) tDNewK := fun pins s σ H Q I h =>
  wpAny_Dict_empty ⟨.ref s.heap.objs.size, _, I.laid (a := s.heap.objs.size) (o := .dK []) (t' := s.toks) (fun _ _ q => Heap.get?_push_of_some _ q) (Nat.le_refl _) (dk_empty s.heap I.big), rfl, h _ (I.hok.fresh (Nat.le_refl _))⟩
end
/-- the pairs of a display, from the left -/
def tPairs : List (TE × TE) → St → Hp → (List (V × V) → Hp → Prop) → Prop
  | [], _, H, Q => Q [] H
  | (tk, tv) :: r, σ, H, Q => tk σ H fun x H1 => tv σ H1 fun y H2 => tPairs r σ H2 fun ps H3 => Q ((x, y) :: ps) H3
abbrev VV : List (V × V) → List (Value × Value) → Prop := Paired fun p q => RelV p.1 q.1 ∧ RelV p.2 q.2
def PPs (X : Cx) (pos : Pos) (keys : List (Option Expr)) (values : List Expr) (trs : List (TE × TE)) : Prop :=
  ∀ (pins : List (Addr × Obj)) (s : Shared) (σ : St) (H : Hp) (Q : List (V × V) → Hp → Prop), Inv X pins σ H s → tPairs trs σ H Q →
    wpAny (model X.prog X.w) X.A (evalPairs (pairTrees keys values X.env pos)) (fun vs s' => ∃ ps H', Inv X pins σ H' s' ∧ VV ps vs ∧ Q ps H') X.xe s
theorem pps_nil {X : Cx} {pos : Pos} : PPs X pos [] [] [] := fun pins s σ H Q I h => pairTrees_nil_walk ⟨[], H, I, .nil, h⟩
theorem pps_cons {X : Cx} {pos : Pos} {k v : Expr} {ks : List (Option Expr)} {vs : List Expr} {tk tv : TE} {trs : List (TE × TE)} (hk : PE X k tk) (hv : PE X v tv) (hr : PPs X pos ks vs trs) :
    PPs X pos (some k :: ks) (v :: vs) ((tk, tv) :: trs) := fun pins s σ H Q I h =>
  pairTrees_cons_walk (thn (hk pins s σ H _ I h) fun u s1 ⟨x, H1, I1, rx, q1⟩ => thn (hv pins s1 σ H1 _ I1 q1) fun w2 s2 ⟨y, H2, I2, ry, q2⟩ =>
    thn (hr pins s2 σ H2 _ I2 q2) fun ws s3 ⟨ps, H3, I3, rel, q3⟩ => ⟨(x, y) :: ps, H3, I3, .cons ⟨rx, ry⟩ rel, q3⟩)
def mergeK (kvs more : List (Key × V)) : List (Key × V) := more.foldl (fun acc kv => putK acc kv.1 kv.2) kvs
theorem KV.merge : ∀ {more : List (Key × V)} {rs : List (Key × Value)} {kvs : List (Key × V)} {vs : List (Key × Value)}, KV more rs → KV kvs vs → KV (mergeK kvs more) (merged vs rs) := by
  intro more rs kvs vs r
  unfold KV at r
  induction r generalizing kvs vs with
  | nil => intro q; exact q
  | @cons p q ps qs h t ih =>
    intro r0
    have e : KV (putK kvs p.1 p.2) (stored vs q.1 q.2) := by
      have := r0.put p.1 h.2
      rw [← h.1]; exact this
    exact ih e
theorem length_mergeK : ∀ (more kvs : List (Key × V)), (mergeK kvs more).length ≤ kvs.length + more.length
  | [], kvs => by show kvs.length ≤ kvs.length + 0; omega
  | p :: r, kvs => by
    have h1 := length_mergeK r (putK kvs p.1 p.2)
    have h2 := length_putK kvs p.1 p.2
    show (mergeK (putK kvs p.1 p.2) r).length ≤ _
    rw [List.length_cons]; omega
theorem carries_of {P : Program} {w : World} : ∀ {kvs : List (Key × V)} {ws : List (Value × Value)}, VV (kvs.map fun kv => (kV kv.1, kv.2)) ws → ∃ rs, Carries (mixKind P w) ws rs ∧ KV kvs rs
  | [], _, r => by rw [List.map_nil] at r; cases r; exact ⟨[], True.intro, .nil⟩
  | p :: kvs, _, r => by
    rw [List.map_cons] at r
    cases r with
    | @cons a b as bs h t =>
      obtain ⟨rs, c, q⟩ := carries_of (P := P) (w := w) t
      obtain ⟨b1, b2⟩ := b
      exact ⟨(p.1, b2) :: rs, ⟨kV_is h.1, rfl, c⟩, .cons ⟨rfl, h.2⟩ q⟩
/-- {k: v, ..} with keys ints and texts; the new dict stands empty while the pairs are made -/
def tDisp (trs : List (TE × TE)) : TE := fun σ H Q => ∀ p, H p = none → tPairs trs σ (upd H p (.dK [])) fun ps H2 => H2 p = some (.dK []) ∧ ∃ kvs : List (Key × V), ps = kvs.map (fun kv => (kV kv.1, kv.2)) ∧ kvs.length ≤ 15 ∧ Q (.ref p) (upd H2 p (.dK (mergeK [] kvs)))
theorem pe_disp {X : Cx} {pos : Pos} {keys : List (Option Expr)} {values : List Expr} {trs : List (TE × TE)} (h : PPs X pos keys values trs) (hall : keys.all (·.isSome) = true) (hl : keys.length = values.length) (h0 : keys ≠ [])
    (h15 : keys.length ≤ 15) : PE X (.Dict keys values pos) (tDisp trs) := by
  intro pins s σ H Q I q
  have hn := I.hok.fresh (Nat.le_refl s.heap.objs.size)
  have I1 := I.laid (a := s.heap.objs.size) (o := .dK []) (h' := s.heap.push { cls := .type "dict", data := .dict #[] }) (t' := s.toks) (fun _ _ q => Heap.get?_push_of_some _ q) (Nat.le_refl _) (dk_empty s.heap I.big)
  refine wpAny_Dict_walk (knd := mixKind X.prog X.w) hall hl h0 h15 (thn (h pins _ σ _ _ I1 (q _ hn)) fun ws s2 ⟨ps, H2, I2, rel, e, kvs, ep, lk, q2⟩ => ?_)
  subst ep
  obtain ⟨rs, c, rk⟩ := carries_of (P := X.prog) (w := X.w) rel
  obtain ⟨z, hd, vs0, r0, dd⟩ := dk_of I2.hok e
  cases r0
  refine ⟨rs, c, dd, fun h' dd' hs => ⟨.ref s.heap.objs.size, _, ?_, rfl, q2⟩⟩
  have hz : (mergeK [] kvs).length ≤ sizeLine := by
    have h1 := length_mergeK kvs []
    rw [List.length_nil] at h1
    rw [sizeLine_eq]; omega
  have he : ∃ q, h'.get? s.heap.objs.size = some q := let ⟨q, _, _, hq, _⟩ := dd'; ⟨q, hq⟩
  exact d_write I2 (by rw [e]; exact True.intro) hs he (dk_new hz hd (rk.merge .nil) dd')
/-- a method call o.m(e) of a built-in, with one argument: what must be seen of the text -/
structure M1 (X : Cx) (o : Expr) (m : Str) (apos : Pos) (e : Expr) (cpos : Pos) : Prop where
  base : attributeBase o m X.env (eval o X.env) = eval o X.env
  few : ((backTo cpos (starEach [e] X.env)).all (fun x => !x.1) && (backToKw cpos (keywordEach [] X.env)).all (fun x => x.1.isSome)
    && decide (([e] : List Expr).length + ([] : List Keyword).length + (if ([] : List Keyword).isEmpty then 0 else 1) < 30)) = true
  line : (apos.endLine == cpos.line) = true
  trees : backTo cpos (starEach [e] X.env) = [(false, eval e X.env)]
structure M2 (X : Cx) (o : Expr) (m : Str) (apos : Pos) (e f : Expr) (cpos : Pos) : Prop where
  base : attributeBase o m X.env (eval o X.env) = eval o X.env
  few : ((backTo cpos (starEach [e, f] X.env)).all (fun x => !x.1) && (backToKw cpos (keywordEach [] X.env)).all (fun x => x.1.isSome)
    && decide (([e, f] : List Expr).length + ([] : List Keyword).length + (if ([] : List Keyword).isEmpty then 0 else 1) < 30)) = true
  line : (apos.endLine == cpos.line) = true
  trees : backTo cpos (starEach [e, f] X.env) = [(false, eval e X.env), (false, eval f X.env)]
/-- a is a dict, whatever its keys -/
def IsD (H : Hp) (a : Addr) : Prop := (∃ kvs, Rd H a (.dK kvs)) ∨ ∃ kvs, Rd H a (.dT kvs)
theorem isD_at {X : Cx} {pins : List (Addr × Obj)} {σ : St} {H : Hp} {s : Shared} {a : Addr} (I : Inv X pins σ H s) (d : IsD H a) :
    s.TypeIs (.ref a) "dict" ∧ (∀ b, Value.ref a = .ref b → ∃ ob, s.heap.get? b = some ob ∧ ob.dict = none) ∧ (a == sysModules) = false := by
  rcases d with ⟨kvs, e⟩ | ⟨kvs, e⟩
  · obtain ⟨_, hd, vs, _, dd⟩ := dk_rd I.hok e
    refine ⟨dd.typeIs, fun b q => ?_, hd⟩
    cases q
    obtain ⟨ob, _, _, h1, h2, _⟩ := dd
    exact ⟨ob, h1, h2.2.1⟩
  · obtain ⟨_, hd, xs, _, dd⟩ := dt_rd I.hok e
    refine ⟨dd.typeIs, fun b q => ?_, hd⟩
    cases q
    obtain ⟨ob, _, _, h1, h2, _⟩ := dd
    exact ⟨ob, h1, h2.2.1⟩
section
variable {X : Cx} {pins : List (Addr × Obj)} {σ : St} {H : Hp} {s : Shared} {a : Addr} {y d : V} {u r : Value} {o : Option V} {A : Around} {E : Value → Shared → Prop}
/-- d.get(y, x) -/
theorem d_get2 {Q : Value → Shared → Prop} (hu : A.units + 1 < cLine) (I : Inv X pins σ H s) (g : DGet H a y o) (ry : RelV y u) (rd : RelV d r) (h : ∀ w' s', Inv X pins σ H s' → RelV (o.getD d) w' → Q w' s') :
    wpAny (model X.prog X.w) A (call (.builtin "dict.get") [.ref a, u, r]) Q E s := by
  rcases g with ⟨kvs, k, e, ey, l⟩ | ⟨kvs, k, b, e, ey, eb, l⟩
  · subst ey
    obtain ⟨z, hd, vs, rel, dd⟩ := dk_rd I.hok e
    refine call_meetsIn PySem.F.slot_dict_get dd.typeIs PySem.F.entry_dict_get (PySem.F.args_dict_get_3 _ _ _) (meets_dict_get_default (mixKind X.prog X.w) a (kV_is ry) hd r) ⟨_, dd.mapOf, h _ _ (I.tok _) ?_⟩
    rw [l]
    exact (rel.val k).getD rd
  · subst ey
    cases (show u = Value.ref b from ry)
    obtain ⟨z, hd, xs, rel, dd⟩ := dt_rd I.hok e
    refine call_meetsIn PySem.F.slot_dict_get dd.typeIs PySem.F.entry_dict_get (PySem.F.args_dict_get_3 _ _ _) (meetsH_dict_get_default (tupleKind (mixKind X.prog X.w)) a b hd r) ⟨tupleKind_room_in1 hu, k, xs, key_of I.hok eb, dd, h _ _ (I.tok _) ?_⟩
    rw [l]
    exact (rel.val k).getD rd
end
def tDGet2 (td ty tx : TE) : TE := fun σ H Q => td σ H fun x H1 => ∃ a, x = .ref a ∧ IsD H1 a ∧ ty σ H1 fun y H2 => tx σ H2 fun z H3 => ∃ o, DGet H3 a y o ∧ Q (o.getD z) H3
section
variable {X : Cx} {o e f : Expr} {apos cpos : Pos} {td ty tx : TE}
theorem pe_dget2 (hu : X.A.units + 1 < cLine) (ho : PE X o td) (he : PE X e ty) (hf : PE X f tx) (m : M2 X o "get" apos e f cpos) : PE X (.Call (.Attribute o "get" apos) [e, f] [] cpos) (tDGet2 td ty tx) := by
  intro pins s σ H Q I h
  refine wpAny_Call_method m.base m.few m.line PySem.F.plainAttrs_dict PySem.F.slot_dict_get PySem.F.type_dict_get (thn (ho pins s σ H _ I h) fun u s1 ⟨x, H1, I1, rx, a, ex, d, q1⟩ => ?_)
  subst ex
  obtain rfl : u = Value.ref a := rx
  obtain ⟨t1, t2, _⟩ := isD_at I1 d
  refine ⟨t1, t2, ?_⟩
  rw [m.trees]
  refine Calls.callWith_builtin rfl (Calls.evalArgs_plain (Calls.spliced_cons (thn (he pins s1 σ H1 _ I1 q1) fun iv s2 ⟨y, H2, I2, ry, q2⟩ =>
    Calls.spliced_cons (thn (hf pins s2 σ H2 _ I2 q2) fun fv s3 ⟨z, H3, I3, rz, ov, g, q3⟩ => Calls.spliced_nil ?_))))
  exact d_get2 hu I3 g ry rz fun w' s4 I4 rw' => ⟨_, H3, I4, rw', q3⟩
end
section
variable {X : Cx} {pins : List (Addr × Obj)} {σ : St} {H : Hp} {s : Shared} {a : Addr} {kvs : List (Key × V)} {A : Around} {E : Value → Shared → Prop}
end
section
variable {X : Cx} {pins : List (Addr × Obj)} {σ : St} {H : Hp} {s : Shared} {a : Addr} {y : V} {u : Value} {A : Around} {E : Value → Shared → Prop}
end
end L2
namespace Att
open PySem PySem.W PySem.Calls PyProof.Rows
theorem ints_of_wellAll {P : Params} {h : Heap} : ∀ (ns : List Int) (vs : List Value), WellAll P h vs (ns.map WData.int) → IntsAre vs ns := by
  intro ns
  induction ns with
  | nil =>
    intro vs w
    rw [List.map_nil] at w
    cases w
    exact .nil
  | cons n ns ih =>
    intro vs w
    rw [List.map_cons] at w
    cases w with
    | cons a b =>
      cases a
      exact .cons _ _ (ih _ b)
theorem script_of {l : OpenLaw} {n : Nat} (hn : l.most = some n) {P : Params} {h : Heap} {args : List WData} {vals : List Value}
    (hpre : l.row.toRowW.claim.pre args = true) (hwl : WellAll P h vals args) :
    ∃ a vs ns, vals = [Value.ref a] ∧ args = [WData.list (ns.map WData.int)] ∧ h.get? a = some { cls := .type "list", data := .seq vs.toArray } ∧ IntsAre vs ns ∧ ns.length ≤ n := by
  have hsh : WShape.hasAll [] args [.list .int] = true := (pre_splitW hpre).1
  have hc : l.pre.holds [] { args := args } = true := (pre_splitW hpre).2
  obtain ⟨d, r, rfl, h1, h2⟩ := hasAllW_cons hsh
  obtain rfl := hasAllW_nil h2
  obtain ⟨xs, rfl, h3⟩ := hasW_list h1
  obtain ⟨ns, rfl⟩ := items_int h3
  have hlen : ns.length ≤ n := by
    unfold OpenLaw.pre at hc
    have h4 : (WTm.not (.lt (.lit (.int (n : Int))) (.len (.arg 0)))).holds [] { args := [.list (ns.map .int)] } = true := by
      have h4 := (holds_andW hc).1
      rw [hn] at h4
      exact h4
    have h5 := condW_of h4 (w_not (w_lt w_lit (w_len_list (w_arg rfl))))
    rw [List.length_map] at h5
    refine Nat.le_of_not_lt fun q => ?_
    have q' : (n : Int) < ((ns.length : Nat) : Int) := by omega
    first
      | (rw [decide_eq_true q'] at h5; exact absurd h5 (by decide))
      | (simp at h5; omega)
  cases hwl with
  | cons w1 w2 =>
    cases w2
    cases w1 with
    | list ho hall => exact ⟨_, _, ns, rfl, rfl, ho, ints_of_wellAll ns _ hall, hlen⟩
theorem post_true (l : OpenLaw) (args : List WData) : l.row.toRowW.claim.post args (.bool true) args = true :=
  postW_of (r := l.row.toRowW) (X := (true == true))
    (show WShape.has [] (.bool true) .bool = true by first | rfl | decide | simp [WShape.has, WShape.arms, WShape.armsAll])
    (show (WTm.eq .res (.lit (.bool true))).value [] { args := args, res := some (.bool true), after := args } = some (.bool (true == true)) from w_eq_bool (w_res rfl) w_lit) rfl
/-- the same from a codeAny of the CALL (for a layer whose function contracts speak of calls) -/
theorem attach_call {l : OpenLaw} {n : Nat} {q : Program} {loose : List Str} {XP : (Str → Option Value) → Heap → Prop} {YP : World → Heap → Prop} {d : DefRec}
    (hn : l.most = some n) (hdf : d.params.defaults = [])
    (call : ∀ (w : World) (s₀ s₁ : Shared) (mg mb : Str → Option Value) (fa : Addr) (o : Obj) (pm cd doc : Value) (a : Addr) (vs : List Value) (ns : List Int),
      Ground q loose [] XP w s₀ mg mb s₁.heap → YP w s₁.heap →
      s₁.heap.get? fa = some o → o.data = .func (docDef d.name d.params d.body d.scope pm cd doc) → s₁.heap.CodeRec cd d.name → mg d.name = some (.ref fa) →
      s₁.heap.get? a = some { cls := .type "list", data := .seq vs.toArray } → IntsAre vs ns → ns.length ≤ n → s₁.gens = #[] →
      codeAny (model l.prog w) callerA (.call (.ref fa) ⟨[.ref a], []⟩) (fun r s' => r = .ok (.ret (.bool true)) ∧ OldK s₁.heap s'.heap ∧ s'.os = s₁.os ∧ AllBare s'.gens) s₁) :
    WalkO q loose XP YP l.row.toRowW d [] (fun f vs => PySem.call f vs) := by
  intro w s₀ s₁ mg mb G Y fa o pm cd doc dV kV ho hd hcd hD hmg hg args vals as hpre hlay hrd hwl hlo
  obtain rfl : dV = .none := Dflts.none hD hdf
  obtain rfl : kV = .none := Dflts.noKw hD
  obtain ⟨a, vs, ns, rfl, rfl, hobj, hints, hlen⟩ := script_of hn hpre hwl
  refine enter_call (codeAny_mono (call w s₀ s₁ mg mb fa o pm cd doc a vs ns G Y ho (fd_plain hd) hcd hmg hobj hints hlen hg) fun r s' hq => ?_)
  obtain ⟨rfl, h2, h3, h4⟩ := hq
  exact ⟨.inl ⟨.bool true, .bool true, [], rfl, fun _ => rfl, .bool true, post_true l _, fun _ => ⟨List.Pairwise.nil, fun _ hm => (nomatch hm)⟩⟩, h2, h3, h4⟩
section
variable {prog : Program} {w : World} {A : Around} {E : Value → Shared → Prop} {s : Shared} {K : Frag}
end
end Att
namespace L2
open PySem PySem.Spec PyProof.Rows
theorem vals_ints : ∀ {vs : List Value} {ns : List Int}, IntsAre vs ns → Vals (ns.map V.int) vs
  | _, _, .nil => .nil
  | _, _, .cons n t h => .cons ⟨t, rfl⟩ (vals_ints h)
/-- nothing is tracked but the script, known to the object (or it is an object of the module) -/
def Only (H : Hp) : Prop := ∀ b, H b = none ∨ ∃ o xs, H b = some (.frz o (.lst xs))
/-- THE HEAD: the law's promise, at the heap behind the top. F, the promise of the law's def, may use that base is part of the heap (so K.In base, base.Ns mainGlobals mg stand in Mod) -/
theorem law_call {P : Program} {w : World} {K : PySem.W.Frag} {mg mb : Str → Option Value} {CX : CXT} {k : Nat} {fa a : Addr} {fd : FuncData} {x : Str} {sp : Sp} {s₁ : Shared} {vs : List Value} {ns : List Int}
    (KX : K.In s₁.heap) (hns : s₁.heap.Ns mainGlobals mg) (hb : s₁.heap.Ns builtinsNs mb) (hbb : ∀ x : Str, x ≠ "__name__" → mb x = bootBuiltins x) (hlim : s₁.heap.NoLimit) (hg : s₁.gens = #[])
    (ha : s₁.heap.get? a = some { cls := .type "list", data := .seq vs.toArray }) (hi : IntsAre vs ns) (hl : ns.length ≤ sizeLine) (hr : Room k callerA)
    (F : ∀ base : Heap, K.In base → base.Ns mainGlobals mg → FnOk P w K mg base CX k fa fd [x] sp) (hbind : ∀ (s : Shared) (u : Value), BindsTo s fd ⟨[u], []⟩ [(x, u)])
    (hsp : ∀ H : Hp, Only H → SqL K H a (ns.map V.int) → sp [.ref a] H (fun v _ => v = .bl true) fun _ _ _ => False)
    (hCX : ∀ H e s', CX [] H s₁ (fun _ _ _ => False) e s' → False) :
    codeAny (model P w) callerA (.call (.ref fa) ⟨[.ref a], []⟩) (fun r s' => r = .ok (.ret (.bool true)) ∧ OldK s₁.heap s'.heap ∧ s'.os = s₁.os ∧ AllBare s'.gens) s₁ := by
  have rv := vals_ints hi
  have lenV := hi.length
  -- from an abstract heap in which nothing but the script may be tracked
  have core : ∀ H : Hp, Only H → SqL K H a (ns.map V.int) → HOk P w H s₁.heap → (∀ b, H b ≠ none → b = a) → (H a ≠ none → K.lookup a = none) →
      codeAny (model P w) callerA (.call (.ref fa) ⟨[.ref a], []⟩) (fun r s' => r = .ok (.ret (.bool true)) ∧ OldK s₁.heap s'.heap ∧ s'.os = s₁.os ∧ AllBare s'.gens) s₁ := by
    intro H hO hS hok hA hK
    have base_of : ∀ {b : Addr} {o : Obj}, s₁.heap.get? b = some o → H b = none → (hidT s₁.heap H).get? b = some o := fun e n => hidT_get e n
    have noA : ∀ {b : Addr} {o : Obj} {es : Array DictEntry} {ep : Nat}, s₁.heap.get? b = some o → o.data = .dict es ep → H b = none := fun {b o es ep} e d => by
      cases q : H b with
      | none => rfl
      | some u =>
        have e' : b = a := hA b (by rw [q]; simp)
        subst e'
        rw [ha] at e; cases e
        have d' : Data.seq vs.toArray _ = Data.dict es ep := d
        cases d'
    have nsK : ∀ {b : Addr} {m : Str → Option Value}, s₁.heap.Ns b m → (hidT s₁.heap H).Ns b m := fun {b m} ⟨o, es, ep, e, d, r⟩ => ⟨o, es, ep, base_of e (noA e d), d, r⟩
    have hKb : K.In (hidT s₁.heap H) := fun b o e => base_of (KX b o e) (by
      cases q : H b with
      | none => rfl
      | some u =>
        have e' : b = a := hA b (by rw [q]; simp)
        subst e'
        rw [hK (by rw [q]; simp)] at e; cases e)
    have hM : Mod K mg (hidT s₁.heap H) := ⟨hKb, nsK hns, ⟨mb, nsK hb, hbb⟩, let ⟨mc, h1, h2⟩ := hlim; ⟨mc, nsK h1, h2⟩⟩
    have e0 : Env0 P w K mg (hidT s₁.heap H) callerA [] s₁ H := ⟨rfl, hM, fun b o e => of_hidT e, Nat.le_of_eq (hidT_size _ _), trivial, fun b hb => absurd (show b ∈ ([] : List Addr) from hb) (by simp), hok, .of_eq hg⟩
    refine codeAny_mono ((F _ hKb (nsK hns)).run callerA [] s₁ H ⟨[.ref a], []⟩ [.ref a] [.ref a] _ _ hr e0 (hbind s₁ (.ref a)) (.cons rfl .nil) (hsp H hO hS)) fun r s' h => ?_
    cases r with
    | error e => exact (hCX H e s' h).elim
    | ok fl =>
      cases fl with
      | next => exact False.elim h
      | brk => exact False.elim h
      | cont => exact False.elim h
      | ret u =>
        obtain ⟨v, H', os, bare, un, hok', r', q⟩ := h
        have q' : v = .bl true := q
        subst q'
        obtain rfl : u = Value.bool true := r'
        refine ⟨rfl, OldK.of_keep fun b o e => ?_, os, bare⟩
        cases q : H b with
        | none => exact un.keep b o e q (by intro z; exact absurd (show b ∈ ([] : List Addr) from z) (by simp)) (by simp)
        | some u =>
          rcases hO b with z | ⟨ob, xs, z⟩
          · rw [q] at z; cases z
          · have z2 := un.frzs b ob _ z
            obtain ⟨e1, _⟩ := hok b _ z
            obtain ⟨e2, _⟩ := hok' b _ z2
            rw [e] at e1; cases e1
            exact e2
  cases hk : K.lookup a with
  | some o =>
    -- the script is one of the module's own objects
    have e := KX a o hk
    rw [ha] at e
    cases e
    refine core (fun _ => none) (fun _ => .inl rfl) (.inr ⟨_, vs.toArray, _, hk, rfl, rfl, rfl, by rw [List.size_toArray, lenV]; exact hl, by simpa using rv⟩) (fun b u z => by have z' : (none : Option HO) = some u := z; cases z') (fun b z => absurd rfl z) fun z => absurd rfl z
  | none =>
    refine core (fun b => if b = a then some (.frz { cls := .type "list", data := .seq vs.toArray } (.lst (ns.map V.int))) else none) (fun b => ?_) (.inl (.inr ⟨{ cls := .type "list", data := .seq vs.toArray }, if_pos rfl⟩)) (fun b u z => ?_) (fun b z => ?_) fun _ => hk
    · by_cases hb : b = a
      · exact .inr ⟨_, _, if_pos hb⟩
      · exact .inl (if_neg hb)
    · by_cases hb : b = a
      · have z' := (if_pos hb).symm.trans z
        cases z'
        subst hb
        exact ⟨ha, by rw [List.length_map]; exact hl, vs, _, rv, ha⟩
      · have z' := (if_neg hb).symm.trans z
        cases z'
    · by_cases hb : b = a
      · exact hb
      · exact absurd (if_neg hb) z
end L2
namespace L2
open PySem PySem.Spec PyProof.Rows
/-- the goal that k_head leaves (case hc), from the law's promise. F gives the function object fd (K's own) once, then the promise over every base -/
theorem walk_of {l : PySem.W.OpenLaw} {n k : Nat} {q : Program} {loose : List Str} {XP : (Str → Option Value) → Heap → Prop} {YP : World → Heap → Prop} {d : DefRec} {K : Params → PySem.W.Frag} {CX : World → CXT} {sp : World → Sp} {x : Str}
    (hn : l.most = some n) (hn2 : n ≤ sizeLine) (hdf : d.params.defaults = []) (hr : Room k callerA)
    (hY : ∀ (w : World) (h : Heap), YP w h → (K w.params).In h)
    (F : ∀ (w : World) (mg : Str → Option Value) (fa : Addr) (h : Heap), (K w.params).In h → h.Ns mainGlobals mg → mg d.name = some (.ref fa) →
      ∃ fd : FuncData, (∀ (s : Shared) (u : Value), BindsTo s fd ⟨[u], []⟩ [(x, u)]) ∧
        ∀ base : Heap, (K w.params).In base → base.Ns mainGlobals mg → FnOk l.prog w (K w.params) mg base (CX w) k fa fd [x] (sp w))
    (hsp : ∀ (w : World) (H : Hp) (a : Addr) (ns : List Int), ns.length ≤ n → Only H → SqL (K w.params) H a (ns.map V.int) → sp w [.ref a] H (fun v _ => v = .bl true) fun _ _ _ => False)
    (hCX : ∀ (w : World) (H : Hp) (s : Shared) (e : Value) (s' : Shared), CX w [] H s (fun _ _ _ => False) e s' → False) :
    PySem.W.WalkO q loose XP YP l.row.toRowW d [] (fun f vs => PySem.call f vs) := by
  refine Att.attach_call hn hdf fun w s₀ s₁ mg mb fa o pm cd doc a vs ns G Y ho hd hcd hmg hobj hints hlen hg => ?_
  have KX := hY w _ Y
  obtain ⟨fd, hb, hF⟩ := F w mg fa _ KX G.T.g hmg
  exact law_call KX G.T.g G.T.b G.T.builtins G.T.nolimit hg hobj hints (Nat.le_trans hlen hn2) hr hF hb (fun H hO hS => hsp w H a ns hlen hO hS) fun H e s' => hCX w H s₁ e s'
end L2
namespace L2
open PySem PySem.Spec PyProof.Rows
/-- the j-th statement of a class's body -/
def inClass (s : Stmt) (j : Nat) : Stmt := match s with
  | .ClassDef _ _ _ body _ _ _ _ _ _ _ => body.getD j (.Pass ⟨0, 0, 0, 0⟩)
  | _ => .Pass ⟨0, 0, 0, 0⟩
def defArgs (s : Stmt) : Arguments := match s with
  | .FunctionDef _ a _ _ _ _ _ _ _ _ => a
  | _ => { posonlyargs := [], args := [], vararg := none, kwonlyargs := [], kw_defaults := [], kwarg := none, defaults := [] }
def defBody (s : Stmt) : List Stmt := match s with
  | .FunctionDef _ _ b _ _ _ _ _ _ _ => b
  | _ => []
def defScope (s : Stmt) : Scope := match s with
  | .FunctionDef _ _ _ _ _ _ sc _ _ _ => sc
  | _ => { kind := .function, names := [], isGenerator := false, isCoroutine := false }
abbrev CX0 : CXT := fun _ _ _ _ _ _ => False
abbrev E0 : XK := fun _ _ _ => False
theorem pass0 {X : Cx} : Passes CX0 X E0 := fun _ _ _ _ _ _ _ h => h.elim
structure Fun (K : PySem.W.Frag) (x qual : Str) (st : Stmt) (f : Addr) (fd : FuncData) : Prop where
  ex : ∃ (oc : Value) (od : Option Addr) (kV doc pm : Value) (an : Option Addr) (cdv ct : Value) (osl : Array (Option Value)),
    fd = PySem.W.fnOf x qual (defArgs st) (defBody st) (defScope st) .none kV doc pm an cdv ct ∧ K.lookup f = some ⟨oc, od, .func fd, osl⟩ ∧ PySem.W.codeIn K cdv qual = true
  kp : PySem.W.keepIn K (.ref f) = true
section
variable {P : Program} {w : World} {K : PySem.W.Frag} {mg : Str → Option Value} {base : Heap}
/-- THE RULE for a def: its body as a term of rules, and the reading of that term -/
theorem Fun.ok {x qual : Str} {st : Stmt} {f : Addr} {fd : FuncData} {N ps : List Str} {k : Nat} {sp : Sp} (F : Fun K x qual st f fd) (S : FnScope N ps (defScope st)) (len : ∀ vs H Q E, sp vs H Q E → vs.length = ps.length)
    (hbody : ∀ (cdv : Value) (A : Around) (outer : List Env) (s : Shared) (H : Hp) (vs : List V) (Q : VK) (E : XK), Room k (A.deeper (envOfC qual (defScope st) s.heap.objs.size f cdv)) → sp vs H Q E →
      ∃ t, PSs (cxOf CX0 P w K mg base N qual (defScope st) f cdv A outer s H E).nox (defBody st) t ∧ t { nx := fun _ H' => Q .non H', rt := Q } (start N vs) H) : FnOk P w K mg base CX0 (k + 1) f fd ps sp := by
  obtain ⟨oc, od, kV, doc, pm, an, cdv, ct, osl, rfl, lk, hcd⟩ := F.ex
  refine fn_of lk hcd S len fun A outer s H vs Q E hr hsp => ?_
  obtain ⟨t, h, q⟩ := hbody cdv A outer s H vs Q E hr hsp
  exact ⟨t, h.nox, q⟩
/-- how its arguments bind (no defaults): h is «fun _ _ _ _ _ _ us hl => match us, hl with | [_, _], _ => rfl», one _ a parameter -/
theorem Fun.binds {x qual : Str} {st : Stmt} {f : Addr} {fd : FuncData} {ps : List Str} (F : Fun K x qual st f fd)
    (h : ∀ (kV doc pm : Value) (an : Option Addr) (cdv ct : Value) (us : List Value), us.length = ps.length → bindArgs (PySem.W.fnOf x qual (defArgs st) (defBody st) (defScope st) .none kV doc pm an cdv ct) ⟨us, []⟩ = pure (ps.zip us)) : Binds K fd ps [] := by
  obtain ⟨oc, od, kV, doc, pm, an, cdv, ct, osl, rfl, lk, hcd⟩ := F.ex
  exact .all (h kV doc pm an cdv ct)
theorem fun_mk {x qual : Str} {st : Stmt} {f : Addr} {oc : Value} {od an : Option Addr} {osl : Array (Option Value)} {kV doc pm cdv ct : Value} (l : K.lookup f = some ⟨oc, od, .func (PySem.W.fnOf x qual (defArgs st) (defBody st) (defScope st) .none kV doc pm an cdv ct), osl⟩)
    (c : PySem.W.codeIn K cdv qual = true) (k : PySem.W.keepIn K (.ref f) = true) : Fun K x qual st f (PySem.W.fnOf x qual (defArgs st) (defBody st) (defScope st) .none kV doc pm an cdv ct) := ⟨⟨oc, od, kV, doc, pm, an, cdv, ct, osl, rfl, l, c⟩, k⟩
end
theorem hu_of {A : Around} {k : Nat} (hr : Room k A) : A.units + 1 < cLine := Nat.lt_of_le_of_lt (Nat.add_le_add_left (by decide : 1 ≤ 64) _) hr.units
theorem small1000 {n : Nat} (h : n ≤ 1000) : n < sizeLine := Nat.lt_of_le_of_lt h (by decide)
section
variable {X : Cx}
theorem pv (i : Nat) {x : Str} {pos : Pos} (hN : X.N[i]? = some x := by rfl) (hv : Vis X.env.scope x := by first | exact Or.inl rfl | exact Or.inr (Or.inl rfl) | exact Or.inr (Or.inr rfl)) (hd : (x == ("__debug__" : Str)) = false := by decide)
    (hcd : (x == ("__classdict__" : Str)) = false := by decide) : PE X (.Name x pos) (tVar i) := pe_var hN hv hd hcd
end
theorem iteF {A B : Prop} (h : B) : if false = true then A else B := by
  rw [if_neg Bool.false_ne_true]
  exact h
theorem iteT {A B : Prop} (h : A) : if true = true then A else B := by
  rw [if_pos rfl]
  exact h
/-- all that was tracked is as it was -/
def Same (H H' : Hp) : Prop := ∀ b o, H b = some o → H' b = some o
theorem Same.refl (H : Hp) : Same H H := fun _ _ h => h
theorem Same.trans {H H1 H2 : Hp} (a : Same H H1) (b : Same H1 H2) : Same H H2 := fun c o h => b c o (a c o h)
theorem Same.free {H H' : Hp} (e : Same H H') {l : Addr} (h : H' l = Option.none) : H l = Option.none := by
  cases q : H l with
  | none => rfl
  | some o =>
    rw [e l o q] at h
    cases h
theorem Same.seq {K : PySem.W.Frag} {H H' : Hp} {a : Addr} {xs : List V} (e : Same H H') (h : SqL K H a xs) : SqL K H' a xs := by
  rcases h with (h | ⟨o, h⟩) | h
  · exact .inl (.inl (e _ _ h))
  · exact .inl (.inr ⟨o, e _ _ h⟩)
  · exact .inr h
section
variable {κ : Type} [DecidableEq κ]
end
end L2
set_option Elab.async false
set_option linter.all false
set_option maxRecDepth 100000
namespace L2
open PySem PySem.Spec PyProof.Rows
theorem drawsStr {prog : Program} {w : World} {A : Around} (hh : A.handled = none) (it : Addr) (x : Str) (t : Tok) :
    Draws prog w A it [it] x.cps.size (fun i v => ∃ c u, x.cps[i]? = some c ∧ v = .str ⟨#[c]⟩ u) (fun i h => h.IsStrIter it (strIterType x) x t i) := by
  cases ha : x.cps.all (· < 128)
  · have e : strIterType x = "str_iterator" := by simp [strIterType, ha]
    rw [e]; exact Draws.strWide hh it x t
  · have e : strIterType x = "str_ascii_iterator" := by simp [strIterType, ha]
    rw [e]; exact Draws.strAscii hh it x t
theorem next_str {prog : Program} {w : World} {A : Around} {E : Value → Shared → Prop} {s : Shared} {it : Addr} {x : Str} {t : Tok} {i c : Nat} {Q : Option Value → Shared → Prop} (hit : s.heap.IsStrIter it (strIterType x) x t i) (hx : x.cps[i]? = some c)
    (hQ : ∀ h', h'.IsStrIter it (strIterType x) x t (i + 1) → Heap.SameBut it s.heap h' → Q (some (.str ⟨#[c]⟩ s.toks)) { s with heap := h', toks := s.toks + 1 }) :
    wpAny (model prog w) A (pyNext (.ref it)) Q E s := by
  cases ha : x.cps.all (· < 128)
  · have e : strIterType x = "str_iterator" := by simp [strIterType, ha]
    rw [e] at hit hQ; exact wpAny_pyNext_wide_item hit hx hQ
  · have e : strIterType x = "str_ascii_iterator" := by simp [strIterType, ha]
    rw [e] at hit hQ; exact wpAny_pyNext_ascii_item hit hx hQ
theorem next_str_end {prog : Program} {w : World} {A : Around} {E : Value → Shared → Prop} {s : Shared} {it : Addr} {x : Str} {t : Tok} {i : Nat} {Q : Option Value → Shared → Prop} (hh : A.handled = none) (hit : s.heap.IsStrIter it (strIterType x) x t i) (hx : x.cps[i]? = none)
    (hQ : ∀ h', Heap.ExtBut it s.heap h' → Q none { s with heap := h' }) : wpAny (model prog w) A (pyNext (.ref it)) Q E s := by
  cases ha : x.cps.all (· < 128)
  · have e : strIterType x = "str_iterator" := by simp [strIterType, ha]
    rw [e] at hit; exact wpAny_pyNext_wide_end hh hit hx hQ
  · have e : strIterType x = "str_ascii_iterator" := by simp [strIterType, ha]
    rw [e] at hit; exact wpAny_pyNext_ascii_end hh hit hx hQ
theorem iter_striter {prog : Program} {w : World} {A : Around} {E : Value → Shared → Prop} {s : Shared} {it : Addr} {x : Str} {t : Tok} {i : Nat} {Q : Value → Shared → Prop} (hit : s.heap.IsStrIter it (strIterType x) x t i) (h : Q (.ref it) s) :
    wpAny (model prog w) A (pyIter (.ref it)) Q E s := by
  cases ha : x.cps.all (· < 128)
  · have e : strIterType x = "str_iterator" := by simp [strIterType, ha]
    rw [e] at hit; exact wpAny_pyIter_striter_wide hit h
  · have e : strIterType x = "str_ascii_iterator" := by simp [strIterType, ha]
    rw [e] at hit; exact wpAny_pyIter_striter_ascii hit h
/-- the signs of a text, one by one -/
def Its (x : Str) : It := ⟨fun i _ => i < x.cps.size, fun i H v H' => H' = H ∧ ∃ c, x.cps[i]? = some c ∧ v = .str ⟨#[c]⟩, fun i _ => x.cps.size ≤ i⟩
theorem strIterNo (x : Str) : ["enumerate", "zip", "dict_itemiterator", "dict_reverseitemiterator", "odict_iterator", "itertools.zip_longest", "itertools.pairwise"].contains (strIterType x) = false := by
  unfold strIterType
  split <;> decide
theorem turn_str {P : Program} {w : World} {K : PySem.W.Frag} {tg : Expr} (x : Str) (t : Tok) (it : Addr) : Turn P w K tg (Its x) [it] it (fun i h => h.IsStrIter it (strIterType x) x t i) where
  mem := by simp
  obj := fun i h st b hb => by
    have e : b = it := by simpa using hb
    subst e
    obtain ⟨o, e, c, d⟩ := st
    exact ⟨o, e, fun v z => by rw [d] at z; cases z⟩
  keep := fun i h h' st k => by
    obtain ⟨o, e, r⟩ := st
    exact ⟨o, k it (by simp) o e, r⟩
  item := by
    intro X hP hw hK hc i pins s σ H E I hf st hg
    subst hP hw hK
    have hi : i < x.cps.size := hg
    obtain ⟨f0, f1, f2, f3, f4, f5⟩ := hf it (by simp)
    refine next_str st (c := x.cps[i]) (by simp [hi]) fun h' st' sb => ?_
    have I1 : Inv X pins σ H { s with heap := h', toks := s.toks + 1 } := I.turned (fun b o hb e => (sb.2 b hb).trans e) f0 f1 f3 f4 f5
    obtain ⟨o, e, c, d⟩ := id st'
    exact ⟨_, rfl, go_of (s := { s with heap := h', toks := s.toks + 1 }) e c d (strIterNo x) ⟨.str ⟨#[x.cps[i]]⟩, H, I1, ⟨_, rfl⟩, ⟨rfl, _, by simp [hi], rfl⟩, st', fun b hb => (hf b hb).1⟩⟩
  done := by
    intro X hP hw hK hc i pins s σ H E I hf st hg
    subst hP hw hK
    have hi : x.cps.size ≤ i := hg
    obtain ⟨f0, f1, f2, f3, f4, f5⟩ := hf it (by simp)
    exact next_str_end (I.ok.hd hc) st (by simpa using hi) fun h' eb => ⟨rfl, I.turned (t' := s.toks) (fun b o hb e => eb b o hb e) f0 f1 f3 f4 f5⟩
  self := fun _ _ _ _ _ st h => iter_striter st h
/-- records at ch have turned, a new object is laid -/
theorem Inv.turnNew {X : Cx} {pins : List (Addr × Obj)} {σ : St} {H : Hp} {s : Shared} {h' : Heap} {ch : List Addr} {T : Addr} {o : HO} {t' : Nat} (I : Inv X pins σ H s) (k : ∀ b o, b ∉ ch → s.heap.get? b = some o → h'.get? b = some o)
    (hf : ∀ b ∈ ch, FpOk X pins H b) (hl : ∀ b ∈ ch, ∃ o, s.heap.get? b = some o) (hT : s.heap.objs.size ≤ T) (new : ObjOk X.prog X.w (upd H T o) h' T o) : Inv X pins σ (upd H T o) { s with heap := h', toks := t' } := by
  have hn := I.hok.fresh hT
  have nit : ∀ b u, H b = some u → b ∉ ch := fun b u e z => by rw [(hf b z).1] at e; cases e
  have neT : ∀ b o, s.heap.get? b = some o → b ≠ T := fun b o e => Nat.ne_of_lt (Nat.lt_of_lt_of_le (Heap.lt_size e) hT)
  refine I.step (g' := s.gens) (d' := s.drawn) (ch := ch) (fun b hb => ?_) (fun b o _ _ hc e _ => k b o hc e) (fun b o _ _ hc e _ => ⟨o.slots, k b o hc e⟩) (fun b o _ e n => by rw [upd_ne (neT b o e)]; exact n)
    (fun b o hc e => ⟨o, k b o hc e⟩) (fun b xs e => by rw [upd_ne (ne_of_none e hn)]; exact e) (fun b o u e => by rw [upd_ne (ne_of_none e hn)]; exact e) (fun b ps e => ⟨#[], by rw [upd_ne (ne_of_none e hn), e]; simp⟩) (fun m hm => ?_) (fun b u e => ?_) I.bare
  · obtain ⟨f0, f1, f2, f3, f4, f5⟩ := hf b hb
    exact ⟨f3, f1, f4, f5⟩
  · obtain ⟨o, es, ep, ho, r⟩ := hm
    exact ⟨o, es, ep, k _ o (fun z => (hf _ z).2.1 rfl) ho, r⟩
  · by_cases hb : b = T
    · subst hb; rw [upd_same] at e; cases e; exact new
    · rw [upd_ne hb] at e
      refine (I.hok b u e).stay (fun c v hc q => k c v ?_ q) (fun c q => by rw [upd_ne (ne_of_none q hn)]; exact q) fun c xs q => by rw [upd_ne (ne_of_none q hn)]; exact q
      rcases hc with z | z
      · rw [z]; exact nit b u e
      · exact nit c _ z
/-- pairs (place, item) of a walk that leaves the heap as it is -/
def Ite (J : It) : It := ⟨J.go, fun i H v H' => ∃ y p, J.yld i H y H ∧ H p = none ∧ v = .ref p ∧ H' = upd H p (.tup [.int i, y]), J.stop⟩
/-- behind an item of enumerate -/
theorem enum_out {X : Cx} {pins : List (Addr × Obj)} {σ : St} {H : Hp} {s : Shared} {h' : Heap} {tk : Nat} {e it : Addr} {es : List Expr} {k1} {tp : Pos} {y : V} {u : Value} {i : Nat} {tn : Nat → Heap → Prop} {E : Value → Shared → Prop} {J : It} {ti : Tok} {old : Value}
    (I : Inv X pins σ H s) (hf : ∀ b ∈ [e, it], FpOk X pins H b) (he0 : ∃ old, IsEnum s.heap e it i old) (hit0 : ∃ o, s.heap.get? it = some o) (he : IsEnumOut h' e it ((i : Int) + 1) old s.heap.objs.size) (ht : tn (i + 1) h')
    (tkeep : ∀ h1 h2, tn (i + 1) h1 → (∀ o, h1.get? it = some o → h2.get? it = some o) → tn (i + 1) h2) (hne : e ≠ it)
    (htup : h'.get? s.heap.objs.size = some { cls := .type "tuple", data := .seq #[.int i ti, u] }) (hk : ∀ b o, b ≠ e → b ≠ it → s.heap.get? b = some o → h'.get? b = some o) (ru : RelV y u) (hy : J.yld i H y H) :
    wpAny (model X.prog X.w) X.A (letOwnedTupleGo (.Tuple es k1 tp) (.ref e) (.ref s.heap.objs.size)) (fun _ s2 => ∃ x H', Inv X pins σ H' s2 ∧ RelV x (.ref s.heap.objs.size) ∧ (Ite J).yld i H x H' ∧ ((∃ old, IsEnum s2.heap e it ((i + 1 : Nat) : Int) old) ∧ tn (i + 1) s2.heap) ∧ ∀ b ∈ [e, it], H' b = none) E { s with heap := h', toks := tk } := by
  refine wpAny_letOwnedTupleGo_enum (s := { s with heap := h', toks := tk }) he fun h2 he2 sb => ?_
  obtain ⟨oe, hoe⟩ : ∃ o, s.heap.get? e = some o := let ⟨_, q⟩ := he0; ⟨_, q⟩
  obtain ⟨oi, hoi⟩ := hit0
  have hel : e ≠ s.heap.objs.size := Nat.ne_of_lt (Heap.lt_size hoe)
  have hil : it ≠ s.heap.objs.size := Nat.ne_of_lt (Heap.lt_size hoi)
  have hn := I.hok.fresh (Nat.le_refl s.heap.objs.size)
  have ht2 : h2.get? s.heap.objs.size = some { cls := .type "tuple", data := .seq #[.int i ti, u] } := (sb.2 _ (Ne.symm hel)).trans htup
  refine ⟨.ref s.heap.objs.size, upd H s.heap.objs.size (.tup [.int i, y]), ?_, rfl, ⟨y, _, hy, hn, rfl, rfl⟩, ⟨⟨_, he2⟩, tkeep h' h2 ht fun o q => (sb.2 _ (Ne.symm hne)).trans q⟩, fun b hb => ?_⟩
  · refine I.turnNew (ch := [e, it]) (fun b o hb q => ?_) hf (fun b hb => ?_) (Nat.le_refl _) ?_
    · have hbe : b ≠ e := fun z => hb (by simp [z])
      have hbi : b ≠ it := fun z => hb (by simp [z])
      exact (sb.2 b hbe).trans (hk b o hbe hbi q)
    · rcases List.mem_cons.mp hb with z | z
      · exact ⟨oe, by rw [z]; exact hoe⟩
      · have z' : b = it := by simpa using z
        exact ⟨oi, by rw [z']; exact hoi⟩
    · exact ⟨by show 2 ≤ sizeLine; decide, [.int i ti, u], .cons ⟨_, rfl⟩ (.cons ru .nil), ⟨_, ht2, rfl, _, rfl⟩⟩
  · rcases List.mem_cons.mp hb with z | z
    · rw [upd_ne (by rw [z]; exact hel)]; exact (hf b hb).1
    · have z' : b = it := by simpa using z
      rw [upd_ne (by rw [z']; exact hil)]; exact (hf b hb).1
theorem turn_enumL {P : Program} {w : World} {K : PySem.W.Frag} {es : List Expr} {k1} {tp : Pos} (a e it : Addr) (hne : e ≠ it) :
    Turn P w K (.Tuple es k1 tp) (Ite (Itl K a)) [e, it] e (fun i h => (∃ old, IsEnum h e it (i : Int) old) ∧ h.IsListIter it a i) where
  mem := by simp
  obj := fun i h st b hb => by
    obtain ⟨⟨old, q⟩, o, q2, c, d⟩ := st
    rcases List.mem_cons.mp hb with z | z
    · subst z
      exact ⟨_, q, fun v z => by cases z⟩
    · have z' : b = it := by simpa using z
      subst z'
      exact ⟨o, q2, fun v z => by rw [d] at z; cases z⟩
  keep := fun i h h' st k => by
    obtain ⟨⟨old, q⟩, q2⟩ := st
    exact ⟨⟨old, k e (by simp) _ q⟩, q2.at fun o e => k it (by simp) o e⟩
  item := by
    intro X hP hw hK hc i pins s σ H E I hf st hg
    subst hP hw hK
    obtain ⟨⟨old, he⟩, hit⟩ := st
    obtain ⟨xs, x, hq, hx⟩ := hg
    obtain ⟨its, rv, p, hz⟩ := I.list hq
    obtain ⟨u, hu, ru⟩ := rv.get hx
    refine wpAny_pyNext_enum_item he hit p.isList (x := u) (by simpa using hu) hne fun h' he' hit' ht hsz hk => ?_
    refine ⟨_, rfl, enum_out (tn := fun i h => h.IsListIter it a i) (J := Itl X.K a) I hf ⟨_, he⟩ (let ⟨o, q, _⟩ := hit; ⟨o, q⟩) he' hit' (fun h1 h2 q k => q.at k) hne ht hk ru ⟨rfl, fun ys hy => by rw [I.list_inj hy hq]; exact hx⟩⟩
  done := by
    intro X hP hw hK hc i pins s σ H E I hf st hg
    subst hP hw hK
    obtain ⟨⟨old, he⟩, hit⟩ := st
    obtain ⟨xs, hq, hx⟩ := hg
    obtain ⟨its, rv, p, hz⟩ := I.list hq
    obtain ⟨f0, f1, f2, f3, f4, f5⟩ := hf it (by simp)
    have hl := rv.length
    exact wpAny_pyNext_enum_end (I.ok.hd hc) he hit p.isList (by simp; omega) fun h' eb => ⟨rfl, I.turned (t' := s.toks) (fun b o hb e => eb b o hb e) f0 f1 f3 f4 f5⟩
  self := fun _ _ _ _ _ st h => let ⟨⟨_, q⟩, _⟩ := st; wpAny_pyIter_enum q h
theorem turn_enumS {P : Program} {w : World} {K : PySem.W.Frag} {es : List Expr} {k1} {tp : Pos} (z : Str) (t : Tok) (e it : Addr) (hne : e ≠ it) :
    Turn P w K (.Tuple es k1 tp) (Ite (Its z)) [e, it] e (fun i h => (∃ old, IsEnum h e it (i : Int) old) ∧ h.IsStrIter it (strIterType z) z t i) where
  mem := by simp
  obj := fun i h st b hb => by
    obtain ⟨⟨old, q⟩, o, q2, c, d⟩ := st
    rcases List.mem_cons.mp hb with z | z
    · subst z
      exact ⟨_, q, fun v z => by cases z⟩
    · have z' : b = it := by simpa using z
      subst z'
      exact ⟨o, q2, fun v z => by rw [d] at z; cases z⟩
  keep := fun i h h' st k => by
    obtain ⟨⟨old, q⟩, o, q2, r⟩ := st
    exact ⟨⟨old, k e (by simp) _ q⟩, o, k it (by simp) _ q2, r⟩
  item := by
    intro X hP hw hK hc i pins s σ H E I hf st hg
    subst hP hw hK
    obtain ⟨⟨old, he⟩, hit⟩ := st
    have hi : i < z.cps.size := hg
    have D := drawsStr (prog := X.prog) (w := X.w) (A := X.A.in1) (I.ok.hd hc) it z t
    refine wpAny_pyNext_enum_itemD D he hit hi hne (by simpa using hne) fun x h' tk hP he' hit' ht hsz hk => ?_
    obtain ⟨c, u, hx, rfl⟩ := hP
    refine ⟨_, rfl, enum_out (tn := fun i h => h.IsStrIter it (strIterType z) z t i) (J := Its z) (y := .str ⟨#[c]⟩) I hf ⟨_, he⟩ (let ⟨o, q, _⟩ := hit; ⟨o, q⟩) he' hit' (fun h1 h2 q k => let ⟨o, q, r⟩ := q; ⟨o, k o q, r⟩) hne ht hk ⟨_, rfl⟩ ⟨rfl, c, hx, rfl⟩⟩
  done := by
    intro X hP hw hK hc i pins s σ H E I hf st hg
    subst hP hw hK
    obtain ⟨⟨old, he⟩, hit⟩ := st
    have hi : z.cps.size ≤ i := hg
    obtain ⟨f0, f1, f2, f3, f4, f5⟩ := hf it (by simp)
    have D := drawsStr (prog := X.prog) (w := X.w) (A := X.A.in1) (I.ok.hd hc) it z t
    by_cases q : i = z.cps.size
    · subst q
      exact wpAny_pyNext_enum_endD D he hit fun h' eb => ⟨rfl, I.turned (t' := s.toks) (fun b o hb e => eb b o hb e) f0 f1 f3 f4 f5⟩
    · have hT : s.TypeIs (.ref e) "enumerate" := ⟨_, he, rfl⟩
      have hh := I.ok.hd hc
      unfold pyNext
      refine wpAny_bind (wpAny_attempt (wpAny_callSpecial?_slot (name := Str.ofString "__next__") hT F.slot_enumerate_next
        (wpAny_call_entry F.slot_enumerate_next hT F.entry_enumerate_next ?_ (F.args_enumerate_next_1 _))))
      show wpAny _ _ (field (.ref e) 2 >>= _) _ _ _
      refine wpAny_bind (wpAny_field he rfl (x := .ref it) rfl ?_)
      cases ha : z.cps.all (· < 128)
      · have e1 : strIterType z = "str_iterator" := by simp [strIterType, ha]
        rw [e1] at hit
        refine wpAny_bind (wpAny_nextOf_wide_end hh hit (by simpa using hi) fun h' x eb ⟨o, ho, hc⟩ => ?_)
        exact wpAny_bind (wpAny_isInstance (T := "StopIteration") (b := true) ⟨o, ho, hc⟩ isSubtype_stop (wpAny_pure ⟨rfl, I.turned (t' := s.toks) (fun b o hb e => eb b o hb e) f0 f1 f3 f4 f5⟩))
      · have e1 : strIterType z = "str_ascii_iterator" := by simp [strIterType, ha]
        rw [e1] at hit
        refine wpAny_bind (wpAny_nextOf_ascii_end hh hit (by simpa using hi) fun h' x eb ⟨o, ho, hc⟩ => ?_)
        exact wpAny_bind (wpAny_isInstance (T := "StopIteration") (b := true) ⟨o, ho, hc⟩ isSubtype_stop (wpAny_pure ⟨rfl, I.turned (t' := s.toks) (fun b o hb e => eb b o hb e) f0 f1 f3 f4 f5⟩))
  self := fun _ _ _ _ _ st h => let ⟨⟨_, q⟩, _⟩ := st; wpAny_pyIter_enum q h
section
variable {X : Cx} {tg : Expr}
/-- for c in text -/
def iStr (tl : TE) : TI := fun σ H R => tl σ H fun x H1 => ∃ z, x = .str z ∧ R (Its z) H1
theorem pi_str {l : Expr} {tl : TE} (hl : PE X l tl) : PI X tg l (iStr tl) := by
  intro pins s σ H R I h
  refine thn (hl pins s σ H _ I h) fun v s1 ⟨x, H1, I1, r1, q1⟩ => ?_
  obtain ⟨z, e, q⟩ := q1
  subst e
  obtain ⟨t, rfl⟩ := r1
  refine wpAny_pyIter_strU ?_
  refine ⟨s1.heap.objs.size, [s1.heap.objs.size], _, _, H1, rfl, I1.kept (t' := s1.toks) fun b o e => Heap.get?_push_of_some _ e, turn_str z t _, ⟨_, Heap.get?_push_size _ rfl, rfl, rfl⟩, fun b hb => ?_, q⟩
  have e : b = s1.heap.objs.size := by simpa using hb
  subst e
  exact I1.fpOk (Nat.le_refl _) (I1.hok.fresh (Nat.le_refl _))
/-- for i, c in enumerate(text) -/
def iEnumS (ta : TA) : TI := fun σ H R => ta σ H fun vs H1 => ∃ z, vs = [.str z] ∧ R (Ite (Its z)) H1
def iEnumL (K : PySem.W.Frag) (ta : TA) : TI := fun σ H R => ta σ H fun vs H1 => ∃ a, vs = [.ref a] ∧ (∃ xs, SqL K H1 a xs) ∧ R (Ite (Itl K a)) H1
theorem pi_enumS {a : Expr} {ta : TA} {p pos tp : Pos} {es : List Expr} {k1} (hg : Gl X "enumerate") (hm : X.mg "enumerate" = none) (ha : PA X [a] ta) (hs : starEach [a] X.env = [(false, eval a X.env)] := by rfl) :
    PI X (.Tuple es k1 tp) (.Call (.Name "enumerate" p) [a] [] pos) (iEnumS ta) := by
  intro pins s σ H R I h
  refine Call_ (ld_blt I hg hm boot_enumerate (PyProof.Rows.callWith_type1 (thn (ha pos pins s σ H _ I h) fun us s1 ⟨vs, H1, I1, r1, q1⟩ => ?_) hs rfl))
  obtain ⟨z, e, q⟩ := q1
  subst e
  obtain ⟨u, rfl, ru⟩ := vals1 r1
  obtain ⟨t, rfl⟩ := ru
  refine call_enumerate_str fun h' he hit hsz hk => ?_
  refine wpAny_pyIter_enum (s := { s1 with heap := h' }) he ?_
  have I2 : Inv X pins σ H1 { s1 with heap := h' } := I1.kept (t' := s1.toks) hk
  refine ⟨s1.heap.objs.size + 1, [s1.heap.objs.size + 1, s1.heap.objs.size], _, _, H1, rfl, I2, turn_enumS z t _ _ (Nat.succ_ne_self _), ⟨⟨_, he⟩, hit⟩, fun b hb => ?_, q⟩
  have hb' : s1.heap.objs.size ≤ b := by
    rcases List.mem_cons.mp hb with z | z
    · exact z ▸ Nat.le_succ _
    · have z' : b = s1.heap.objs.size := by simpa using z
      exact z' ▸ Nat.le_refl _
  exact I1.fpOk hb' (I1.hok.fresh hb')
theorem pi_enumL {a : Expr} {ta : TA} {p pos tp : Pos} {es : List Expr} {k1} (hg : Gl X "enumerate") (hm : X.mg "enumerate" = none) (ha : PA X [a] ta) (hs : starEach [a] X.env = [(false, eval a X.env)] := by rfl) :
    PI X (.Tuple es k1 tp) (.Call (.Name "enumerate" p) [a] [] pos) (iEnumL X.K ta) := by
  intro pins s σ H R I h
  refine Call_ (ld_blt I hg hm boot_enumerate (PyProof.Rows.callWith_type1 (thn (ha pos pins s σ H _ I h) fun us s1 ⟨vs, H1, I1, r1, q1⟩ => ?_) hs rfl))
  obtain ⟨l, e, ⟨xs, hq⟩, q⟩ := q1
  subst e
  obtain ⟨u, rfl, ru⟩ := vals1 r1
  cases ru
  obtain ⟨its, rv, pl, hz⟩ := I1.list hq
  refine call_enumerate_list pl.isList fun h' he hit hsz hk => ?_
  refine wpAny_pyIter_enum (s := { s1 with heap := h' }) he ?_
  have I2 : Inv X pins σ H1 { s1 with heap := h' } := I1.kept (t' := s1.toks) hk
  refine ⟨s1.heap.objs.size + 1, [s1.heap.objs.size + 1, s1.heap.objs.size], _, _, H1, rfl, I2, turn_enumL l _ _ (Nat.succ_ne_self _), ⟨⟨_, he⟩, hit⟩, fun b hb => ?_, q⟩
  have hb' : s1.heap.objs.size ≤ b := by
    rcases List.mem_cons.mp hb with z | z
    · exact z ▸ Nat.le_succ _
    · have z' : b = s1.heap.objs.size := by simpa using z
      exact z' ▸ Nat.le_refl _
  exact I1.fpOk hb' (I1.hok.fresh hb')
end
theorem for_str {z : Str} {g : TG} {tb : TS} {D : Ends} {σ : St} {H : Hp} (Pv : Nat → St → Hp → Prop) (h0 : Pv 0 σ H)
    (hs : ∀ i c σ H, z.cps[i]? = some c → Pv i σ H → g (.str ⟨#[c]⟩) σ H fun σ2 H2 => tb { D with nx := Pv (i + 1), ct := Pv (i + 1), bk := D.nx } σ2 H2) (hd : ∀ σ H, Pv z.cps.size σ H → D.nx σ H) :
    ∃ W : Nat → Nat → St → Hp → Prop, (∃ m, W 0 m σ H) ∧ ∀ i m σ H, W i m σ H →
      ((Its z).stop i H ∧ D.nx σ H) ∨ ((Its z).go i H ∧ ∃ N : St → Hp → Prop, (∀ σ' H', N σ' H' → ∃ m', m' < m ∧ W (i + 1) m' σ' H') ∧ ∀ x H', (Its z).yld i H x H' → g x σ H' fun σ2 H2 => tb { D with nx := N, ct := N, bk := D.nx } σ2 H2) := by
  refine ⟨fun i m σ H => m = z.cps.size - i ∧ i ≤ z.cps.size ∧ Pv i σ H, ⟨z.cps.size, by simp, Nat.zero_le _, h0⟩, ?_⟩
  rintro i m σ H ⟨rfl, hi, p⟩
  by_cases hlt : i < z.cps.size
  · refine .inr ⟨hlt, Pv (i + 1), fun σ' H' p' => ⟨z.cps.size - (i + 1), by omega, rfl, hlt, p'⟩, fun x H' y => ?_⟩
    obtain ⟨e, c, hc, rfl⟩ := y
    subst e
    exact hs i c σ _ hc p
  · have e : i = z.cps.size := by omega
    subst e
    exact .inl ⟨Nat.le_refl _, hd σ H p⟩
theorem for_enumS {z : Str} {g : TG} {tb : TS} {D : Ends} {σ : St} {H : Hp} (Pv : Nat → St → Hp → Prop) (h0 : Pv 0 σ H)
    (hs : ∀ i c σ H p, z.cps[i]? = some c → Pv i σ H → H p = none → g (.ref p) σ (upd H p (.tup [.int i, .str ⟨#[c]⟩])) fun σ2 H2 => tb { D with nx := Pv (i + 1), ct := Pv (i + 1), bk := D.nx } σ2 H2) (hd : ∀ σ H, Pv z.cps.size σ H → D.nx σ H) :
    ∃ W : Nat → Nat → St → Hp → Prop, (∃ m, W 0 m σ H) ∧ ∀ i m σ H, W i m σ H →
      ((Ite (Its z)).stop i H ∧ D.nx σ H) ∨ ((Ite (Its z)).go i H ∧ ∃ N : St → Hp → Prop, (∀ σ' H', N σ' H' → ∃ m', m' < m ∧ W (i + 1) m' σ' H') ∧ ∀ x H', (Ite (Its z)).yld i H x H' → g x σ H' fun σ2 H2 => tb { D with nx := N, ct := N, bk := D.nx } σ2 H2) := by
  refine ⟨fun i m σ H => m = z.cps.size - i ∧ i ≤ z.cps.size ∧ Pv i σ H, ⟨z.cps.size, by simp, Nat.zero_le _, h0⟩, ?_⟩
  rintro i m σ H ⟨rfl, hi, p⟩
  by_cases hlt : i < z.cps.size
  · refine .inr ⟨hlt, Pv (i + 1), fun σ' H' p' => ⟨z.cps.size - (i + 1), by omega, rfl, hlt, p'⟩, fun x H' y => ?_⟩
    obtain ⟨v, q, ⟨_, c, hc, rfl⟩, hq, rfl, rfl⟩ := y
    exact hs i c σ H q hc p hq
  · have e : i = z.cps.size := by omega
    subst e
    exact .inl ⟨Nat.le_refl _, hd σ H p⟩
theorem for_enumL {K : PySem.W.Frag} {a : Addr} {xs : List V} {g : TG} {tb : TS} {D : Ends} {σ : St} {H : Hp} (Pv : Nat → St → Hp → Prop) (h0 : Pv 0 σ H) (hl : ∀ i σ H, i ≤ xs.length → Pv i σ H → SqL K H a xs)
    (hs : ∀ i x σ H p, xs[i]? = some x → Pv i σ H → H p = none → g (.ref p) σ (upd H p (.tup [.int i, x])) fun σ2 H2 => tb { D with nx := Pv (i + 1), ct := Pv (i + 1), bk := D.nx } σ2 H2) (hd : ∀ σ H, Pv xs.length σ H → D.nx σ H) :
    ∃ W : Nat → Nat → St → Hp → Prop, (∃ m, W 0 m σ H) ∧ ∀ i m σ H, W i m σ H →
      ((Ite (Itl K a)).stop i H ∧ D.nx σ H) ∨ ((Ite (Itl K a)).go i H ∧ ∃ N : St → Hp → Prop, (∀ σ' H', N σ' H' → ∃ m', m' < m ∧ W (i + 1) m' σ' H') ∧ ∀ x H', (Ite (Itl K a)).yld i H x H' → g x σ H' fun σ2 H2 => tb { D with nx := N, ct := N, bk := D.nx } σ2 H2) := by
  refine ⟨fun i m σ H => m = xs.length - i ∧ i ≤ xs.length ∧ Pv i σ H, ⟨xs.length, by simp, Nat.zero_le _, h0⟩, ?_⟩
  rintro i m σ H ⟨rfl, hi, p⟩
  have q := hl i σ H hi p
  by_cases hlt : i < xs.length
  · refine .inr ⟨⟨xs, xs[i], q, by simp [hlt]⟩, Pv (i + 1), fun σ' H' p' => ⟨xs.length - (i + 1), by omega, rfl, hlt, p'⟩, fun x H' y => ?_⟩
    obtain ⟨v, r, ⟨_, hv⟩, hr, rfl, rfl⟩ := y
    exact hs i v σ H r (hv xs q) p hr
  · have e : i = xs.length := by omega
    subst e
    exact .inl ⟨⟨xs, q, Nat.le_refl _⟩, hd σ H p⟩
end L2
set_option Elab.async false
set_option linter.all false
set_option maxRecDepth 100000
namespace L2
open PySem PySem.Spec PyProof.Rows
abbrev excObj (cls : Value) (t : Addr) (tb : Value) : Obj := { cls := cls, data := .fields #[.ref t, tb, .none, .none, .bool false, .none] }
/-- a traceback's record, its flight -/
def TbAt (h : Heap) (T : Addr) (fl : Value) : Prop := ∃ o ts, h.get? T = some o ∧ o.data = .fields ts ∧ ts[3]? = some fl
theorem excObj_set (cls : Value) (t : Addr) (tb v : Value) : Obj.mapFields (·.setIfInBounds 1 v) (excObj cls t tb) = excObj cls t v := by
  unfold excObj
  show ({ cls := cls, data := .fields ((#[.ref t, tb, .none, .none, .bool false, .none] : Array Value).setIfInBounds 1 v) } : Obj) = _
  rfl
section
variable {M : Model} {A : Around} {E : Value → Shared → Prop} {s : Shared}
theorem flight_ok {a t T : Addr} {cls fl : Value} {Q : Unit → Shared → Prop} (he : s.heap.get? a = some (excObj cls t (.ref T))) (hT : TbAt s.heap T fl)
    (h : ∀ h', TbAt h' T .none → Heap.SameBut T s.heap h' → Q () { s with heap := h' }) : wpAny M A (setFlight (.ref a) none) Q E s := by
  obtain ⟨o, ts, ho, hd, h3⟩ := hT
  have h3l : 3 < ts.size := (Array.getElem?_eq_some_iff.mp h3).1
  unfold setFlight
  refine wpAny_bind (wpAny_field he rfl (x := .ref T) rfl ?_)
  rw [if_pos (by simp)]
  refine wpAny_setField ho hd h3l (h _ ⟨_, _, Heap.get?_update_self _ ho (Obj.isFreed_of_fields (Obj.data_mapFields hd _)), Obj.data_mapFields hd _, ?_⟩ (Heap.SameBut.update ..))
  simp [h3l]
theorem frames_nofields {base : Heap} {l : List Env} {b : Addr} (hl : s.heap.FunFrames base l) (hb : b ∈ frs l) : ∃ o, s.heap.get? b = some o ∧ ∀ vs, o.data ≠ .fields vs := (hl.mem hb).2
theorem note_ok {base : Heap} {env : Env} {outer : List Env} {L a t : Addr} {cls head : Value} {Q : Unit → Shared → Prop} (hfr : A.frames = some (env :: outer)) (hl : s.heap.FunFrames base (env :: outer)) (hf : env.frame = some L)
    (he : s.heap.get? a = some (excObj cls t head)) (hh : head = .none ∨ ∃ T, head = .ref T ∧ T ≠ a ∧ TbAt s.heap T .none)
    (h : ∀ h' T, h'.get? a = some (excObj cls t (.ref T)) → TbAt h' T (rawInt L) → T ≠ a → s.heap.objs.size ≤ T → (∀ b o, s.heap.get? b = some o → b ∉ frs (env :: outer) → b ≠ a → head ≠ .ref b → h'.get? b = some o) →
      (∀ b o, s.heap.get? b = some o → b ∈ frs (env :: outer) → ∃ sl, h'.get? b = some { o with slots := sl }) → Q () { s with heap := h' }) : wpAny M A (noteFrame (.ref a) env) Q E s := by
  -- the head's flight is ended, then an entry is made
  have main : ∀ (h0 : Heap), h0.objs.size = s.heap.objs.size → h0.get? a = some (excObj cls t head) → (∀ b o, s.heap.get? b = some o → head ≠ .ref b → h0.get? b = some o) → h0.FunFrames base (env :: outer) →
      wpAny M A (do setField (.ref a) 1 (← EntryCells.newEntry head (← frameOf env) .none (rawInt L) .none (← entryPlaceOf L (head != .none)))) Q E { s with heap := h0 } := by
    intro h0 hz h0a h0k h0f
    have nfr : ∀ b, b ∈ frs (env :: outer) → head ≠ .ref b := fun b hb q => by
      obtain ⟨o, ho, hn⟩ := frames_nofields hl hb
      rcases hh with z | ⟨T, z, _, o', ts, ho', hd', _⟩
      · rw [z] at q; cases q
      · rw [z] at q; cases q
        rw [ho] at ho'; cases ho'
        exact hn _ hd'
    have nfa : a ∉ frs (env :: outer) := fun hb => by
      obtain ⟨o, ho, hn⟩ := frames_nofields hl hb
      rw [he] at ho; cases ho
      exact hn _ rfl
    refine wpAny_bind (wpAny_frameOf_fun (s := { s with heap := h0 }) hfr h0f hf fun h1 hs1 => ?_)
    refine wpAny_bind (wpAny_entryPlaceOf fun pl hpl => ?_)
    unfold EntryCells.newEntry newFields
    refine wpAny_bind (wpAny_newObj_type ?_ (hpl.sizeOk5 _ _ _ _ _))
    have h1a : h1.get? a = some (excObj cls t head) := (hs1.2.1 a nfa).trans h0a
    have h1z : h1.objs.size = s.heap.objs.size := hs1.1.trans hz
    refine wpAny_setField (s := { s with heap := h1.push _ }) (Heap.get?_push_of_some _ h1a) rfl (by show 1 < 6; decide) ?_
    have ale : a < h1.objs.size := Heap.lt_size h1a
    refine h _ h1.objs.size ?_ ?_ (Nat.ne_of_gt ale) (Nat.le_of_eq h1z.symm) (fun b o ho hb hba hbh => ?_) (fun b o ho hb => ?_)
    · rw [Heap.get?_update_self _ (Heap.get?_push_of_some _ h1a) (Obj.isFreed_of_fields (Obj.data_mapFields rfl _))]
      exact congrArg some (excObj_set ..)
    · refine ⟨_, _, (Heap.get?_update_other _ _ (Nat.ne_of_lt ale)).trans (Heap.get?_push_size _ rfl), rfl, ?_⟩
      rcases hpl with rfl | ⟨_, _, _, _, _, _, _, rfl⟩ <;> rfl
    · rw [Heap.get?_update_other _ _ (Ne.symm hba)]
      exact Heap.get?_push_of_some _ ((hs1.2.1 b hb).trans (h0k b o ho hbh))
    · obtain ⟨sl, q⟩ := hs1.2.2 b o (h0k b o ho (nfr b hb))
      refine ⟨sl, ?_⟩
      rw [Heap.get?_update_other _ _ (fun z => nfa (by rw [z]; exact hb))]
      exact Heap.get?_push_of_some _ q
  unfold noteFrame
  simp only [hf]
  refine wpAny_bind (wpAny_field he rfl (x := head) rfl ?_)
  rcases hh with z | ⟨T, z, hTa, o, ts, ho, hd, h3⟩
  · subst z
    rw [if_neg (by decide)]
    exact main s.heap rfl he (fun b o q _ => q) hl
  · subst z
    have h3l : 3 < ts.size := (Array.getElem?_eq_some_iff.mp h3).1
    rw [if_pos (by simp)]
    refine wpAny_bind (wpAny_field ho hd h3 ?_)
    rw [if_neg (by simp [rawInt])]
    refine wpAny_bind (wpAny_setField ho hd h3l ?_)
    have oth : ∀ b, b ≠ T → (s.heap.update T (Obj.mapFields (·.setIfInBounds 3 Value.none))).get? b = s.heap.get? b := fun b q => Heap.get?_update_other _ _ (Ne.symm q)
    refine main _ (Heap.size_after_update ..) ((oth a (Ne.symm hTa)).trans he) (fun b o' q n => (oth b fun z => n (by rw [z])).trans q) (hl.of_keeps fun b o' q nf => ⟨o', (oth b fun z => ?_).trans q, rfl⟩)
    rw [z, ho] at q; cases q
    exact nf _ hd
end
/-- an exception on its way, new since g; H: what is tracked behind it -/
structure Fly (g : Heap) (H : Hp) (h : Heap) (a : Addr) (cls : Value) : Prop where
  ex : ∃ t T, h.get? a = some (excObj cls t (.ref T)) ∧ T ≠ a ∧ TbAt h T .none ∧ g.get? a = none ∧ g.get? T = none ∧ H a = none ∧ H T = none
/-- how an exception lies behind a call -/
def CXe (P : Program) (w : World) : CXT := fun outer H s E e s' => ∃ (a : Addr) (cls : Value) (H' : Hp), e = .ref a ∧ s'.os = s.os ∧ AllBare s'.gens ∧ Un (frs outer) [] H H' s.heap s'.heap ∧ HOk P w H' s'.heap ∧ Fly s.heap H' s'.heap a cls ∧ E cls none H'
theorem ObjOk.some {P : Program} {w : World} {H : Hp} {h : Heap} {a : Addr} {o : HO} (x : ObjOk P w H h a o) : ∃ u, h.get? a = .some u := by
  cases o with
  | lst xs => obtain ⟨_, _, _, _, e⟩ := x; exact ⟨_, e⟩
  | tup xs => obtain ⟨_, _, _, u, e, _⟩ := x; exact ⟨u, e⟩
  | dK kvs => obtain ⟨_, _, _, _, o, _, _, e, _⟩ := x; exact ⟨_, e⟩
  | dT kvs => obtain ⟨_, _, _, _, o, _, _, e, _⟩ := x; exact ⟨_, e⟩
  | set S n => obtain ⟨o, _, _, _, e, _⟩ := x; exact ⟨_, e⟩
  | ins C dx fs => obtain ⟨_, _, _, e, _⟩ := x; exact ⟨_, e⟩
  | own y => exact x
  | xd fs => obtain ⟨_, ⟨_, _, _, e, _⟩, _⟩ := x; exact ⟨_, e⟩
  | rng lo hi => obtain ⟨_, _, _, e⟩ := x; exact ⟨_, e⟩
  | frz ob u => obtain ⟨e, _⟩ := x; exact ⟨_, e⟩
  | tbl ps => exact ⟨_, x⟩
  | met f y => exact ⟨_, x⟩
  | ext φ => exact x.2.1
section
variable {X : Cx} {pins : List (Addr × Obj)} {σ : St} {H : Hp} {s : Shared}
/-- tracked things stay where only frames' slots, the exception and its traceback change -/
theorem HOk.leave {h0 h' : Heap} (hok : HOk X.prog X.w H h0) (ok : ∀ b u, H b = some u → ∀ o, h0.get? b = some o → h'.get? b = some o) : HOk X.prog X.w H h' := fun b u e =>
  (hok b u e).stay (fun c v hc q => by
    rcases hc with rfl | hc
    · exact ok _ _ e _ q
    · exact ok _ _ hc _ q) (fun _ q => q) fun _ _ q => q
/-- leaving the frame of a def -/
theorem leave_def {h0 : Heap} {a t : Addr} {cls head : Value} {E : XK} {E' : Value → Shared → Prop} (I : Inv X pins σ H s) (hst : X.stack = X.env :: X.outer) (hfr : X.env.frame = some X.env.locals) (hex : X.ex = [])
    (k0 : ∀ b o, s.heap.get? b = some o → h0.get? b = some o) (he : h0.get? a = some (excObj cls t head)) (hh : head = .none ∨ ∃ T, head = .ref T ∧ T ≠ a ∧ TbAt h0 T .none)
    (na : X.s₀.heap.get? a = none) (nT : ∀ T, head = .ref T → X.s₀.heap.get? T = none) (Ha : H a = none) (HT : ∀ T, head = .ref T → H T = none) (q : E cls none H) :
    wpAny (model X.prog X.w) X.A (leaving X.env (.ref a)) (fun _ s'' => CXe X.prog X.w X.outer X.H₀ X.s₀ E (.ref a) s'') E' { s with heap := h0 } := by
  have fr0 : h0.FunFrames X.base (X.env :: X.outer) := by
    have := I.stack
    rw [hst] at this
    exact this.of_keeps fun b o e _ => ⟨o, k0 b o e, rfl⟩
  unfold leaving
  refine wpAny_bind (note_ok (s := { s with heap := h0 }) (by rw [I.ok.frames, hst]) fr0 hfr he hh fun h1 T h1a h1T hTa hTs hk hsl => ?_)
  refine flight_ok (s := { s with heap := h1 }) h1a h1T fun h2 h2T sb => ?_
  have e2 : ∀ b o, s.heap.get? b = some o → b ∉ frs (X.env :: X.outer) → b ≠ a → head ≠ .ref b → h2.get? b = some o := fun b o e n1 n2 n3 =>
    (sb.2 b (Nat.ne_of_lt (Nat.lt_of_lt_of_le (Heap.lt_size (k0 b o e)) hTs))).trans (hk b o (k0 b o e) n1 n2 n3)
  have stkF : ∀ b ∈ frs (X.env :: X.outer), H b = none := by
    have := I.stkFree
    rw [hst] at this
    exact this
  have hl0 : ∀ b o, X.s₀.heap.get? b = some o → b ∉ X.ex := fun b o _ z => by rw [hex] at z; cases z
  have inS : ∀ b o, X.s₀.heap.get? b = some o → b ≠ X.env.locals := fun b o e => Nat.ne_of_lt (Nat.lt_of_lt_of_le (Heap.lt_size e) I.ok.above)
  have nfr : ∀ b o, X.s₀.heap.get? b = some o → b ∉ X.fs → b ∉ frs (X.env :: X.outer) := fun b o e n z => by
    unfold frs at z
    rw [List.filterMap_cons, hfr] at z
    rcases List.mem_cons.mp z with z | z
    · exact inS b o e z
    · exact n z
  have nh : ∀ b o, X.s₀.heap.get? b = some o → head ≠ .ref b := fun b o e z => by rw [nT b z] at e; cases e
  refine ⟨a, cls, H, rfl, I.os, I.bare, ⟨fun b o e n hb _ => ?_, fun b o e n hb _ => ?_, fun b o e n _ => I.base.free b o e n (hl0 b o e), fun b o e _ => ?_, I.base.tups, I.base.frzs, I.base.tbls⟩, ?_, ⟨t, T, ?_, hTa, h2T, na, ?_, Ha, ?_⟩, q⟩
  · exact e2 b o (I.base.keep b o e n hb (hl0 b o e)) (nfr b o e hb) (fun z => by rw [z, na] at e; cases e) (nh b o e)
  · obtain ⟨sl, e1⟩ := I.base.slot b o e n hb (hl0 b o e)
    obtain ⟨sl2, e2'⟩ := hsl b _ (k0 b _ e1) (by unfold frs; rw [List.filterMap_cons, hfr]; exact List.mem_cons_of_mem _ hb)
    exact ⟨sl2, (sb.2 b (Nat.ne_of_lt (Nat.lt_of_lt_of_le (Heap.lt_size (k0 b _ e1)) hTs))).trans e2'⟩
  · obtain ⟨o', e1⟩ := I.base.there b o e (hl0 b o e)
    by_cases hb : b ∈ frs (X.env :: X.outer)
    · obtain ⟨sl2, e2'⟩ := hsl b _ (k0 b _ e1) hb
      exact ⟨_, (sb.2 b (Nat.ne_of_lt (Nat.lt_of_lt_of_le (Heap.lt_size (k0 b _ e1)) hTs))).trans e2'⟩
    · exact ⟨o', e2 b o' e1 hb (fun z => by rw [z, na] at e; cases e) (nh b o e)⟩
  · refine HOk.leave I.hok fun b u e o ho => e2 b o ho (fun z => ?_) (fun z => ?_) fun z => ?_
    · rw [stkF b z] at e; cases e
    · rw [z, Ha] at e; cases e
    · rw [HT b z] at e; cases e
  · exact (sb.2 a (Ne.symm hTa)).trans h1a
  · cases z : X.s₀.heap.get? T with
    | none => rfl
    | some o =>
      obtain ⟨o', e1⟩ := I.base.there T o z (hl0 T o z)
      exact absurd (Nat.lt_of_lt_of_le (Heap.lt_size (k0 T o' e1)) hTs) (Nat.lt_irrefl _)
  · cases z : H T with
    | none => rfl
    | some u =>
      obtain ⟨o, e1⟩ := (I.hok T u z).some
      exact absurd (Nat.lt_of_lt_of_le (Heap.lt_size (k0 T o e1)) hTs) (Nat.lt_irrefl _)
end
def Raises (X : Cx) (E : XK) : Prop := ∀ (pins : List (Addr × Obj)) (σ : St) (H : Hp) (s : Shared) (h' : Heap) (a C : Addr) (vs : List Value), Inv X pins σ H s → Heap.MadeExcOf s.heap h' a (.ref C) vs → E (.ref C) none H → X.xe (.ref a) { s with heap := h' }
section
variable {P : Program} {w : World} {K : PySem.W.Frag} {mg : Str → Option Value} {base : Heap} {N : List Str} {qual : Str} {scope : Scope} {f : Addr} {cdv : Value} {A : Around} {outer : List Env} {s : Shared} {H : Hp} {E : XK}
theorem new_back {X : Cx} {pins : List (Addr × Obj)} {σ : St} {H : Hp} {s : Shared} {a : Addr} (I : Inv X pins σ H s) (hex : X.ex = []) (n : s.heap.get? a = none) : X.s₀.heap.get? a = none := by
  cases z : X.s₀.heap.get? a with
  | none => rfl
  | some o =>
    obtain ⟨o', e⟩ := I.base.there a o z (by rw [hex]; simp)
    rw [n] at e; cases e
theorem new_free {X : Cx} {pins : List (Addr × Obj)} {σ : St} {H : Hp} {s : Shared} {a : Addr} (I : Inv X pins σ H s) (n : s.heap.get? a = none) : H a = none := by
  cases z : H a with
  | none => rfl
  | some u =>
    obtain ⟨o', e⟩ := (I.hok a u z).some
    rw [n] at e; cases e
theorem raises_def : Raises (cxOf (CXe P w) P w K mg base N qual scope f cdv A outer s H E) E := by
  intro pins σ H1 s1 h' a C vs I hm q
  obtain ⟨t, he, _, _⟩ := hm.there
  exact leave_def (X := cxOf (CXe P w) P w K mg base N qual scope f cdv A outer s H E) I rfl rfl rfl hm.keeps he (.inl rfl) (new_back I rfl hm.new) (fun T z => nomatch z) (new_free I hm.new) (fun T z => nomatch z) q
theorem passes_def : Passes (CXe P w) (cxOf (CXe P w) P w K mg base N qual scope f cdv A outer s H E) E := by
  intro pins σ H1 s1 e s2 I h
  obtain ⟨a, cls, H2, rfl, ho, hb, hu, hok, ⟨t, T, he, hTa, hT, na, nT, Ha, HT⟩, q⟩ := h
  have J : Inv (cxOf (CXe P w) P w K mg base N qual scope f cdv A outer s H E) pins σ H2 s2 := I.call' ho hu hok hb (fun _ z => nomatch z)
  exact leave_def (X := cxOf (CXe P w) P w K mg base N qual scope f cdv A outer s H E) (h0 := s2.heap) J rfl rfl rfl (fun _ _ e => e) he (.inr ⟨T, rfl, hTa, hT⟩) (new_back I rfl na) (fun T' z => by cases z; exact new_back I rfl nT) Ha (fun T' z => by cases z; exact HT) q
/-- THE RULE for a def from which exceptions of own classes may leave -/
theorem Fun.okX {x : Str} {st : Stmt} {fd : FuncData} {ps : List Str} {k : Nat} {sp : Sp} (F : Fun K x qual st f fd) (S : FnScope N ps (defScope st)) (len : ∀ vs H Q E, sp vs H Q E → vs.length = ps.length)
    (hbody : ∀ (cdv : Value) (A : Around) (outer : List Env) (s : Shared) (H : Hp) (vs : List V) (Q : VK) (E : XK), Room k (A.deeper (envOfC qual (defScope st) s.heap.objs.size f cdv)) → sp vs H Q E →
      ∃ t, PSs (cxOf (CXe P w) P w K mg base N qual (defScope st) f cdv A outer s H E) (defBody st) t ∧ t { nx := fun _ H' => Q .non H', rt := Q } (start N vs) H) : FnOk P w K mg base (CXe P w) (k + 1) f fd ps sp := by
  obtain ⟨oc, od, kV, doc, pm, an, cdv, ct, osl, rfl, lk, hcd⟩ := F.ex
  exact fn_of lk hcd S len fun A outer s H vs Q E hr hsp => hbody cdv A outer s H vs Q E hr hsp
end
theorem PS.nox {X : Cx} {st : Stmt} {t : TS} (h : PS X.nox st t) : PS X st t := fun pins s σ H D I hw =>
  wpAny_mono (h pins s σ H D (I.wish _) hw) (fun _ _ q => q.unwish) fun _ _ z => False.elim z
theorem PA.nox {X : Cx} {es : List Expr} {t : TA} (h : PA X.nox es t) : PA X es t := fun pos pins s σ H Q I hw =>
  wpAny_mono (h pos pins s σ H Q (I.wish _) hw) (fun _ _ ⟨v, H', I', r, q⟩ => ⟨v, H', I'.unwish, r, q⟩) fun _ _ z => False.elim z
/-- an own error class under ValueError, as the top has made it -/
abbrev bmVE : List Value := [.type "ValueError", .type "Exception", .type "BaseException", .type "object"]
abbrev XC (K : PySem.W.Frag) (C : Addr) : Prop := PySem.W.excIn K C bmVE "ValueError.__new__" = true
theorem xc_of {K : PySem.W.Frag} {h : Heap} {C : Addr} (I : K.In h) (c : XC K C) : ∃ bm N nm q bs hdct sn sub ab col dd k0 k1 k2 k3 k5 mN,
    h.get? C = some (excClassObj nm q C N bs bm hdct sn sub ab col dd k0 k1 k2 k3 k5 "ValueError.__new__") ∧ h.Ns N mN ∧ mN "__init__" = none ∧ OwnTail h bmVE bm := by
  unfold XC PySem.W.excIn at c
  split at c
  · rename_i d0 cd0 sl0 look0
    split at c
    · rename_i C0 m0 a0 a1 a2 a3 n0 a5 em es
      simp only [Bool.and_eq_true, beq_iff_eq, Bool.not_eq_true'] at c
      obtain ⟨⟨⟨⟨⟨e1, e2⟩, nodel⟩, tl⟩, nsok⟩, noinit⟩ := c
      subst e1 e2
      rcases cd0 with ⟨x1, x2, x3, x4, x5, x6, x7, x8, x9, x10, x11⟩
      dsimp only at em nodel nsok noinit
      subst em nodel
      rcases sl0 with ⟨sl0⟩
      dsimp only at es
      subst es
      exact ⟨m0, x4, x1, x5, x2, x6, x7, x8, x9, x10, d0, a0, a1, a2, a3, a5, _, I _ _ look0, .of_isNs (PySem.W.isNs_of_in I nsok), PySem.W.nsMap_none_of_in I nsok noinit, PySem.W.tail_of_in I tl⟩
    · cases c
  · cases c
/-- raise C(e, ..) -/
def tRaise (C : Addr) (E : XK) (t : TA) : TS := fun _ σ H => t σ H fun vs H1 => vs.length ≤ sizeLine ∧ E (.ref C) none H1
theorem ps_raise {X : Cx} {E : XK} {C : Addr} {x : Str} {np cpos pos : Pos} {e : Expr} {es : List Expr} {t : TA} (hx : Raises X E) (hcalm : X.calm = true) (c : XC X.K C) (hg : Gl X x) (hm : X.mg x = some (.ref C)) (ha : PA X (e :: es) t)
    (he : starEach (e :: es) X.env = (false, eval e X.env) :: starEach es X.env := by rfl) (hpl : (backTo cpos (starEach es X.env)).any (·.1) = false := by rfl) (hdb : (x == ("__debug__" : Str)) = false := by decide) :
    PS X (.Raise (some (.Call (.Name x np) (e :: es) [] cpos)) none pos) (tRaise C E t) := by
  intro pins s σ H D I h
  obtain ⟨bm, N, nm, q, bs, hdct, sn, sub, ab, col, dd, k0, k1, k2, k3, k5, mN, hC, hN, hni, hT⟩ := xc_of I.mod.kin c
  have hbase : bm.contains (.type "BaseException") = true := hT.hasType (by decide)
  refine wpAny_Raise_call_subT (nm := nm) (q := q) (N := N) (bs := bs) (bm := bm) (hdct := hdct) (sn := sn) (sub := sub) (ab := ab) (col := col) (dd := dd) (k0 := k0) (k1 := k1) (k2 := k2) (k3 := k3) (k5 := k5) F.excBase_ValueError hbase (I.ok.hd hcalm) (by rw [he]; exact hpl) hni (ld_glob I hg hm ⟨rfl, ?_⟩ hdb)
  have ev := ha cpos pins s σ H _ I h
  rw [he] at ev ⊢
  refine PySem.Calls.evalArgs_plain (thn ev fun us s1 ⟨vs, H1, I1, r, hz, q1⟩ => ⟨rfl, by rw [← r.length]; exact hz, I1.bk _ _ hC, hN.keeps I1.bk, hT.keeps I1.bk, fun h' a hm' => hx pins σ H1 s1 h' a C us I1 hm' q1⟩)
def XB (X : Cx) (pins : List (Addr × Obj)) (σ : St) (E : XK) (e : Value) (s' : Shared) : Prop := ∃ H1 s1, Inv X pins σ H1 s1 ∧ CXe X.prog X.w X.stack H1 s1 E e s'
def PEb (X : Cx) (e : Expr) (t : XK → TE) : Prop := ∀ (pins : List (Addr × Obj)) (s : Shared) (σ : St) (H : Hp) (Q : VK) (E : XK), Inv X pins σ H s → t E σ H Q → wpAny (model X.prog X.w) X.A (eval e X.env) (EP X pins σ Q) (XB X pins σ E) s
def PSb (X : Cx) (st : List Stmt) (t : XK → TS) : Prop := ∀ (pins : List (Addr × Obj)) (s : Shared) (σ : St) (H : Hp) (D : Ends) (E : XK), Inv X pins σ H s → t E D σ H → wpAny (model X.prog X.w) X.A (execs st X.env) (SP X pins D) (XB X pins σ E) s
section
variable {X : Cx} {k : Nat} {f : Addr} {fd : FuncData} {ps : List Str} {sp : Sp} {x : Str} {p pos : Pos} {e : Expr} {es : List Expr} {t : TA}
theorem run_b {pins : List (Addr × Obj)} {σ : St} {H : Hp} {s : Shared} {Q : VK} {E : XK} {us : List Value} {vs : List V} (F : FnOk X.prog X.w X.K X.mg X.base (CXe X.prog X.w) k f fd ps sp) (hr : Room k X.A) (hb : Binds X.K fd ps [])
    (I : Inv X pins σ H s) (r : Vals vs us) (h : sp vs H Q E) : wpAny (model X.prog X.w) X.A (call (.ref f) us) (EP X pins σ Q) (XB X pins σ E) s := by
  have hl : us.length = ps.length := by rw [← r.length]; exact F.len _ _ _ _ h
  have bnd := hb s us I.kIn (by rw [List.append_nil]; exact hl)
  rw [List.append_nil] at bnd
  refine wpAny_call (codeAny_mono (F.run X.A X.stack s H ⟨us, []⟩ us vs Q E hr I.env0 bnd r h) fun r s' hq => ?_)
  cases r with
  | error e => exact ⟨H, s, I, hq⟩
  | ok fl =>
    cases fl with
    | ret u => exact I.after hq
    | next => exact False.elim hq
    | brk => exact False.elim hq
    | cont => exact False.elim hq
def tCallb (sp : Sp) (t : TA) : XK → TE := fun E σ H Q => t σ H fun vs H1 => sp vs H1 Q E
theorem peb_call (F : FnOk X.prog X.w X.K X.mg X.base (CXe X.prog X.w) k f fd ps sp) (hr : Room k X.A) (hg : Gl X x) (hm : X.mg x = some (.ref f)) (hk : PySem.W.keepIn X.K (.ref f) = true) (hb : Binds X.K fd ps [])
    (ha : PA X.nox (e :: es) t) (hdb : (x == ("__debug__" : Str)) = false := by decide) (he : starEach (e :: es) X.env = (false, eval e X.env) :: starEach es X.env := by rfl) (hpl : (backTo pos (starEach es X.env)).any (·.1) = false := by rfl) :
    PEb X (.Call (.Name x p) (e :: es) [] pos) (tCallb sp t) := by
  intro pins s σ H Q E I h
  refine wpAny_Call_Name_kw (ld_glob I hg hm ?_ hdb)
  refine PySem.W.callWith_K (h₀ := X.base) I.ok.mod.kin hk (wpAny_mono (ha pos pins s σ H _ (I.wish _) h) (fun us s1 ⟨vs, H1, I1, r, q⟩ => ⟨I1.unwish.kIn, ?_⟩) fun _ _ z => False.elim z) he hpl
  exact run_b F hr hb I1.unwish r q
def tDropb (te : XK → TE) : XK → TS := fun E D σ H => te E σ H fun _ H1 => D.nx σ H1
theorem psb_expr {te : XK → TE} {pos' : Pos} (he : PEb X e te) (hs : swapsWith e none pos'.line X.env = pure false := by rfl) : PSb X [.Expr e pos'] (tDropb te) := by
  intro pins s σ H D E I h
  refine wpAny_execs_cons (wpAny_Expr_any (thn (he pins s σ H _ E I h) fun v s1 ⟨x, H1, I1, r1, q1⟩ => ?_) I.quiet hs)
  exact wpAny_execs_nil ⟨σ, H1, I1, q1⟩
end
/-- a caught exception, tracked -/
def xo (a : Addr) (cls : Value) : HO := .ext fun h => ∃ t T, h.get? a = some (excObj cls t (.ref T))
/-- the context of an except suite -/
abbrev Cx.inX (X : Cx) (a : Addr) : Cx := { X with A := X.A.mark (some (.ref a)), calm := false, xe := fun _ _ => False }
theorem Inv.inX {X : Cx} {pins : List (Addr × Obj)} {σ : St} {H : Hp} {s : Shared} (I : Inv X pins σ H s) (a : Addr) : Inv (X.inX a) pins σ H s :=
  ⟨⟨I.ok.mod, I.ok.kind, I.ok.glob, I.ok.blt, I.ok.above, I.ok.inj, I.ok.has, I.ok.cab, (fun z => nomatch z), I.ok.frames, I.ok.stk, I.ok.exf, I.ok.bs, I.ok.bsz, I.ok.noex, I.ok.exfs, I.ok.funs, I.ok.frf⟩, I.os, I.bare, I.base, I.loc, I.cell, I.free, I.freeC, I.pin, I.hok, I.len⟩
theorem Inv.outX {X : Cx} {pins : List (Addr × Obj)} {σ : St} {H : Hp} {s : Shared} {a : Addr} (hh : X.A.handled = none) (hfr : X.A.frames = some X.stack) (I : Inv (X.inX a) pins σ H s) : Inv X pins σ H s :=
  ⟨⟨I.ok.mod, I.ok.kind, I.ok.glob, I.ok.blt, I.ok.above, I.ok.inj, I.ok.has, I.ok.cab, fun _ => hh, hfr, I.ok.stk, I.ok.exf, I.ok.bs, I.ok.bsz, I.ok.noex, I.ok.exfs, I.ok.funs, I.ok.frf⟩, I.os, I.bare, I.base, I.loc, I.cell, I.free, I.freeC, I.pin, I.hok, I.len⟩
/-- the frame's names are forgotten -/
theorem Inv.forget {X : Cx} {pins : List (Addr × Obj)} {σ : St} {H : Hp} {s : Shared} {h' : Heap} {m' : Str → Option Value} {t' : Nat} (I : Inv X pins σ H s) (hn : h'.Ns X.env.locals m') (sb : Heap.SameBut X.env.locals s.heap h') :
    Inv X pins (List.replicate X.N.length none) H { s with heap := h', toks := t' } := by
  have inS : ∀ b o, X.s₀.heap.get? b = some o → b ≠ X.env.locals := fun b o e => Nat.ne_of_lt (Nat.lt_of_lt_of_le (Heap.lt_size e) I.ok.above)
  refine ⟨I.ok, I.os, I.bare, ⟨fun b o e n hb hx => (sb.2 b (inS b o e)).trans (I.base.keep b o e n hb hx), fun b o e n hb hx => ?_, I.base.free, fun b o e hx => ?_, I.base.tups, I.base.frzs, I.base.tbls⟩, ⟨m', hn, fun i x v e1 e2 e3 => ?_⟩, fun x c e => ?_, I.free, I.freeC, fun p hp => ?_, ?_, by simp⟩
  · obtain ⟨sl, q⟩ := I.base.slot b o e n hb hx
    exact ⟨sl, (sb.2 b (inS b o e)).trans q⟩
  · obtain ⟨o', q⟩ := I.base.there b o e hx
    exact ⟨o', (sb.2 b (inS b o e)).trans q⟩
  · rw [List.getElem?_replicate] at e2
    split at e2 <;> cases e2
  · obtain ⟨v, z⟩ := I.cell x c e
    exact ⟨v, z.sameBut sb (I.cne x c e)⟩
  · obtain ⟨e, n, ne, nf, d⟩ := I.pin p hp
    exact ⟨(sb.2 p.1 ne).trans e, n, ne, nf, d⟩
  · refine HOk.leave I.hok fun b u e o ho => (sb.2 b fun z => ?_).trans ho
    rw [z, I.free] at e; cases e
/-- from the state ahead of the call to one behind the catch -/
theorem Inv.caught {X : Cx} {pins : List (Addr × Obj)} {σ : St} {H H2 : Hp} {s s2 : Shared} {h' : Heap} {a t T T0 : Addr} {cls : Value} (I : Inv X pins σ H s) (ho : s2.os = s.os) (hb : AllBare s2.gens) (hu : Un (frs X.stack) [] H H2 s.heap s2.heap)
    (hok : HOk X.prog X.w H2 s2.heap) (na : s.heap.get? a = none) (nT : s.heap.get? T0 = none) (Ha : H2 a = none) (HT : H2 T0 = none) (he : h'.get? a = some (excObj cls t (.ref T)))
    (keep : ∀ b o, s2.heap.get? b = some o → b ∉ frs X.stack → b ≠ a → b ≠ T0 → h'.get? b = some o) (slot : ∀ b o, s2.heap.get? b = some o → b ∈ frs X.stack → ∃ sl, h'.get? b = some { o with slots := sl }) :
    Inv X pins σ (upd H2 a (xo a cls)) { s2 with heap := h' } := by
  have J : Inv X pins σ H2 s2 := I.call' ho hu hok hb (fun _ z => nomatch z)
  have ne : ∀ b o, s.heap.get? b = some o → b ≠ a ∧ b ≠ T0 := fun b o e => ⟨fun z => (by rw [z, na] at e; cases e), fun z => (by rw [z, nT] at e; cases e)⟩
  refine I.call' (s' := { s2 with heap := h' }) (ch := []) ho ⟨fun b o e n hf _ => ?_, fun b o e n hf _ => ?_, fun b o e n _ => ?_, fun b o e _ => ?_, fun b xs e => ?_, fun b o u e => ?_, fun b ps e => ?_⟩ (fun b u e => ?_) hb (fun _ z => nomatch z)
  · exact keep b o (hu.keep b o e n hf (by simp)) hf (ne b o e).1 (ne b o e).2
  · obtain ⟨sl, q⟩ := hu.slot b o e n hf (by simp)
    obtain ⟨sl', q'⟩ := slot b _ q hf
    exact ⟨sl', q'⟩
  · rw [upd_ne (ne b o e).1]
    exact hu.free b o e n (by simp)
  · obtain ⟨o', q⟩ := hu.there b o e (by simp)
    by_cases hf : b ∈ frs X.stack
    · obtain ⟨sl, q'⟩ := slot b _ q hf
      exact ⟨_, q'⟩
    · exact ⟨o', keep b o' q hf (ne b o e).1 (ne b o e).2⟩
  · rw [upd_ne (ne_of_none (hu.tups b xs e) Ha)]; exact hu.tups b xs e
  · rw [upd_ne (ne_of_none (hu.frzs b o u e) Ha)]; exact hu.frzs b o u e
  · obtain ⟨more, q⟩ := hu.tbls b ps e
    exact ⟨more, by rw [upd_ne (ne_of_none q Ha)]; exact q⟩
  · by_cases hba : b = a
    · subst hba
      rw [upd_same] at e
      cases e
      exact ⟨⟨t, T, he⟩, ⟨_, he⟩, fun h1 h2 ⟨t', T', q⟩ k => ⟨t', T', k _ q⟩⟩
    · rw [upd_ne hba] at e
      refine (hok b u e).stay (fun c v hc q => keep c v q ?_ ?_ ?_) (fun c q => by rw [upd_ne (ne_of_none q Ha)]; exact q) fun c xs q => by rw [upd_ne (ne_of_none q Ha)]; exact q
      · intro z
        have zz := J.stkFree c z
        rcases hc with rfl | hc
        · rw [zz] at e; cases e
        · rw [zz] at hc; cases hc
      · intro z
        subst z
        rcases hc with rfl | hc
        · exact hba rfl
        · rw [Ha] at hc; cases hc
      · intro z
        subst z
        rcases hc with rfl | hc
        · rw [HT] at e; cases e
        · rw [HT] at hc; cases hc
/-- the class of an exception against an own class above it -/
theorem match_own {M : Model} {A : Around} {E : Value → Shared → Prop} {s : Shared} {K : PySem.W.Frag} {C B a t : Addr} {tb : Value} {Q : Bool → Shared → Prop} (KI : K.In s.heap) (he : s.heap.get? a = some (excObj (.ref C) t tb)) (cB : XC K B)
    (m : PySem.W.mroIn K C (.ref B) = some true) (hq : Q true s) : wpAny M A (excMatches (.ref a) (.ref B)) Q E s := by
  obtain ⟨bm, N, nm, q, bs, hdct, sn, sub, ab, col, dd, k0, k1, k2, k3, k5, mN, hB, hN, hni, hT⟩ := xc_of KI cB
  have hb0 : bmVE.contains (.type "BaseException") = true := by decide
  have hcB : (Value.ref B :: bm).contains (.type "BaseException") = true := by rw [List.contains_cons, hT.hasType hb0]; rfl
  have L := PySem.W.looks_mroIn (M := M) KI m
  have nt := tc_notTuple
  obtain ⟨hp, g, d, tk, os⟩ := s
  unfold excMatches
  repeat (first | with_reducible refine wpAny_loadPart_at he ?_ | with_reducible refine wpAny_loadPart_at hB ?_ | (with_reducible refine wpAny_isSubtype_exc hB ?_; rw [hcB]) | (with_reducible refine L.at ?_) | wp_step)
  exact hq
def Ends.blind (D : Ends) (n : Nat) : Ends := { nx := fun _ H => D.nx (List.replicate n none) H, rt := D.rt, bk := fun _ H => D.bk (List.replicate n none) H, ct := fun _ H => D.ct (List.replicate n none) H }
def tTry (n : Nat) (K : PySem.W.Frag) (B : Addr) (i : Nat) (tb : XK → TS) (ts : Addr → TS) : TS := fun D σ H => ∃ E : XK, tb E D σ H ∧ ∀ a cls H', E cls none H' → H' a = none →
  ∃ C, cls = .ref C ∧ PySem.W.mroIn K C (.ref B) = some true ∧ ts a (D.blind n) (σ.set i (some (.ref a))) (upd H' a (xo a cls))
theorem ps_tryAs {X : Cx} {body suite : List Stmt} {b0 : Stmt} {n cx : Str} {i : Nat} {np hpos pos : Pos} {B : Addr} {tb : XK → TS} {ts : Addr → TS} (hc : X.calm = true) (hst : X.stack = X.env :: X.outer) (hfr : X.env.frame = some X.env.locals) (hN : X.N.Nodup)
    (hi : X.N[i]? = some n) (hl : X.env.scope.names.lookup n = some .local) (cB : XC X.K B) (hg : Gl X cx) (hm : X.mg cx = some (.ref B)) (hb : PSb X body tb) (hs : ∀ a, PSs (X.inX a) (b0 :: suite) (ts a)) (hdb : (cx == ("__debug__" : Str)) = false := by decide) :
    PS X (.Try body [.ExceptHandler (some (.Name cx np)) (some n) (b0 :: suite) hpos] [] [] pos) (tTry X.N.length X.K B i tb ts) := by
  intro pins s σ H D I h
  obtain ⟨E, hbody, hcatch⟩ := h
  refine wpAny_Try_except (wpAny_mono (hb pins s σ H D E I hbody) (fun f s1 q => ?_) fun e s1 hx => ?_)
  · cases f with
    | next => exact wpAny_execs_nil q
    | ret v => exact q
    | brk => exact q
    | cont => exact q
  · obtain ⟨H1, s0, I0, a, cls, H2, rfl, ho, hbare, hu, hok, ⟨t, T, he, hTa, hT, na, nT, Ha, HT⟩, qE⟩ := hx
    obtain ⟨C, rfl, m, hsuite⟩ := hcatch a cls H2 qE Ha
    have J : Inv X pins σ H2 s1 := I0.call' ho hu hok hbare (fun _ z => nomatch z)
    have fr1 := J.stack
    rw [hst] at fr1
    refine note_ok (by rw [I.ok.frames, hst]) fr1 hfr he (.inr ⟨T, rfl, hTa, hT⟩) fun h1 T1 h1a h1T hT1a hT1s k1 sl1 => ?_
    rw [← hst] at k1 sl1
    refine flight_ok (s := { s1 with heap := h1 }) h1a h1T fun h2 h2T sb => ?_
    have h2a : h2.get? a = some (excObj (.ref C) t (.ref T1)) := (sb.2 a (Ne.symm hT1a)).trans h1a
    have lt1 : ∀ b o, s1.heap.get? b = some o → b ≠ T1 := fun b o e => Nat.ne_of_lt (Nat.lt_of_lt_of_le (Heap.lt_size e) hT1s)
    have k2 : ∀ b o, s1.heap.get? b = some o → b ∉ frs X.stack → b ≠ a → b ≠ T → h2.get? b = some o := fun b o e n1 n2 n3 => (sb.2 b (lt1 b o e)).trans (k1 b o e n1 n2 fun z => n3 (Value.ref.inj z).symm)
    have sl2 : ∀ b o, s1.heap.get? b = some o → b ∈ frs X.stack → ∃ sl, h2.get? b = some { o with slots := sl } := fun b o e n1 => by
      obtain ⟨sl, q⟩ := sl1 b o e n1
      exact ⟨sl, (sb.2 b (lt1 b o e)).trans q⟩
    have J2 : Inv X pins σ (upd H2 a (xo a (.ref C))) { s1 with heap := h2 } := I0.caught ho hbare hu hok na nT Ha HT h2a k2 sl2
    refine wpAny_handleBy_cons (codeAny_handlers_test (ld_glob (X := X.inX a) (J2.inX a) hg hm (match_own (s := { s1 with heap := h2 }) J2.kIn h2a cB m ?_) hdb)) (by intro q; cases q)
    refine codeAny_handlers_suite_as (flight_ok (s := { s1 with heap := h2 }) h2a h2T fun h3 h3T sb3 => ?_)
    have h3a : h3.get? a = some (excObj (.ref C) t (.ref T1)) := (sb3.2 a (Ne.symm hT1a)).trans h2a
    have J3 : Inv X pins σ (upd H2 a (xo a (.ref C))) { s1 with heap := h3 } := I0.caught ho hbare hu hok na nT Ha HT h3a (fun b o e n1 n2 n3 => (sb3.2 b (lt1 b o e)).trans (k2 b o e n1 n2 n3)) (fun b o e n1 => by
      obtain ⟨sl, q⟩ := sl2 b o e n1
      exact ⟨sl, (sb3.2 b (lt1 b o e)).trans q⟩)
    refine store_ok (X := X.inX a) (i := i) (v := .ref a) (J3.inX a) hN hi (.inl hl) rfl (fun s4 J4 => ?_) (.inr hl)
    refine wpAny_mono (hs a pins s4 _ _ _ J4 hsuite) (fun f s5 q5 => ?_) (fun _ _ z => False.elim z)
    have hcls : (X.env.scope.kind == .class || (X.env.scope.kind == .module && X.env.locals != X.env.globals)) = false := by rw [I.ok.kind]; rfl
    have go : ∀ {σ5 : St} {H5 : Hp} {Q : Unit → Shared → Prop}, Inv (X.inX a) pins σ5 H5 s5 → (∀ s6, Inv X pins (List.replicate X.N.length none) H5 s6 → Q () s6) → wpAny (model X.prog X.w) X.A (do bindName X.env n .none; unbindBehindTheSuite X.env n hpos) Q X.xe s5 := fun {σ5 H5 Q} I5 k => by
      obtain ⟨m5, hn5, _⟩ := I5.loc
      exact wpAny_nameGoes hl hn5 hcls fun h6 m6 hn6 sb6 => k _ ((Inv.outX (I.ok.hd hc) I.ok.frames I5).forget hn6 sb6)
    cases f with
    | next => obtain ⟨σ5, H5, I5, q⟩ := q5; exact go I5 fun s6 I6 => ⟨_, H5, I6, q⟩
    | brk => obtain ⟨σ5, H5, I5, q⟩ := q5; exact go I5 fun s6 I6 => ⟨_, H5, I6, q⟩
    | cont => obtain ⟨σ5, H5, I5, q⟩ := q5; exact go I5 fun s6 I6 => ⟨_, H5, I6, q⟩
    | ret v => obtain ⟨x5, σ5, H5, I5, r5, q⟩ := q5; exact go I5 fun s6 I6 => ⟨x5, _, H5, I6, r5, q⟩
end L2
set_option Elab.async false
set_option linter.all false
set_option maxRecDepth 100000
namespace L2
open PySem PySem.Spec PyProof.Rows
abbrev cds (x : Str) : List Nat := x.cps.toList
theorem str_ext {x y : Str} (h : cds x = cds y) : x = y := by
  rcases x with ⟨⟨a⟩⟩
  rcases y with ⟨⟨b⟩⟩
  cases (show a = b from h)
  rfl
theorem cds_app (x y : Str) : cds (x ++ y) = cds x ++ cds y := by
  show (x.cps ++ y.cps).toList = _
  simp [cds]
theorem cds_len (x : Str) : (cds x).length = x.length := rfl
theorem cds_one (c : Nat) : cds ⟨#[c]⟩ = [c] := rfl
def rSlS : V → Option Int → Option Int → Hp → VK → Prop := fun x lo hi H Q => ∃ z, x = .str z ∧ z.length ≤ sizeLine ∧ Q (.str (Txt.slice z lo hi)) H
def catS (ys : List Str) : Str := ⟨((ys.map cds).flatten).toArray⟩
theorem strs_of {ys : List Str} : ∀ {us : List Value}, Vals (ys.map V.str) us → StrsAre us ys := by
  induction ys with
  | nil => intro us r; cases r; exact .nil
  | cons y r ih =>
    intro us h
    cases h with
    | cons a b =>
      obtain ⟨t, rfl⟩ := a
      exact .cons y t (ih b)
theorem join_cds0 : ∀ ys : List Str, cds (Str.join ⟨#[]⟩ ys) = (ys.map cds).flatten
  | [] => rfl
  | y :: r => by
    rw [join_nil_cons y r, cds_app, join_cds0 r]
    rfl
theorem join_cds (ys : List Str) : cds (Txt.join ⟨#[]⟩ ys) = (ys.map cds).flatten := by
  rw [eq_of_beq (join_closes (sep := ⟨#[]⟩) (sep' := ⟨#[]⟩) (ys := ys) rfl)]
  exact join_cds0 ys
def rJoin (K : PySem.W.Frag) : V → List V → Hp → VK → Prop := fun x vs H Q => ∃ l ys, x = .str ⟨#[]⟩ ∧ vs = [.ref l] ∧ SqL K H l (ys.map V.str) ∧ (ys.map (·.length)).sum ≤ 1000000 ∧ Q (.str (catS ys)) H
theorem mt_join {X : Cx} : MtR X "str.join" (rJoin X.K) := by
  intro pins s σ H x xs v us Q I rx r h
  obtain ⟨l, ys, rfl, rfl, hl, hz, q⟩ := h
  obtain ⟨t, rfl⟩ := rx
  obtain ⟨u, rfl, ru⟩ := vals1 r
  cases ru
  obtain ⟨its, rv, p, _⟩ := I.list hl
  refine join_list (ys := ys) p.isList (strs_of rv) (by show (ys.map (·.length)).sum + ys.length * 0 ≤ 16777216; omega) fun t' k => ⟨.str _, H, I.tok k, ⟨_, rfl⟩, ?_⟩
  have e : Txt.join ⟨#[]⟩ ys = catS ys := str_ext (join_cds ys)
  rw [e]; exact q
theorem ints_arr : ∀ {ns : List Int} {us : List Value}, Vals (ns.map V.int) us → ∃ xs : List (Int × Tok), us = xs.map (fun p => Value.int p.1 p.2) ∧ xs.map (·.1) = ns
  | [], _, r => by cases r; exact ⟨[], rfl, rfl⟩
  | n :: ns, _, r => by
    cases r with
    | cons a b =>
      obtain ⟨t, rfl⟩ := a
      obtain ⟨xs, rfl, e⟩ := ints_arr b
      exact ⟨(n, t) :: xs, rfl, by rw [List.map_cons, e]⟩
theorem intItems_of (xs : List (Int × Tok)) : (xs.map (fun p => Value.int p.1 p.2)).toArray = intItems xs.toArray := by simp [intItems]
section
variable {X : Cx}
theorem call_sumL (hc : X.calm = true) : CallR X (.builtin "sum") (fun xs H Q => ∃ (l : Addr) (ns : List Int), xs = [.ref l] ∧ SqL X.K H l (ns.map V.int) ∧ Q (.int ns.sum) H) := by
  intro pins s σ H xs us Q I r h
  obtain ⟨l, ns, rfl, hl, q⟩ := h
  obtain ⟨u, rfl, ru⟩ := vals1 r
  cases ru
  obtain ⟨its, rv, p, _⟩ := I.list hl
  obtain ⟨ps, rfl, e⟩ := ints_arr rv
  have pl := p.isList
  rw [intItems_of] at pl
  refine sum_intListG (I.ok.hd hc) pl fun h' tk t' k => ⟨.int ns.sum, H, I.kept k, ⟨t', ?_⟩, q⟩
  rw [preSum_eq, List.take_of_length_le (by simp), ← e]
theorem call_minL (hc : X.calm = true) : CallR X (.builtin "min") (fun xs H Q => ∃ (l : Addr) (ns : List Int), xs = [.ref l] ∧ SqL X.K H l (ns.map V.int) ∧ ns ≠ [] ∧ ∀ M, M ∈ ns → (∀ a ∈ ns, M ≤ a) → Q (.int M) H) := by
  intro pins s σ H xs us Q I r h
  obtain ⟨l, ns, rfl, hl, hne, q⟩ := h
  obtain ⟨u, rfl, ru⟩ := vals1 r
  cases ru
  obtain ⟨its, rv, p, _⟩ := I.list hl
  obtain ⟨ps, rfl, e⟩ := ints_arr rv
  have pl := p.isList
  rw [intItems_of] at pl
  have hn0 : 0 < ps.toArray.size := by
    have : ps ≠ [] := fun z => hne (by rw [← e, z]; rfl)
    cases ps with
    | nil => exact absurd rfl this
    | cons a b => simp
  refine min_intList (I.ok.hd hc) pl hn0 fun v h' tk hv k => ?_
  obtain ⟨t, rfl⟩ := intItems_at hv
  have am := argBest_lt (numAt ps.toArray) (ps.toArray.size - 1)
  have na : ∀ i, i < ps.length → ∃ x ∈ ns, numAt ps.toArray i = x ∧ ns[i]? = some x := fun i hi => by
    refine ⟨(ps[i]).1, ?_, ?_, ?_⟩
    · rw [← e]; exact List.mem_map.mpr ⟨ps[i], List.getElem_mem hi, rfl⟩
    · unfold numAt; simp [hi]
    · rw [← e]; simp [hi]
  have hsz : ps.toArray.size = ps.length := by simp
  refine ⟨.int _, H, I.kept k, ⟨t, rfl⟩, q _ ?_ fun a ha => ?_⟩
  · obtain ⟨x, hx, e1, _⟩ := na (argBest (fun i j => decide (numAt ps.toArray i < numAt ps.toArray j)) (ps.toArray.size - 1)) (by have := am.1; omega)
    rw [e1]; exact hx
  · obtain ⟨i, hi⟩ := List.getElem?_of_mem ha
    have hil : i < ns.length := (List.getElem?_eq_some_iff.mp hi).1
    rw [← e, List.length_map] at hil
    obtain ⟨x, hx, e1, e2⟩ := na i hil
    rw [e2] at hi
    cases hi
    have := am.2 i (by omega)
    rw [e1] at this
    exact this
theorem bools_at : ∀ {bs : List Bool} {us : List Value} {i : Nat} {v : Value}, Vals (bs.map V.bl) us → us[i]? = some v → v = .bool ((bs[i]?).getD false)
  | [], _, _, _, .nil, e => by simp at e
  | b :: bs, _, 0, _, .cons r _, e => by
    have r' : _ = Value.bool b := r
    simp at e
    subst e
    exact r'
  | b :: bs, _, i + 1, v, .cons _ t, e => by
    have := bools_at (bs := bs) (i := i) (v := v) t (by simpa using e)
    simpa using this
theorem all_rng (bs : List Bool) : (List.range bs.length).all (fun i => (bs[i]?).getD false) = bs.all id := by
  rw [Bool.eq_iff_iff]
  simp only [List.all_eq_true, List.mem_range, id]
  constructor
  · intro h b hb
    obtain ⟨i, hi⟩ := List.getElem?_of_mem hb
    have := h i (List.getElem?_eq_some_iff.mp hi).1
    rw [hi] at this
    exact this
  · intro h i hi
    rw [List.getElem?_eq_getElem hi]
    exact h _ (List.getElem_mem hi)
theorem any_rng (bs : List Bool) : (List.range bs.length).any (fun i => (bs[i]?).getD false) = bs.any id := by
  rw [Bool.eq_iff_iff]
  simp only [List.any_eq_true, List.mem_range, id]
  constructor
  · rintro ⟨i, hi, h⟩
    rw [List.getElem?_eq_getElem hi] at h
    exact ⟨_, List.getElem_mem hi, h⟩
  · rintro ⟨b, hb, h⟩
    obtain ⟨i, hi⟩ := List.getElem?_of_mem hb
    exact ⟨i, (List.getElem?_eq_some_iff.mp hi).1, by rw [hi]; exact h⟩
theorem bools_truth {prog : Program} {w : World} {A : Around} {bs : List Bool} {its : List Value} (rv : Vals (bs.map V.bl) its) : TruthOf prog w A (fun i v => its.toArray[i]? = some v) (fun i => (bs[i]?).getD false) := fun i v s Q E hv q => by
  have e := bools_at (i := i) (v := v) rv (by simpa using hv)
  subst e
  exact wpAny_truthy_bool q
theorem list_ne_new {h : Heap} {l : Addr} {its : Array Value} (p : h.IsList l its) : l ≠ h.objs.size := by
  obtain ⟨o, e, _⟩ := p
  exact Nat.ne_of_lt (Heap.lt_size e)
theorem call_allL (hc : X.calm = true) : CallR X (.builtin "all") (fun xs H Q => ∃ (l : Addr) (bs : List Bool), xs = [.ref l] ∧ SqL X.K H l (bs.map V.bl) ∧ Q (.bl (bs.all id)) H) := by
  intro pins s σ H xs us Q I r h
  obtain ⟨l, bs, rfl, hl, q⟩ := h
  obtain ⟨u, rfl, ru⟩ := vals1 r
  cases ru
  obtain ⟨its, rv, p, _⟩ := I.list hl
  have hlen : its.toArray.size = bs.length := by
    have := rv.length
    rw [List.length_map] at this
    simp [this]
  refine call_all_walk (wpAny_pyIter_list p.isList ⟨s.heap.objs.size, _, _, _, _, _, _, rfl, Walks.list (A := X.A.in1) (I.ok.hd hc) _ l (list_ne_new p.isList) its.toArray, ⟨⟨_, Heap.get?_push_size _ rfl, rfl, rfl⟩, p.isList.at fun o e => Heap.get?_push_of_some _ e⟩, bools_truth rv, fun h' tk k => ?_⟩)
  refine ⟨.bl _, H, I.kept fun b o e => k b o (fun z => ?_) (Heap.get?_push_of_some _ e), rfl, ?_⟩
  · have : b = s.heap.objs.size := by simpa using z
    exact absurd (this ▸ Heap.lt_size e) (Nat.lt_irrefl _)
  · rw [hlen, all_rng]; exact q
theorem call_anyL (hc : X.calm = true) : CallR X (.builtin "any") (fun xs H Q => ∃ (l : Addr) (bs : List Bool), xs = [.ref l] ∧ SqL X.K H l (bs.map V.bl) ∧ Q (.bl (bs.any id)) H) := by
  intro pins s σ H xs us Q I r h
  obtain ⟨l, bs, rfl, hl, q⟩ := h
  obtain ⟨u, rfl, ru⟩ := vals1 r
  cases ru
  obtain ⟨its, rv, p, _⟩ := I.list hl
  have hlen : its.toArray.size = bs.length := by
    have := rv.length
    rw [List.length_map] at this
    simp [this]
  refine call_any_walk (wpAny_pyIter_list p.isList ⟨s.heap.objs.size, _, _, _, _, _, _, rfl, Walks.list (A := X.A.in1) (I.ok.hd hc) _ l (list_ne_new p.isList) its.toArray, ⟨⟨_, Heap.get?_push_size _ rfl, rfl, rfl⟩, p.isList.at fun o e => Heap.get?_push_of_some _ e⟩, bools_truth rv, fun h' tk k => ?_⟩)
  refine ⟨.bl _, H, I.kept fun b o e => k b o (fun z => ?_) (Heap.get?_push_of_some _ e), rfl, ?_⟩
  · have : b = s.heap.objs.size := by simpa using z
    exact absurd (this ▸ Heap.lt_size e) (Nat.lt_irrefl _)
  · rw [hlen, any_rng]; exact q
end
end L2
set_option Elab.async false
set_option linter.all false
set_option maxRecDepth 100000
namespace L2
open PySem PySem.Spec PyProof.Rows
def clOf (cells : List (Str × Addr)) : List (Str × NameKind) → List (Str × Addr) → List (Str × Addr)
  | [], cs => cs
  | (n, k) :: r, cs => clOf cells r (if k == .free then (n, (cells.lookup n).getD 0) :: cs else cs)
def frAll (cells : List (Str × Addr)) (ns : List (Str × NameKind)) : Bool := ns.all fun y => y.2 != .free || (cells.lookup y.1).isSome
theorem clo_go {env : Env} : ∀ (ns : List (Str × NameKind)) (cs : List (Str × Addr)), frAll env.cells ns = true →
    (forIn ns cs (fun (x : Str × NameKind) (r : List (Str × Addr)) => do
      let (name, kind) := x
      if kind == .free then do
        let y ← cellOf env name
        pure (ForInStep.yield ((name, y) :: r))
      else pure (ForInStep.yield r)) : Sem (List (Str × Addr))) = pure (clOf env.cells ns cs)
  | [], cs, _ => rfl
  | (n, k) :: r, cs, h => by
    have h1 : (k != .free || (env.cells.lookup n).isSome) = true ∧ frAll env.cells r = true := by
      unfold frAll at h
      rw [List.all_cons, Bool.and_eq_true] at h
      exact h
    rw [List.forIn_cons]
    by_cases c : (k == NameKind.free) = true
    · have e : ∃ a, env.cells.lookup n = some a := by
        have := h1.1
        rw [bne, c] at this
        exact Option.isSome_iff_exists.mp (by simpa using this)
      obtain ⟨a, e⟩ := e
      have z := clo_go (env := env) r ((n, a) :: cs) h1.2
      simp only [c, if_true, cellOf, e, clOf, Option.getD_some]
      exact z
    · have z := clo_go (env := env) r cs h1.2
      simp only [c, clOf]
      exact z
theorem clo_eq {scope : Scope} {env : Env} (h : frAll env.cells scope.names = true) : closureFor scope env = pure (clOf env.cells scope.names []) := by
  unfold closureFor
  have := clo_go (env := env) scope.names [] h
  simp only [bind_pure] at this ⊢
  exact this
/-- the block's scope -/
def blkScope (scope : Scope) (env : Env) : Scope := { scope with names := scope.names.map fun (n, k) => if (k == .free && env.scope.kind == .function && env.kindOf n == some .cell) then (n, .cell) else (n, k) }
theorem clOf_some {cells : List (Str × Addr)} : ∀ (ns : List (Str × NameKind)) (cs : List (Str × Addr)) {x : Str} {c : Addr}, (clOf cells ns cs).lookup x = some c → (∀ y d, cs.lookup y = some d → cells.lookup y = some d) → frAll cells ns = true → cells.lookup x = some c
  | [], cs, x, c, h, k, _ => k x c h
  | (n, kd) :: r, cs, x, c, h, k, f => by
    have f1 : (kd != .free || (cells.lookup n).isSome) = true ∧ frAll cells r = true := by
      unfold frAll at f
      rw [List.all_cons, Bool.and_eq_true] at f
      exact f
    refine clOf_some r _ h (fun y d q => ?_) f1.2
    by_cases z : (kd == NameKind.free) = true
    · simp only [z, if_true] at q
      rw [List.lookup_cons] at q
      by_cases w : (y == n) = true
      · rw [w] at q
        have : y = n := by simpa using w
        subst this
        have e : ∃ a, cells.lookup y = some a := by
          have := f1.1
          rw [bne, z] at this
          exact Option.isSome_iff_exists.mp (by simpa using this)
        obtain ⟨a, e⟩ := e
        rw [e] at q ⊢
        exact q
      · have w' : (y == n) = false := by simpa using w
        rw [w'] at q
        exact k y d q
    · simp only [z] at q
      exact k y d q
theorem clOf_has {cells : List (Str × Addr)} : ∀ (ns : List (Str × NameKind)) (cs : List (Str × Addr)) {x : Str}, (x, NameKind.free) ∈ ns ∨ (∃ c, cs.lookup x = some c) → ∃ c, (clOf cells ns cs).lookup x = some c
  | [], cs, x, h => by
    rcases h with h | h
    · cases h
    · exact h
  | (n, kd) :: r, cs, x, h => by
    refine clOf_has r _ ?_
    rcases h with h | ⟨c, h⟩
    · rcases List.mem_cons.mp h with e | e
      · cases e
        exact .inr ⟨(cells.lookup n).getD 0, by simp⟩
      · exact .inl e
    · refine .inr ?_
      by_cases z : (kd == NameKind.free) = true
      · simp only [z, if_true]
        rw [List.lookup_cons]
        cases (x == n)
        · exact ⟨c, h⟩
        · exact ⟨_, rfl⟩
      · simp only [z]
        exact ⟨c, h⟩
section
variable {M : Model} {A : Around} {E : Value → Shared → Prop} {s : Shared} {env : Env}
theorem comp_gen {e : Expr} {scope : Scope} {pos : Pos} {newAcc first : Sem Value} {g : Comprehension} {gs : List Comprehension} {Q : Value → Shared → Prop} (hcl : clausesOf e = g :: gs) (hs : ∀ x, foldedSetIterable g.iter env x = pure x)
    (hfr : frAll env.cells scope.names = true) (hkind : scope.kind = .function) (hown : ∀ x ∈ scope.names, x.2 = .local → (blkScope scope env).names.lookup x.1 = some .local)
    (h : wpAny M A first (fun x s1 => wpAny M A (pyIter x) (fun it s2 => wpAny M A newAcc (fun acc s3 => wpAny M A (newFunctionEnv scope env.globals (clOf env.cells scope.names []) [] env.qual none .none (some env)) (fun cenv s4 =>
      codeAny M A (.compStart e 0 it acc { cenv with scope := blkScope scope env }) (fun r s' => ∃ m, s'.heap.Ns cenv.locals m ∧ ∀ h', Heap.SameBut cenv.locals s'.heap h' → (∃ f, r = .ok f) ∧ Q acc { s' with heap := h' }) s4) E s3) E s2) E s1) E s) :
    wpAny M A (comprehension e scope env pos newAcc false first) Q E s := by
  unfold comprehension
  rw [clo_eq hfr, hcl]
  refine wpAny_bind (wpAny_mono h (fun x s1 h1 => wpAny_bind (wpAny_standAt ?_)) fun _ _ z => z)
  refine wpAny_bind (wpAny_of_eq (hs x) ?_)
  refine wpAny_bind (wpAny_holding (wpAny_mono h1 (fun it s2 h2 => ?_) fun _ _ z => z))
  refine wpAny_standIf (wpAny_bind (wpAny_mono h2 (fun acc s3 h3 => ?_) fun _ _ z => z))
  refine wpAny_bind (wpAny_pure (wpAny_bind (wpAny_mono h3 (fun cenv s4 h4 => ?_) fun _ _ z => z)))
  dsimp only
  refine wpAny_holding (wpAny_bind (wpAny_attempt (wpAny_holding (wpAny_run (codeAny_mono h4 fun r s' hr => ?_)))))
  obtain ⟨m, hn, hr⟩ := hr
  obtain ⟨⟨f, rfl⟩, _⟩ := hr s'.heap (.refl ..)
  refine wpAny_bind (wpAny_holding (wpAny_comp_letGo (cenv := { cenv with scope := blkScope scope env }) hkind _ s' m (fun x hx hl => ?_) hn fun h' m' _ sb => wpAny_pure (hr h' sb).2))
  exact hown x (List.mem_filter.mp (List.mem_reverse.mp hx)).1 hl
end
/-- one turn of a comprehension's loop -/
theorem comp_turn {prog : Program} {w : World} {A : Around} {s : Shared} {R : Result → Shared → Prop} {elt target iter : Expr} {scope : Scope} {pos : Pos} {it acc : Value} {env : Env} (I : Nat → Shared → Prop)
    (turn : ∀ n s, I n s → wpAny (model prog w) A (pyNext it) (fun r s1 => match r with
      | none => R (.ok .next) s1
      | some v => wpAny (model prog w) A (letOwnedTupleGo target it v) (fun _ s2 => wpAny (model prog w) A (assign target env v) (fun _ s3 => wpAny (model prog w) A (eval elt env) (fun x s4 =>
          wpAny (model prog w) A (call (.builtin "list.append") [acc, x]) (fun _ s5 => ∃ m, m < n ∧ I m s5) (fun _ _ => False) s4) (fun _ _ => False) s3) (fun _ _ => False) s2) (fun _ _ => False) s1) (fun _ _ => False) s)
    (n : Nat) (h : I n s) : codeAny (model prog w) A (.compLoop (.ListComp elt [⟨target, iter, [], 0⟩] scope pos) 0 it acc env) R s := by
  refine codeAny_loop rfl I (fun n s hI => ?_) n h
  show wpAny _ _ ((compTurn (.ListComp elt [⟨target, iter, [], 0⟩] scope pos) 0 it acc env).onRaise (fun x => do noteFrame x env; theTreesLotGoes x)) _ _ s
  refine wpAny_noted (wpAny_mono (E := fun _ _ => False) (Q := fun fin s' => match fin with | .done f => R (.ok f) s' | .again c' => c' = (.compLoop (.ListComp elt [⟨target, iter, [], 0⟩] scope pos) 0 it acc env) ∧ ∃ m, m < n ∧ I m s') ?_ (fun _ _ q => q) fun _ _ z => False.elim z)
  rw [compTurn_list1]
  refine wpAny_bind (wpAny_standAt (wpAny_bind (wpAny_mono (turn n s hI) (fun r s1 h1 => ?_) fun _ _ z => z)))
  cases r with
  | none => exact wpAny_pure h1
  | some v =>
    refine wpAny_bind (wpAny_mono h1 (fun _ s2 h2 => ?_) fun _ _ z => z)
    refine wpAny_bind (wpAny_mono h2 (fun _ s3 h3 => ?_) fun _ _ z => z)
    refine wpAny_bind (wpAny_bind (wpAny_mono h3 (fun x s4 h4 => ?_) fun _ _ z => z))
    exact wpAny_bind (wpAny_mono h4 (fun _ s5 h5 => wpAny_pure (wpAny_pure ⟨rfl, h5⟩)) fun _ _ z => z)
/-- the context of the block -/
def blk (X : Cx) (pins : List (Addr × Obj)) (s : Shared) (H : Hp) (fp : List Addr) (N : List Str) (scope : Scope) : Cx where
  prog := X.prog
  w := X.w
  K := X.K
  mg := X.mg
  base := X.base
  A := X.A
  N := N
  s₀ := s
  H₀ := H
  env := { newEnv scope s.heap.objs.size X.env.globals (clOf X.env.cells scope.names []) X.env.qual none .none (some X.env) builtinsNs with scope := blkScope scope X.env }
  outer := X.stack
  stack := X.stack
  ex := fp
  fn := fun _ => false
  calm := X.calm
  pn := X.pn ++ pins
  xe := fun _ _ => False
/-- how the block's names lie: its own (none), or the outer slot of a free one -/
def jsOk (X : Cx) (scope : Scope) (N : List Str) (js : List (Option Nat)) : Bool := decide (js.length = N.length) && (N.zip js).all fun p => match p.2 with
  | none => true
  | some j => X.N[j]? == some p.1 && scope.names.lookup p.1 == some .free && (X.env.kindOf p.1 == some .cell || X.env.kindOf p.1 == some .free)
def blkSt (js : List (Option Nat)) (σ : St) : St := js.map fun o => o.bind fun j => (σ[j]?).join
theorem lookup_map_k {f : Str → NameKind → NameKind} : ∀ (ns : List (Str × NameKind)) (x : Str), (ns.map fun (n, k) => (n, f n k)).lookup x = (ns.lookup x).map (f x)
  | [], _ => rfl
  | (n, k) :: r, x => by
    rw [List.map_cons, List.lookup_cons, List.lookup_cons]
    by_cases w : (x == n) = true
    · have : x = n := by simpa using w
      subst this
      simp
    · have w' : (x == n) = false := by simpa using w
      rw [w']
      exact lookup_map_k r x
theorem blk_lookup (scope : Scope) (env : Env) (x : Str) : (blkScope scope env).names.lookup x = (scope.names.lookup x).map (fun k => if (k == .free && env.scope.kind == .function && env.kindOf x == some .cell) then .cell else k) := by
  unfold blkScope
  have := lookup_map_k (f := fun n k => if (k == .free && env.scope.kind == .function && env.kindOf n == some .cell) then NameKind.cell else k) scope.names x
  rw [← this]
  congr 1
  apply List.map_congr_left
  intro p hp
  rcases p with ⟨n, k⟩
  dsimp only
  split <;> rfl
theorem mem_of_lookup {α β : Type} [BEq α] [LawfulBEq α] : ∀ {l : List (α × β)} {x : α} {v : β}, l.lookup x = some v → (x, v) ∈ l
  | [], _, _, h => by cases h
  | (a, b) :: r, x, v, h => by
    rw [List.lookup_cons] at h
    by_cases w : (x == a) = true
    · rw [w] at h
      have : x = a := by simpa using w
      subst this
      cases h
      exact List.mem_cons_self
    · have w' : (x == a) = false := by simpa using w
      rw [w'] at h
      exact List.mem_cons_of_mem _ (mem_of_lookup h)
section
variable {X : Cx} {pins : List (Addr × Obj)} {σ : St} {H : Hp} {s : Shared} {fp : List Addr} {N : List Str} {scope : Scope} {js : List (Option Nat)}
theorem stk_ne (I : Inv X pins σ H s) {b : Addr} (h1 : b ≠ X.env.locals) (h2 : b ∉ X.fs) : b ∉ frs X.stack := fun z => by
  rcases List.mem_cons.mp (I.stkSub b z) with e | e
  · exact h1 e
  · exact h2 e
theorem blk_start {h' : Heap} {m' : Str → Option Value} {t' : Nat} (I : Inv X pins σ H s) (hf : ∀ b ∈ fp, FpOk X pins H b) (hl : ∀ b ∈ fp, ∃ o, s.heap.get? b = some o) (hk : scope.kind = .function) (hnc : (scope.names.all fun y => y.2 != .cell) = true)
    (hfr : frAll X.env.cells scope.names = true) (hjs : jsOk X scope N js = true) (hn : h'.Ns s.heap.objs.size m') (sb : Heap.SameBut s.heap.objs.size (s.heap.push { cls := .type "dict", data := .dict #[] }) h') :
    Inv (blk X pins s H fp N scope) [] (blkSt js σ) H { s with heap := h', toks := t' } := by
  have keep : ∀ b o, s.heap.get? b = some o → h'.get? b = some o := fun b o e => (sb.2 b (Nat.ne_of_lt (Heap.lt_size e))).trans (Heap.get?_push_of_some _ e)
  have cl : ∀ x c, (clOf X.env.cells scope.names []).lookup x = some c → X.env.cells.lookup x = some c := fun x c q => clOf_some _ _ q (fun y d z => by cases z) hfr
  have lt : ∀ b o, s.heap.get? b = some o → b ≠ s.heap.objs.size := fun b o e => Nat.ne_of_lt (Heap.lt_size e)
  have kinds : ∀ x, ((blkScope scope X.env).names.lookup x = some .cell ∨ (blkScope scope X.env).names.lookup x = some .free) → (x, NameKind.free) ∈ scope.names := fun x h => by
    rw [blk_lookup] at h
    have q : ∃ k, scope.names.lookup x = some k ∧ (k = .free ∨ k = .cell) := by
      cases e : scope.names.lookup x with
      | none => rw [e] at h; rcases h with h | h <;> cases h
      | some k =>
        refine ⟨k, rfl, ?_⟩
        rw [e] at h
        simp only [Option.map_some] at h
        by_cases c : (k == NameKind.free) = true
        · exact .inl (by simpa using c)
        · have c' : (k == NameKind.free) = false := by simpa using c
          rw [c'] at h
          simp only [Bool.false_and, Bool.false_eq_true, if_false] at h
          rcases h with h | h
          · exact .inr (Option.some.inj h)
          · exact .inl (Option.some.inj h)
    obtain ⟨k, e, hk⟩ := q
    rcases hk with rfl | rfl
    · exact mem_of_lookup e
    · have := List.all_eq_true.mp hnc _ (mem_of_lookup e)
      simp at this
  have okB : (blk X pins s H fp N scope).Ok := by
    refine ⟨I.ok.mod, hk, I.ok.glob, I.ok.blt, Nat.le_refl _, fun x y c a b => I.ok.inj x y c (cl x c a) (cl y c b), fun x h => clOf_has _ _ (.inl (kinds x h)), (fun x c z => nomatch z), I.ok.hd, I.ok.frames, .inl rfl, fun b hb => ⟨?_, fun x c e => (hf b hb).2.2.2.2.1 x c (cl x c e)⟩, I.bs, Nat.le_trans I.ok.bsz I.sz, fun b o e z => ?_, fun b hb => ?_, I.stack, I.stkFree⟩
    · obtain ⟨o, e⟩ := hl b hb
      exact lt b o e
    · rcases (hf b z).2.2.2.1 with q | q
      · exact I.ok.noex b o e q
      · exact absurd (Nat.lt_of_lt_of_le (Heap.lt_size e) (Nat.le_trans I.ok.bsz q)) (Nat.lt_irrefl _)
    · exact stk_ne I (hf b hb).2.1 (hf b hb).2.2.1
  have hjl : js.length = N.length := by
    have := (Bool.and_eq_true _ _ |>.mp hjs).1
    simpa using this
  refine ⟨okB, rfl, I.bare, Un.kept keep, ⟨m', hn, fun i x v e1 e2 e3 => ?_⟩, fun x c e => ?_, I.hok.fresh (Nat.le_refl _), fun x c e => I.freeC x c (cl x c e), fun p hp => ?_, I.hok.kept keep, by simp [blkSt, hjl, blk]⟩
  · unfold blkSt at e2
    rw [List.getElem?_map] at e2
    cases ej : js[i]? with
    | none => rw [ej] at e2; cases e2
    | some o =>
      rw [ej] at e2
      have e2' : (o.bind fun j => (σ[j]?).join) = some v := Option.some.inj e2
      cases o with
      | none => cases e2'
      | some j =>
        have e3' : (σ[j]?).join = some v := e2'
        have e4 : σ[j]? = some (some v) := by
          cases z : σ[j]? with
          | none => rw [z] at e3'; cases e3'
          | some y => rw [z] at e3'; exact congrArg some e3'
        have hm : (x, some j) ∈ N.zip js := by
          have h1 : N[i]? = some x := e1
          exact List.mem_of_getElem? (i := i) (by rw [List.getElem?_zip_eq_some]; exact ⟨h1, ej⟩)
        have ck := List.all_eq_true.mp (Bool.and_eq_true _ _ |>.mp hjs).2 _ hm
        simp only [Bool.and_eq_true, Bool.or_eq_true, beq_iff_eq] at ck
        obtain ⟨⟨c1, c2⟩, c3⟩ := ck
        obtain ⟨mo, _, hlo⟩ := I.loc
        obtain ⟨u, r, lk⟩ := hlo j x v c1 e4 (by rcases c3 with q | q; exact .inr (.inl q); exact .inr (.inr q))
        refine ⟨u, r, .inr ?_⟩
        rcases lk with ⟨q, _⟩ | ⟨_, c, hc, hcell⟩
        · rcases c3 with z | z <;> (rw [q] at z; cases z)
        · obtain ⟨c', hc'⟩ := clOf_has (cells := X.env.cells) scope.names [] (x := x) (.inl (mem_of_lookup c2))
          have : c' = c := Option.some.inj ((cl x c' hc').symm.trans hc)
          subst this
          refine ⟨?_, c', hc', ?_⟩
          · show (blkScope scope X.env).names.lookup x = some .cell ∨ (blkScope scope X.env).names.lookup x = some .free
            rw [blk_lookup, c2]
            simp only [Option.map_some]
            split
            · exact .inl rfl
            · exact .inr rfl
          · obtain ⟨o, ho, hd⟩ := hcell
            exact ⟨o, keep _ o ho, hd⟩
  · obtain ⟨v, o, ho, hd⟩ := I.cell x c (cl x c e)
    exact ⟨v, o, keep _ o ho, hd⟩
  · have hp' : p ∈ X.pn ++ pins := by simpa [blk] using hp
    obtain ⟨e, n, ne, nf, d⟩ := I.pin p hp'
    exact ⟨keep _ _ e, n, lt _ _ e, stk_ne I ne nf, d⟩
theorem blk_end {H' : Hp} {σ' : St} {pins' : List (Addr × Obj)} {s' : Shared} {h' : Heap} (I : Inv X pins σ H s) (hf : ∀ b ∈ fp, FpOk X pins H b) (J : Inv (blk X pins s H fp N scope) pins' σ' H' s') (sb : Heap.SameBut s.heap.objs.size s'.heap h') :
    Inv X pins σ H' { s' with heap := h' } := by
  have lt : ∀ b o, s.heap.get? b = some o → b ≠ s.heap.objs.size := fun b o e => Nat.ne_of_lt (Heap.lt_size e)
  have hu : Un (frs X.stack) fp H H' s.heap s'.heap := J.base
  refine I.call' (s' := { s' with heap := h' }) (ch := fp) J.os ⟨fun b o e n hb hx => (sb.2 b (lt b o e)).trans (hu.keep b o e n hb hx), fun b o e n hb hx => ?_, hu.free, fun b o e hx => ?_, hu.tups, hu.frzs, hu.tbls⟩ ?_ J.bare (fun b hb => ⟨(hf b hb).2.2.2.1, (hf b hb).2.1, (hf b hb).2.2.2.2.1, (hf b hb).2.2.2.2.2⟩)
  · obtain ⟨sl, q⟩ := hu.slot b o e n hb hx
    exact ⟨sl, (sb.2 b (lt b o e)).trans q⟩
  · obtain ⟨o', q⟩ := hu.there b o e hx
    exact ⟨o', (sb.2 b (lt b o e)).trans q⟩
  · have hfree : H' s.heap.objs.size = none := J.free
    refine HOk.leave (X := X) (h0 := s'.heap) J.hok fun b u e o ho => (sb.2 b fun z => ?_).trans ho
    rw [z, hfree] at e; cases e
end
def tLC (js : List (Option Nat)) (wi : TI) (g : TG) (te : TE) : TE := fun σ H Q => wi σ H fun J H1 => ∀ l, H1 l = none → ∃ W : Nat → Nat → List V → St → Hp → Prop, (∃ m, W 0 m [] (blkSt js σ) (upd H1 l (.lst []))) ∧ ∀ i m acc σ' H', W i m acc σ' H' →
  ((J.stop i H' ∧ Q (.ref l) H') ∨ (J.go i H' ∧ ∀ x H2, J.yld i H' x H2 → g x σ' H2 fun σ2 H3 => te σ2 H3 fun v H4 => H4 l = some (.lst acc) ∧ acc.length < sizeLine ∧ ∃ m', m' < m ∧ W (i + 1) m' (acc ++ [v]) σ2 (upd H4 l (.lst (acc ++ [v])))))
theorem pe_lcomp {X : Cx} {elt target iter : Expr} {scope : Scope} {pos : Pos} {N : List Str} {js : List (Option Nat)} {wi : TI} {g : TG} {te : TE} (hc : X.calm = true) (hi : PI X target iter wi)
    (hg : ∀ pins s H fp, PG (blk X pins s H fp N scope) target g) (he : ∀ pins s H fp, PE (blk X pins s H fp N scope) elt te)
    (hk : scope.kind = .function := by rfl) (hnc : (scope.names.all fun y => y.2 != .cell) = true := by rfl) (hfr : frAll X.env.cells scope.names = true := by rfl) (hjs : jsOk X scope N js = true := by rfl)
    (hown : (scope.names.all fun y => y.2 != .local || (blkScope scope X.env).names.lookup y.1 == some .local) = true := by rfl) (hs : ∀ x, foldedSetIterable iter X.env x = pure x := by intro _; rfl) :
    PE X (.ListComp elt [⟨target, iter, [], 0⟩] scope pos) (tLC js wi g te) := by
  intro pins s σ H Q I h
  rw [eval_ListComp]
  refine comp_gen rfl hs hfr hk (fun x hx hl => ?_) ?_
  · have := List.all_eq_true.mp hown x hx
    rw [hl] at this
    simpa using this
  refine thn (hi pins s σ H _ I h) fun v s1 h1 => thn h1 fun itv s2 h2 => ?_
  obtain ⟨it, fp, tn, J, H2, e, I2, T, st2, f2, hW⟩ := h2
  subst e
  refine wpAny_newObj_type (s := s2) ?_ (by show 0 ≤ sizeLine; exact Nat.zero_le _)
  -- the new list
  have I3 : Inv X pins σ (upd H2 s2.heap.objs.size (.lst [])) { s2 with heap := s2.heap.push { cls := .type "list", data := .seq #[] } } := I2.lnew (t' := s2.toks) (its := []) .nil (Nat.zero_le _)
  obtain ⟨W, ⟨m0, w0⟩, turn⟩ := hW s2.heap.objs.size (I2.hok.fresh (Nat.le_refl _))
  have lt2 : ∀ b ∈ fp, ∃ o, s2.heap.get? b = some o := fun b hb => let ⟨o, e, _⟩ := T.obj 0 _ st2 b hb; ⟨o, e⟩
  have f3 : ∀ b ∈ fp, FpOk X pins (upd H2 s2.heap.objs.size (.lst [])) b := fun b hb => by
    obtain ⟨o, e⟩ := lt2 b hb
    refine ⟨?_, (f2 b hb).2⟩
    rw [upd_ne (Nat.ne_of_lt (Heap.lt_size e))]
    exact (f2 b hb).1
  have k3 : ∀ b o, s2.heap.get? b = some o → (s2.heap.push { cls := .type "list", data := .seq #[] }).get? b = some o := fun b o e => Heap.get?_push_of_some _ e
  refine wpAny_newFunctionEnv (s := { s2 with heap := s2.heap.push { cls := .type "list", data := .seq #[] } }) (fun x hx => by have := List.all_eq_true.mp hnc x hx; simpa using this) (fun x z => nomatch z) (fun h4 hn4 sb4 => ?_) hk
  have I4 := blk_start (N := N) (js := js) (t' := s2.toks + ([] : List (Str × Value)).length) I3 f3 (fun b hb => let ⟨o, e⟩ := lt2 b hb; ⟨o, k3 b o e⟩) hk hnc hfr hjs hn4 sb4
  have st4 : tn 0 h4 := T.keep 0 _ _ st2 fun b hb o e => (sb4.2 b (Nat.ne_of_lt (Nat.lt_of_lt_of_le (Heap.lt_size e) (Nat.le_of_lt (by rw [Heap.size_push]; exact Nat.lt_succ_self _))))).trans (Heap.get?_push_of_some _ (k3 b o e))
  let B := blk X pins { s2 with heap := s2.heap.push { cls := .type "list", data := .seq #[] } } (upd H2 s2.heap.objs.size (.lst [])) fp N scope
  have stat : ∀ {H' : Hp}, (∀ b ∈ fp, H' b = none) → ∀ b ∈ fp, FpOk B [] H' b := fun hn b hb => by
    refine ⟨hn b hb, (I4.ok.exf b hb).1, I4.ok.exfs b hb, .inl hb, (I4.ok.exf b hb).2, fun p hp => (f3 b hb).2.2.2.2.2 p (by simpa [B, blk] using hp)⟩
  have loop : ∀ (s5 : Shared) (σ5 : St) (H5 : Hp), Inv B [] σ5 H5 s5 → tn 0 s5.heap → (∀ b ∈ fp, H5 b = none) → W 0 m0 [] σ5 H5 →
      codeAny (model X.prog X.w) X.A (.compLoop (.ListComp elt [⟨target, iter, [], 0⟩] scope pos) 0 (.ref it) (.ref s2.heap.objs.size) B.env) (fun r s' => ∃ m, s'.heap.Ns B.env.locals m ∧ ∀ h', Heap.SameBut B.env.locals s'.heap h' → (∃ f, r = .ok f) ∧ EP X pins σ Q (.ref s2.heap.objs.size) { s' with heap := h' }) s5 := by
    intro s5 σ5 H5 I5 st5 fr5 w5
    refine comp_turn (fun n s' => ∃ i acc σ' H', Inv B [] σ' H' s' ∧ tn i s'.heap ∧ (∀ b ∈ fp, H' b = none) ∧ W i n acc σ' H') ?_ m0 ⟨0, [], σ5, H5, I5, st5, fr5, w5⟩
    rintro n s6 ⟨i, acc, σ6, H6, I6, st6, fr6, w6⟩
    rcases turn i n acc σ6 H6 w6 with ⟨stop, q⟩ | ⟨go, step⟩
    · refine thn (T.done B rfl rfl rfl hc i [] s6 σ6 H6 _ I6 (stat fr6) st6 stop) fun r s7 ⟨hr, I7⟩ => ?_
      subst hr
      obtain ⟨m, hn, _⟩ := I7.loc
      exact ⟨m, hn, fun h' sb => ⟨⟨_, rfl⟩, ⟨.ref s2.heap.objs.size, H6, blk_end I3 f3 I7 sb, rfl, q⟩⟩⟩
    · refine thn (T.item B rfl rfl rfl hc i [] s6 σ6 H6 _ I6 (stat fr6) st6 go) fun r s7 ⟨u, hr, h7⟩ => ?_
      subst hr
      refine thn h7 fun _ s8 ⟨x, H8, I8, r8, y8, st8, fr8⟩ => ?_
      have I8' := I8.pinned (stat fr8) (T.obj _ _ st8)
      refine thn (hg _ _ _ _ _ s8 σ6 H8 x u _ I8' r8 (step x H8 y8)) fun _ s9 ⟨σ9, H9, I9, q9⟩ => ?_
      refine thn (he _ _ _ _ _ s9 σ9 H9 _ I9 q9) fun v s10 ⟨y, H10, I10, r10, q10⟩ => ?_
      obtain ⟨hl, hz, m', hm, w'⟩ := q10
      refine thn (mt_append _ s10 σ9 H10 (.ref s2.heap.objs.size) [y] _ [v] (fun z H' => z = .non ∧ H' = upd H10 s2.heap.objs.size (.lst (acc ++ [y]))) I10 rfl (.cons r10 .nil) ⟨_, acc, y, rfl, rfl, hl, hz, rfl, rfl⟩) fun _ s11 ⟨z, H11, I11, _, _, e11⟩ => ?_
      subst e11
      refine ⟨m', hm, i + 1, acc ++ [y], σ9, _, I11.unpinned, T.keep _ _ _ st8 fun b hb o e => (I11.pin (b, o) (List.mem_append_right _ (List.mem_append_right _ (mem_pinsAt hb e)))).1, fun b hb => ?_, w'⟩
      obtain ⟨o, e, d⟩ := T.obj _ _ st8 b hb
      exact (I11.pin (b, o) (List.mem_append_right _ (List.mem_append_right _ (mem_pinsAt hb e)))).2.1
  refine codeAny_compStart_list (loop _ _ _ I4 st4 (fun b hb => (f3 b hb).1) w0) ?_
  exact wpAny_mono (T.self X.A 0 _ (fun v s' => v = .ref it ∧ s' = _) (fun _ _ => False) st4 ⟨rfl, rfl⟩) (fun v s' ⟨e1, e2⟩ => by subst e1 e2; exact loop _ _ _ I4 st4 (fun b hb => (f3 b hb).1) w0) fun _ _ z => False.elim z
end L2
set_option Elab.async false
set_option linter.all false
set_option maxRecDepth 100000
namespace L2
open PySem PySem.Spec PyProof.Rows
def clsV : V → Option Value
  | .ty n => some (.type n)
  | .ref a => some (.ref a)
  | _ => none
theorem clsV_rel {c : V} {cv u : Value} (e : clsV c = some cv) (r : RelV c u) : u = cv := by
  cases c <;> cases e <;> exact r
def rIsi (K : PySem.W.Frag) : List V → Hp → VK → Prop := fun xs H Q => ∃ x c t cv b, xs = [x, c] ∧ clsV c = some cv ∧ TyOf K H x t ∧ PySem.W.kitOne K t cv = some b ∧ Q (.bl b) H
theorem call_isi {X : Cx} : CallR X (.builtin "isinstance") (rIsi X.K) := by
  intro pins s σ H xs us Q I r h
  obtain ⟨x, c, t, cv, b, rfl, hcv, ty, k, q⟩ := h
  obtain ⟨u, w', rfl, ru, rw'⟩ := vals2 r
  cases clsV_rel hcv rw'
  exact isinst_ok I ru ty k fun tk => ⟨.bl b, H, I.tok tk, rfl, q⟩
end L2
set_option Elab.async false
set_option linter.all false
set_option maxRecDepth 100000
namespace L2
open PySem PySem.Spec PyProof.Rows
theorem entry_unchain : entryFor table "proto.unchain" = some Builtin.«proto.unchain» := entryFor_of_tree (by kernel_rfl)
theorem next_endH {prog : Program} {w : World} {A : Around} {E : Value → Shared → Prop} {s : Shared} {it l a t T : Addr} {cls : Value} {i : Nat} {items : Array Value} {Q : Option Value → Shared → Prop} (hh : A.handled = some (.ref a)) (ha : s.heap.get? a = some (excObj cls t (.ref T)))
    (hit : s.heap.IsListIter it l i) (hl : s.heap.IsList l items) (hx : items[i]? = none) (hQ : ∀ h', Heap.ExtBut it s.heap h' → Q none { s with heap := h' }) : wpAny (model prog w) A (pyNext (.ref it)) Q E s := by
  obtain ⟨oi, goi, coi, doi⟩ := id hit
  obtain ⟨ol, gol, _, nl, dol⟩ := hl
  have nai : a ≠ it := fun z => by
    subst z
    rw [ha] at goi
    cases goi
    cases doi
  unfold pyNext
  refine wpAny_bind (wpAny_attempt (wpAny_callSpecial?_slot (name := Str.ofString "__next__") hit.typeIs slot_listiter_next (wpAny_call_entry slot_listiter_next hit.typeIs entry_listiter_next ?_ (args_listiter_next _))))
  show wpAny _ _ (field (.ref it) 0 >>= _) _ _ s
  refine wpAny_bind (wpAny_field goi doi (x := .ref l) rfl ?_)
  show wpAny _ _ (if (Value.ref l == Value.none) = true then _ else _) _ _ s
  rw [if_neg (by simp)]
  show wpAny _ _ (field (.ref it) 1 >>= _) _ _ s
  refine wpAny_bind (wpAny_field goi doi (x := .int i 0) rfl ?_)
  show wpAny _ _ (seqItems? (.ref l) >>= _) _ _ s
  refine wpAny_bind (wpAny_seqItems gol dol ?_)
  simp only [Int.toNat_natCast, hx]
  refine wpAny_bind (wpAny_rule (wpAny_bind (wpAny_setField goi doi (by simp) ?_)))
  show wpAny _ _ (newExc (.type "StopIteration") [] >>= _) _ _ _
  refine wpAny_bind ?_
  simp only [newExc, newTuple]
  refine wpAny_bind (wpAny_newObj_type ?_ (by size_fits))
  refine wpAny_bind (m := firstArgMember _ _) (wpAny_of_eq (a := Value.none) (by first | rfl | (simp only [firstArgMember]; rfl)) ?_)
  refine wpAny_newObj_type ?_ (by size_fits)
  simp only [raiseNew]
  refine wpAny_bind (wpAny_handled ?_)
  rw [show A.in1.handled = some (.ref a) from hh]
  have sz : (s.heap.update it (Obj.mapFields fun x => x.setIfInBounds 0 Value.none)).objs.size = s.heap.objs.size := Heap.size_after_update ..
  have lta : a < s.heap.objs.size := Heap.lt_size ha
  have gA : ∀ o1 o2 : Obj, (((s.heap.update it (Obj.mapFields fun x => x.setIfInBounds 0 Value.none)).push o1).push o2).get? a = some (excObj cls t (.ref T)) := fun o1 o2 =>
    Heap.get?_push_of_some _ (Heap.get?_push_of_some _ ((Heap.get?_update_other _ _ (Ne.symm nai)).trans ha))
  have neb : a ≠ ((s.heap.update it (Obj.mapFields fun x => x.setIfInBounds 0 Value.none)).push { cls := Value.type "tuple", data := Data.seq #[] }).objs.size := by
    rw [Heap.size_push, sz]
    exact Nat.ne_of_lt (Nat.lt_succ_of_lt lta)
  dsimp only
  rw [if_pos (by simpa using neb)]
  refine wpAny_bind (wpAny_holding (wpAny_runValue (codeAny_builtin entry_unchain ?_)))
  show wpAny _ _ (field (.ref a) 2 >>= _) _ _ _
  refine wpAny_bind (wpAny_field (gA _ _) rfl (x := .none) rfl ?_)
  rw [if_pos (by decide)]
  refine wpAny_pure ?_
  show wpAny _ _ (setField (.ref _) 2 (.ref a) >>= _) _ _ _
  refine wpAny_bind (wpAny_setField (Heap.get?_push_size _ rfl) rfl (by rw [Array.size_append]; exact Nat.lt_of_lt_of_le (by show 2 < 6; decide) (Nat.le_add_right _ _)) ?_)
  refine wpAny_throw ?_
  refine wpAny_bind (wpAny_isInstance (T := "StopIteration") (b := true) ⟨_, Heap.get?_update_self _ (Heap.get?_push_size _ rfl) rfl, rfl⟩ isSubtype_stop (wpAny_pure (hQ _ fun c oc nc gc => ?_)))
  have ltc : c < s.heap.objs.size := Heap.lt_size gc
  rw [Heap.get?_update_other]
  · exact Heap.get?_push_of_some _ (Heap.get?_push_of_some _ ((Heap.get?_update_other _ _ (Ne.symm nc)).trans gc))
  · rw [Heap.size_push, sz]
    exact Nat.ne_of_gt (Nat.lt_succ_of_lt ltc)
theorem walksH {prog : Program} {w : World} {A : Around} {a t T : Addr} {cls : Value} (hh : A.handled = some (.ref a)) (it l : Addr) (hne : l ≠ it) (hna : a ≠ it) (items : Array Value) :
    Walks prog w A it [it, l, a] [it] items.size (fun i v => items[i]? = some v) (fun i h => h.IsListIter it l i ∧ h.IsList l items ∧ h.get? a = some (excObj cls t (.ref T))) where
  sub := fun b hb => by
    have : b = it := by simpa using hb
    simp [this]
  frame := fun _ _ _ st k => ⟨st.1.at fun o e => k it (by simp) o e, st.2.1.at fun o e => k l (by simp) o e, k a (by simp) _ st.2.2⟩
  item := fun i s Q E hi st q => by
    refine wpAny_pyNext_list_item st.1 st.2.1 (x := items[i]) (by simp [hi]) fun h' st' sb => ?_
    exact q _ h' s.toks (by simp [hi]) ⟨st', st.2.1.extBut sb.extBut hne, (sb.2 a hna).trans st.2.2⟩ fun b o hb e => sb.extBut b o (fun z => hb (by simp [z])) e
  done := fun s Q E st q => next_endH hh st.2.2 st.1 st.2.1 (by simp) fun h' k => q h' s.toks fun b o hb e => k b o (fun z => hb (by simp [z])) e
  self := fun _ _ _ _ st q => wpAny_pyIter_listiter st.1 q
theorem call_anyH {X : Cx} : CallR X (.builtin "any") (fun xs H Q => ∃ (l : Addr) (bs : List Bool) (a : Addr) (cls : Value), xs = [.ref l] ∧ X.A.handled = some (.ref a) ∧ H a = some (xo a cls) ∧ SqL X.K H l (bs.map V.bl) ∧ Q (.bl (bs.any id)) H) := by
  intro pins s σ H xs us Q I r h
  obtain ⟨l, bs, a, cls, rfl, hh, ha, hl, q⟩ := h
  obtain ⟨u, rfl, ru⟩ := vals1 r
  cases ru
  obtain ⟨its, rv, p, _⟩ := I.list hl
  obtain ⟨⟨t, T, ga⟩, _⟩ := I.hok a _ ha
  have hlen : its.toArray.size = bs.length := by
    have := rv.length
    rw [List.length_map] at this
    simp [this]
  refine call_any_walk (wpAny_pyIter_list p.isList ⟨s.heap.objs.size, _, _, _, _, _, _, rfl, walksH (A := X.A.in1) (cls := cls) (t := t) (T := T) hh _ l (list_ne_new p.isList) (Nat.ne_of_lt (Heap.lt_size ga)) its.toArray, ⟨⟨_, Heap.get?_push_size _ rfl, rfl, rfl⟩, p.isList.at fun o e => Heap.get?_push_of_some _ e, Heap.get?_push_of_some _ ga⟩, bools_truth rv, fun h' tk k => ?_⟩)
  refine ⟨.bl _, H, I.kept fun b o e => k b o (fun z => ?_) (Heap.get?_push_of_some _ e), rfl, ?_⟩
  · have : b = s.heap.objs.size := by simpa using z
    exact absurd (this ▸ Heap.lt_size e) (Nat.lt_irrefl _)
  · rw [hlen, any_rng]; exact q
/-- what of an own error class its instances' __class__ asks -/
structure XA (K : PySem.W.Frag) (C : Addr) : Prop where
  ga : PySem.W.findIn K (.ref C) "__getattribute__" = some (some (.builtin "BaseException.__getattribute__"))
  nh : PySem.W.findIn K (.ref C) "__getattr__" = some none
  ca : PySem.W.findIn K (.ref C) "__class__" = some (some (.builtin "object.__class__"))
  gt : PySem.W.specialIn K (.builtin "object.__class__") "__get__" = some (some (.builtin "getset_descriptor.__get__"))
  tk : PySem.W.takesIn K (.builtin "object.__class__") = some true
  mo : PySem.W.mroIn K C (.type "object") = some true
  mb : PySem.W.mroIn K C (.type "BaseException") = some true
  is : PySem.W.clsIn K C ≠ none
theorem exc_class {prog : Program} {w : World} {A : Around} {E : Value → Shared → Prop} {s : Shared} {K : PySem.W.Frag} {C a t : Addr} {tb : Value} {Q : Option Value → Shared → Prop} (c : XA K C) (KI : K.In s.heap) (he : s.heap.get? a = some (excObj (.ref C) t tb))
    (h : Q (some (.ref C)) { s with toks := s.toks + 1 }) : wpAny (model prog w) A (getAttr? (.ref a) "__class__") Q E s := by
  have IA : PySem.W.InstAt s.heap a (excObj (.ref C) t tb) C none := ⟨he, rfl, rfl, trivial⟩
  have L0 := IA.type (M := model prog w)
  have L1 := PySem.W.looks_findIn (M := model prog w) KI c.ga
  have L2 := PySem.W.looks_findIn (M := model prog w) KI c.nh
  have hf : PySem.W.findObj K C none "__class__" = some (.bind (.builtin "getset_descriptor.__get__") (.builtin "object.__class__")) := by
    cases z : PySem.W.clsIn K C with
    | none => exact absurd z c.is
    | some cd => simp only [PySem.W.findObj, z, c.ca, c.gt, c.tk, Option.bind_some]
  have L3 := PySem.W.looks_find (M := model prog w) KI IA hf
  have L4 := PySem.W.looks_mroIn (M := model prog w) KI c.mb
  have b0 := F.excAttr_ValueError.ga.bind (.ref a)
  obtain ⟨hp, g, d, tk, os⟩ := s
  unfold getAttr? getAttrBy? getAttrBy
  refine wpAny_bind (wpAny_mkText (wpAny_bind (wpAny_attempt (wpAny_holding (wpAny_bind (L0.at (wpAny_bind (L1.at ?_))))))))
  have n0 : (Value.builtin "BaseException.__getattribute__" == Value.builtin "object.__getattribute__") = false := by decide +kernel
  dsimp only
  rw [n0, Bool.and_false, if_neg (by decide)]
  unfold getAttrByItsOwn hookBefore
  rw [if_pos (show onTheHeap (Value.ref C) = true from rfl)]
  refine wpAny_bind (L2.at (wpAny_bind (wpAny_attempt (wpAny_holding ?_))))
  unfold callGetattribute boundAndCalled
  rw [if_neg (by decide)]
  refine wpAny_bind (wpAny_of_eq b0 ?_)
  refine wpAny_call (codeAny_call_builtin F.excAttr_ValueError.ga.plain F.entry_bexc_ga ?_)
  have k0 : builtinKind "BaseException.__getattribute__" = some .slot := by decide +kernel
  have sp0 : splitId "BaseException.__getattribute__" = some ("BaseException", "__getattribute__") := by decide +kernel
  have ar0 := F.args_bexc_ga (.ref a) (.str "__class__" tk)
  simp only [checkBuiltinCall, k0, sp0]
  refine wpAny_bind ?_
  unfold isInstance
  refine wpAny_bind (L0.at (L4.at ?_))
  rw [if_neg (by decide)]
  refine wpAny_of_eq (a := ()) ar0 ?_
  unfold Builtin.«object.__getattribute__»
  refine wpAny_bind (wpAny_pure ?_)
  refine wpAny_bind (wpAny_pure ?_)
  refine wpAny_bind (L0.at (wpAny_bind (L3.at ?_)))
  show wpAny _ _ (Builtin.ObjectAttr.bindTo (.builtin "getset_descriptor.__get__") (.builtin "object.__class__") (.ref a) (.ref C)) _ _ _
  unfold Builtin.ObjectAttr.bindTo
  dsimp only
  refine wpAny_bind (wpAny_holding (wpAny_call (PySem.W.class_get (s := ⟨hp, g, d, tk + 1, os⟩) (ox := excObj (.ref C) t tb) (od := none) KI IA c.mo ?_)))
  exact wpAny_pure (PySem.W.handed_on rfl (wpAny_pure h))
theorem kitx_exc {K : PySem.W.Frag} {C a : Addr} (c : XA K C) : PySem.W.KitX K (.ref a) (.ref C) (fun h => ∃ t T, h.get? a = some (excObj (.ref C) t (.ref T))) where
  ty := fun M h KI p => by
    obtain ⟨t, T, e⟩ := p
    exact PySem.W.InstAt.type (M := M) (ox := excObj (.ref C) t (.ref T)) (od := none) ⟨e, rfl, rfl, trivial⟩
  it := fun M h KI p => by
    cases z : PySem.W.clsIn K C with
    | none => exact absurd z c.is
    | some cd =>
      unfold PySem.W.clsIn at z
      split at z
      · rename_i c1 d1 cd1 sl1 look1
        intro A' Q' E' s' k q
        unfold isType loadHead
        exact wpAny_bind (wpAny_loadPart (k _ _ (KI _ _ look1)) (wpAny_pure q))
      · cases z
  ne := fun h tp dd its n sl KI htp => by
    refine Bool.eq_false_iff.mpr fun q => ?_
    have e : C = tp := Value.ref.inj (beq_iff_eq.mp q)
    subst e
    cases z : PySem.W.clsIn K C with
    | none => exact absurd z c.is
    | some cd =>
      unfold PySem.W.clsIn at z
      split at z
      · rename_i c1 d1 cd1 sl1 look1
        have w := (KI _ _ look1).symm.trans htp
        cases w
      · cases z
  ca := fun {_ _ _ _ _ s} KI p k => by
    obtain ⟨t, T, e⟩ := p
    exact exc_class c KI e k
def rIsiX (K : PySem.W.Frag) : List V → Hp → VK → Prop := fun xs H Q => ∃ a C c cv b, xs = [.ref a, c] ∧ clsV c = some cv ∧ H a = some (xo a (.ref C)) ∧ XA K C ∧ PySem.W.kitOne K (.ref C) cv = some b ∧ Q (.bl b) H
theorem call_isiX {X : Cx} : CallR X (.builtin "isinstance") (rIsiX X.K) := by
  intro pins s σ H xs us Q I r h
  obtain ⟨a, C, c, cv, b, rfl, hcv, ha, xa, k, q⟩ := h
  obtain ⟨u, w', rfl, ru, rw'⟩ := vals2 r
  cases clsV_rel hcv rw'
  cases ru
  obtain ⟨g, _⟩ := I.hok a _ ha
  exact PySem.W.kia_one (kitx_exc xa) I.kIn g k (fun z => nomatch z) fun tk => ⟨.bl b, H, I.tok tk, rfl, q⟩
end L2
set_option Elab.async false
set_option linter.all false
set_option maxRecDepth 100000
namespace L2
open PySem PySem.Spec PyProof.Rows
theorem nextOf_str {prog : Program} {w : World} {A : Around} {E : Value → Shared → Prop} {s : Shared} {it : Addr} {x : Str} {t : Tok} {i c : Nat} {Q : Value → Shared → Prop} (hit : s.heap.IsStrIter it (strIterType x) x t i) (hx : x.cps[i]? = some c)
    (hQ : ∀ h', h'.IsStrIter it (strIterType x) x t (i + 1) → Heap.SameBut it s.heap h' → Q (.str ⟨#[c]⟩ s.toks) { s with heap := h', toks := s.toks + 1 }) :
    wpAny (model prog w) A (Builtin.SmallTypes.nextOf (.ref it)) Q E s := by
  cases ha : x.cps.all (· < 128)
  · have e : strIterType x = "str_iterator" := by simp [strIterType, ha]
    rw [e] at hit hQ; exact wpAny_nextOf_wide_item hit hx hQ
  · have e : strIterType x = "str_ascii_iterator" := by simp [strIterType, ha]
    rw [e] at hit hQ; exact wpAny_nextOf_ascii_item hit hx hQ
theorem nextOf_str_end {prog : Program} {w : World} {A : Around} {E : Value → Shared → Prop} {s : Shared} {it : Addr} {x : Str} {t : Tok} {i : Nat} {Q : Value → Shared → Prop} (hh : A.handled = none) (hit : s.heap.IsStrIter it (strIterType x) x t i) (hx : x.cps[i]? = none)
    (hE : ∀ h' e, Heap.ExtBut it s.heap h' → (∃ o, h'.get? e = some o ∧ o.cls = .type "StopIteration") → E (.ref e) { s with heap := h' }) :
    wpAny (model prog w) A (Builtin.SmallTypes.nextOf (.ref it)) Q E s := by
  cases ha : x.cps.all (· < 128)
  · have e : strIterType x = "str_iterator" := by simp [strIterType, ha]
    rw [e] at hit; exact wpAny_nextOf_wide_end hh hit hx hE
  · have e : strIterType x = "str_ascii_iterator" := by simp [strIterType, ha]
    rw [e] at hit; exact wpAny_nextOf_ascii_end hh hit hx hE
theorem strIter_but {h h' : Heap} {it c : Addr} {x : Str} {n : String} {t : Tok} {i : Nat} (p : h.IsStrIter it n x t i) (e : Heap.ExtBut c h h') (ne : it ≠ c) : h'.IsStrIter it n x t i := by
  obtain ⟨o, q, r⟩ := p
  exact ⟨o, e _ _ ne q, r⟩
theorem zipS_item {prog : Program} {w : World} {A : Around} {E : Value → Shared → Prop} {s : Shared} {z TI TO i1 i2 : Addr} {x y : Str} {t u : Tok} {k c d : Nat} {a b : Value} {Q : Value → Shared → Prop} (D : ZipApart z TI TO i1 i2 TI TI)
    (hz : IsZip s.heap z TI TO .none) (hTI : IsPair s.heap TI (.ref i1) (.ref i2)) (hTO : IsPair s.heap TO a b)
    (h1 : s.heap.IsStrIter i1 (strIterType x) x t k) (h2 : s.heap.IsStrIter i2 (strIterType y) y u k) (hx : x.cps[k]? = some c) (hy : y.cps[k]? = some d)
    (hQ : ∀ h' tk p q, IsZip h' z TI TO (rawInt s.heap.objs.size) → IsPair h' TO (.str ⟨#[c]⟩ p) (.str ⟨#[d]⟩ q) → h'.IsStrIter i1 (strIterType x) x t (k + 1) → h'.IsStrIter i2 (strIterType y) y u (k + 1) → IsPair h' s.heap.objs.size (.str ⟨#[c]⟩ p) (.str ⟨#[d]⟩ q) → h'.objs.size = s.heap.objs.size + 1 →
      (∀ c o, c ≠ z → c ≠ TO → c ≠ i1 → c ≠ i2 → s.heap.get? c = some o → h'.get? c = some o) → Q (.ref s.heap.objs.size) { s with heap := h', toks := tk }) :
    wpAny (model prog w) A (Builtin.«zip.__next__» ⟨[.ref z], []⟩) (fun fin s' => ∃ v, fin = .done (.ret v) ∧ Q v s') E s := by
  show wpAny _ _ (field (.ref z) 2 >>= _) _ _ _
  refine wpAny_bind (wpAny_field hz rfl (x := .bool false) rfl ?_)
  show wpAny _ _ (field (.ref z) 3 >>= _) _ _ _
  refine wpAny_bind (wpAny_field hz rfl (x := .ref TI) rfl ?_)
  refine wpAny_bind (wpAny_seqItems hTI rfl ?_)
  show wpAny _ _ (Builtin.SmallTypes.ownedTupleIsFree (.ref z) >>= _) _ _ _
  refine wpAny_bind ?_
  unfold Builtin.SmallTypes.ownedTupleIsFree
  refine wpAny_bind (wpAny_field hz rfl (x := .none) rfl (wpAny_pure ?_))
  simp only [if_true]
  refine wpAny_bind (wpAny_rule ?_)
  refine wpAny_bind (wpAny_field hz rfl (x := .ref TO) rfl ?_)
  refine wpAny_bind (wpAny_setField_rec hz (by simp) fun h₁ hz₁ hs₁ => ?_)
  replace hz₁ : IsZip h₁ z TI TO .ellipsis := hz₁
  refine wpAny_bind ?_
  simp only [List.zipIdx_cons, List.zipIdx_nil, List.forIn_cons, List.forIn_nil]
  refine wpAny_bind (wpAny_bind (wpAny_onRaise ?_))
  show wpAny _ _ (Builtin.SmallTypes.nextOf (.ref i1) >>= _) _ _ _
  refine wpAny_bind (nextOf_str (strIter_but h1 hs₁.extBut D.i1z) hx fun h₂ h1₂ hs₂ => wpAny_pure ?_)
  have hTO₂ : IsPair h₂ TO a b := hs₂.extBut _ _ D.TOi1 (hs₁.extBut _ _ D.TOz hTO)
  refine wpAny_bind (wpAny_seqItems (s := { s with heap := h₂, toks := s.toks + 1 }) hTO₂ rfl ?_)
  refine wpAny_bind (wpAny_updateSeq_pair (s := { s with heap := h₂, toks := s.toks + 1 }) hTO₂ fun h₃ hTO₃ hs₃ => ?_)
  replace hTO₃ : IsPair h₃ TO (.str ⟨#[c]⟩ s.toks) b := hTO₃
  refine wpAny_bind (wpAny_letGo (wpAny_pure ?_))
  refine wpAny_bind (wpAny_bind (wpAny_onRaise ?_))
  show wpAny _ _ (Builtin.SmallTypes.nextOf (.ref i2) >>= _) _ _ _
  refine wpAny_bind (nextOf_str (s := { s with heap := h₃, toks := s.toks + 1 }) (strIter_but (strIter_but (strIter_but h2 hs₁.extBut D.i2z) hs₂.extBut D.i12.symm) hs₃.extBut D.TOi2.symm) hy fun h₄ h2₄ hs₄ => wpAny_pure ?_)
  have hTO₄ : IsPair h₄ TO (.str ⟨#[c]⟩ s.toks) b := hs₄.extBut _ _ D.TOi2 hTO₃
  refine wpAny_bind (wpAny_seqItems (s := { s with heap := h₄, toks := s.toks + 1 + 1 }) hTO₄ rfl ?_)
  refine wpAny_bind (wpAny_updateSeq_pair (s := { s with heap := h₄, toks := s.toks + 1 + 1 }) hTO₄ fun h₅ hTO₅ hs₅ => ?_)
  replace hTO₅ : IsPair h₅ TO (.str ⟨#[c]⟩ s.toks) (.str ⟨#[d]⟩ (s.toks + 1)) := hTO₅
  refine wpAny_bind (wpAny_letGo (wpAny_pure (wpAny_pure ?_)))
  refine wpAny_bind (wpAny_seqItems (s := { s with heap := h₅, toks := s.toks + 1 + 1 }) hTO₅ rfl ?_)
  refine wpAny_bind (wpAny_newTuple ?_)
  have hsz : h₅.objs.size = s.heap.objs.size := by rw [hs₅.1, hs₄.1, hs₃.1, hs₂.1, hs₁.1]
  have hz₅ : IsZip h₅ z TI TO .ellipsis := hs₅.extBut _ _ D.TOz.symm (hs₄.extBut _ _ D.i2z.symm (hs₃.extBut _ _ D.TOz.symm (hs₂.extBut _ _ D.i1z.symm hz₁)))
  have hk₅ : ∀ c o, c ≠ z → c ≠ TO → c ≠ i1 → c ≠ i2 → s.heap.get? c = some o → h₅.get? c = some o := fun c o c1 c2 c3 c4 e =>
    hs₅.extBut _ _ c2 (hs₄.extBut _ _ c4 (hs₃.extBut _ _ c2 (hs₂.extBut _ _ c3 (hs₁.extBut _ _ c1 e))))
  have h1₅ : h₅.IsStrIter i1 (strIterType x) x t (k + 1) := strIter_but (strIter_but (strIter_but h1₂ hs₃.extBut D.TOi1.symm) hs₄.extBut D.i12) hs₅.extBut D.TOi1.symm
  have h2₅ : h₅.IsStrIter i2 (strIterType y) y u (k + 1) := strIter_but h2₄ hs₅.extBut D.TOi2.symm
  have hzlt : z < h₅.objs.size := Heap.lt_size hz₅
  have hTOlt : TO < h₅.objs.size := Heap.lt_size hTO₅
  have hi1lt : i1 < h₅.objs.size := by obtain ⟨_, e, _⟩ := h1₅; exact Heap.lt_size e
  have hi2lt : i2 < h₅.objs.size := by obtain ⟨_, e, _⟩ := h2₅; exact Heap.lt_size e
  show wpAny _ _ (Builtin.SmallTypes.ownedTupleHandOut (.ref z) (.ref h₅.objs.size) >>= _) _ _ _
  refine wpAny_bind ?_
  unfold Builtin.SmallTypes.ownedTupleHandOut
  have hz₆ : IsZip (h₅.push { cls := .type "tuple", data := .seq #[.str ⟨#[c]⟩ s.toks, .str ⟨#[d]⟩ (s.toks + 1)] }) z TI TO .ellipsis := Heap.get?_push_of_some _ hz₅
  refine wpAny_bind (wpAny_setField_rec (s := { s with heap := h₅.push { cls := .type "tuple", data := .seq #[.str ⟨#[c]⟩ s.toks, .str ⟨#[d]⟩ (s.toks + 1)] }, toks := s.toks + 1 + 1 }) hz₆ (by simp) fun h₇ hz₇ hs₇ => ?_)
  replace hz₇ : IsZip h₇ z TI TO (rawInt h₅.objs.size) := hz₇
  refine wpAny_setField_rec (s := { s with heap := h₇, toks := s.toks + 1 + 1 }) hz₇ (by simp) fun h₈ hz₈ hs₈ => ?_
  replace hz₈ : IsZip h₈ z TI TO (rawInt h₅.objs.size) := hz₈
  have up : ∀ c o, c ≠ z → h₅.get? c = some o → h₈.get? c = some o := fun c o c1 e => hs₈.extBut _ _ c1 (hs₇.extBut _ _ c1 (Heap.get?_push_of_some _ e))
  have hT₈ : IsPair h₈ h₅.objs.size (.str ⟨#[c]⟩ s.toks) (.str ⟨#[d]⟩ (s.toks + 1)) := hs₈.extBut _ _ (Nat.ne_of_gt hzlt) (hs₇.extBut _ _ (Nat.ne_of_gt hzlt) (Heap.get?_push_size _ rfl))
  have hz8 : h₈.objs.size = h₅.objs.size + 1 := by rw [hs₈.1, hs₇.1, Heap.size_push]
  rw [hsz] at hz₈ hT₈ hz8
  refine wpAny_pure ⟨_, rfl, ?_⟩
  show Q (.ref h₅.objs.size) _
  rw [hsz]
  exact hQ h₈ _ _ _ hz₈ (up _ _ D.TOz hTO₅) (strIter_but h1₅ (fun c o c1 e => up c o c1 e) D.i1z) (strIter_but h2₅ (fun c o c1 e => up c o c1 e) D.i2z) hT₈ hz8 fun c o c1 c2 c3 c4 e => up c o c1 (hk₅ c o c1 c2 c3 c4 e)
theorem zipS_end {prog : Program} {w : World} {A : Around} {E : Value → Shared → Prop} {s : Shared} {z TI TO i1 i2 : Addr} {x y : Str} {t u : Tok} {k : Nat} {a b : Value} {Q : Fin → Shared → Prop} (hh : A.handled = none) (D : ZipApart z TI TO i1 i2 TI TI)
    (hz : IsZip s.heap z TI TO .none) (hTI : IsPair s.heap TI (.ref i1) (.ref i2)) (hTO : IsPair s.heap TO a b)
    (h1 : s.heap.IsStrIter i1 (strIterType x) x t k) (h2 : s.heap.IsStrIter i2 (strIterType y) y u k) (hend : x.cps[k]? = none ∨ y.cps[k]? = none)
    (hE : ∀ h' tk e, (∀ c o, c ≠ z → c ≠ TO → c ≠ i1 → c ≠ i2 → s.heap.get? c = some o → h'.get? c = some o) → (∃ o, h'.get? e = some o ∧ o.cls = .type "StopIteration") → E (.ref e) { s with heap := h', toks := tk }) :
    wpAny (model prog w) A (Builtin.«zip.__next__» ⟨[.ref z], []⟩) Q E s := by
  show wpAny _ _ (field (.ref z) 2 >>= _) _ _ _
  refine wpAny_bind (wpAny_field hz rfl (x := .bool false) rfl ?_)
  show wpAny _ _ (field (.ref z) 3 >>= _) _ _ _
  refine wpAny_bind (wpAny_field hz rfl (x := .ref TI) rfl ?_)
  refine wpAny_bind (wpAny_seqItems hTI rfl ?_)
  show wpAny _ _ (Builtin.SmallTypes.ownedTupleIsFree (.ref z) >>= _) _ _ _
  refine wpAny_bind ?_
  unfold Builtin.SmallTypes.ownedTupleIsFree
  refine wpAny_bind (wpAny_field hz rfl (x := .none) rfl (wpAny_pure ?_))
  simp only [if_true]
  refine wpAny_bind (wpAny_rule ?_)
  refine wpAny_bind (wpAny_field hz rfl (x := .ref TO) rfl ?_)
  refine wpAny_bind (wpAny_setField_rec hz (by simp) fun h₁ hz₁ hs₁ => ?_)
  replace hz₁ : IsZip h₁ z TI TO .ellipsis := hz₁
  refine wpAny_bind ?_
  simp only [List.zipIdx_cons, List.zipIdx_nil, List.forIn_cons, List.forIn_nil]
  refine wpAny_bind (wpAny_bind (wpAny_onRaise ?_))
  show wpAny _ _ (Builtin.SmallTypes.nextOf (.ref i1) >>= _) _ _ _
  cases hx : x.cps[k]? with
  | none =>
    refine wpAny_bind (nextOf_str_end hh (strIter_but h1 hs₁.extBut D.i1z) hx fun h₂ e hs₂ he => ?_)
    obtain ⟨oe, hoe, hce⟩ := he
    have hz₂ : IsZip h₂ z TI TO .ellipsis := hs₂ _ _ D.i1z.symm hz₁
    have hez : e ≠ z := fun x => by subst x; rw [hz₂] at hoe; cases hoe; simp at hce
    refine wpAny_setField_rec hz₂ (by simp) fun h₃ _ hs₃ => hE h₃ _ e (fun c o c1 _ c3 _ x => hs₃.extBut _ _ c1 (hs₂ _ _ c3 (hs₁.extBut _ _ c1 x))) ⟨oe, hs₃.extBut _ _ hez hoe, hce⟩
  | some c =>
    have hy : y.cps[k]? = none := by rcases hend with h | h; rw [hx] at h; cases h; exact h
    refine wpAny_bind (nextOf_str (strIter_but h1 hs₁.extBut D.i1z) hx fun h₂ h1₂ hs₂ => wpAny_pure ?_)
    have hTO₂ : IsPair h₂ TO a b := hs₂.extBut _ _ D.TOi1 (hs₁.extBut _ _ D.TOz hTO)
    refine wpAny_bind (wpAny_seqItems (s := { s with heap := h₂, toks := s.toks + 1 }) hTO₂ rfl ?_)
    refine wpAny_bind (wpAny_updateSeq_pair (s := { s with heap := h₂, toks := s.toks + 1 }) hTO₂ fun h₃ hTO₃ hs₃ => ?_)
    refine wpAny_bind (wpAny_letGo (wpAny_pure ?_))
    refine wpAny_bind (wpAny_bind (wpAny_onRaise ?_))
    show wpAny _ _ (Builtin.SmallTypes.nextOf (.ref i2) >>= _) _ _ _
    refine wpAny_bind (nextOf_str_end (s := { s with heap := h₃, toks := s.toks + 1 }) hh (strIter_but (strIter_but (strIter_but h2 hs₁.extBut D.i2z) hs₂.extBut D.i12.symm) hs₃.extBut D.TOi2.symm) hy fun h₄ e hs₄ he => ?_)
    obtain ⟨oe, hoe, hce⟩ := he
    have hz₄ : IsZip h₄ z TI TO .ellipsis := hs₄ _ _ D.i2z.symm (hs₃.extBut _ _ D.TOz.symm (hs₂.extBut _ _ D.i1z.symm hz₁))
    have hez : e ≠ z := fun x => by subst x; rw [hz₄] at hoe; cases hoe; simp at hce
    refine wpAny_setField_rec (s := { s with heap := h₄, toks := s.toks + 1 }) hz₄ (by simp) fun h₅ _ hs₅ => hE h₅ _ e (fun c o c1 c2 c3 c4 x => hs₅.extBut _ _ c1 (hs₄ _ _ c4 (hs₃.extBut _ _ c2 (hs₂.extBut _ _ c3 (hs₁.extBut _ _ c1 x))))) ⟨oe, hs₅.extBut _ _ hez hoe, hce⟩
theorem next_zipS {prog : Program} {w : World} {A : Around} {E : Value → Shared → Prop} {s : Shared} {z TI TO i1 i2 : Addr} {x y : Str} {t u : Tok} {k c d : Nat} {a b : Value} {Q : Option Value → Shared → Prop} (D : ZipApart z TI TO i1 i2 TI TI)
    (hz : IsZip s.heap z TI TO .none) (hTI : IsPair s.heap TI (.ref i1) (.ref i2)) (hTO : IsPair s.heap TO a b)
    (h1 : s.heap.IsStrIter i1 (strIterType x) x t k) (h2 : s.heap.IsStrIter i2 (strIterType y) y u k) (hx : x.cps[k]? = some c) (hy : y.cps[k]? = some d)
    (hQ : ∀ h' tk p q, IsZip h' z TI TO (rawInt s.heap.objs.size) → IsPair h' TO (.str ⟨#[c]⟩ p) (.str ⟨#[d]⟩ q) → h'.IsStrIter i1 (strIterType x) x t (k + 1) → h'.IsStrIter i2 (strIterType y) y u (k + 1) → IsPair h' s.heap.objs.size (.str ⟨#[c]⟩ p) (.str ⟨#[d]⟩ q) → h'.objs.size = s.heap.objs.size + 1 →
      (∀ c o, c ≠ z → c ≠ TO → c ≠ i1 → c ≠ i2 → s.heap.get? c = some o → h'.get? c = some o) → Q (some (.ref s.heap.objs.size)) { s with heap := h', toks := tk }) :
    wpAny (model prog w) A (pyNext (.ref z)) Q E s := by
  have hT : s.TypeIs (.ref z) "zip" := ⟨_, hz, rfl⟩
  unfold pyNext
  exact wpAny_bind (wpAny_attempt (wpAny_callSpecial?_slot (name := Str.ofString "__next__") hT F.slot_zip_next
    (wpAny_call_entry F.slot_zip_next hT F.entry_zip_next
      (zipS_item D hz hTI hTO h1 h2 hx hy fun h' tk p q a1 a2 a3 a4 a5 a6 a7 => wpAny_pure (hQ h' tk p q a1 a2 a3 a4 a5 a6 a7)) (F.args_zip_next_1 _))))
theorem next_zipS_end {prog : Program} {w : World} {A : Around} {E : Value → Shared → Prop} {s : Shared} {z TI TO i1 i2 : Addr} {x y : Str} {t u : Tok} {k : Nat} {a b : Value} {Q : Option Value → Shared → Prop} (hh : A.handled = none) (D : ZipApart z TI TO i1 i2 TI TI)
    (hz : IsZip s.heap z TI TO .none) (hTI : IsPair s.heap TI (.ref i1) (.ref i2)) (hTO : IsPair s.heap TO a b)
    (h1 : s.heap.IsStrIter i1 (strIterType x) x t k) (h2 : s.heap.IsStrIter i2 (strIterType y) y u k) (hend : x.cps[k]? = none ∨ y.cps[k]? = none)
    (hQ : ∀ h' tk, (∀ c o, c ≠ z → c ≠ TO → c ≠ i1 → c ≠ i2 → s.heap.get? c = some o → h'.get? c = some o) → Q none { s with heap := h', toks := tk }) : wpAny (model prog w) A (pyNext (.ref z)) Q E s := by
  have hT : s.TypeIs (.ref z) "zip" := ⟨_, hz, rfl⟩
  unfold pyNext
  refine wpAny_bind (wpAny_attempt (wpAny_callSpecial?_slot (name := Str.ofString "__next__") hT F.slot_zip_next
    (wpAny_call_entry F.slot_zip_next hT F.entry_zip_next (zipS_end hh D hz hTI hTO h1 h2 hend fun h' tk e hk he => ?_) (F.args_zip_next_1 _))))
  obtain ⟨o, ho, hc⟩ := he
  refine wpAny_bind (wpAny_isInstance (s := { s with heap := h', toks := tk }) (T := "StopIteration") (b := true) ⟨o, ho, hc⟩ isSubtype_stop ?_)
  exact wpAny_pure (hQ _ _ hk)
abbrev strIt (x : Str) (t : Tok) : Obj := { cls := .type (strIterType x), data := .fields #[.str x t, .int 0 0] }
abbrev zsH2 (h : Heap) (x y : Str) (t u : Tok) : Heap := (h.push (strIt x t)).push (strIt y u)
abbrev zsH3 (h : Heap) (x y : Str) (t u : Tok) : Heap := (zsH2 h x y t u).push { cls := .type "tuple", data := .seq #[.ref h.objs.size, .ref (h.push (strIt x t)).objs.size] }
abbrev zsH4 (h : Heap) (x y : Str) (t u : Tok) : Heap := (zsH3 h x y t u).push { cls := .type "tuple", data := .seq #[.none, .none] }
abbrev zsH5 (h : Heap) (x y : Str) (t u : Tok) : Heap := (zsH4 h x y t u).push { cls := .type "zip", data := .fields #[.none, .bool false, .bool false, .ref (zsH2 h x y t u).objs.size, .ref (zsH3 h x y t u).objs.size] }
set_option maxHeartbeats 1000000 in
theorem meets_zip_newS (x y : Str) (t u : Tok) :
    Meets (Builtin.«zip.__new__» ⟨[.type "zip", .str x t, .str y u], []⟩) (fun _ R s => R (.ok (.ret (.ref (zsH4 s.heap x y t u).objs.size))) { s with heap := zsH5 s.heap x y t u }) :=
  .of_wp fun prog w A R s h => by
    obtain ⟨hp, g, d, tk, os⟩ := s
    have hsub := sub_zip
    wp_walk using wpAny_pyIter_strU (s := ⟨hp, g, d, tk, os⟩) (x := x) (t := t), wpAny_pyIter_strU (s := ⟨hp.push (strIt x t), g, d, tk, os⟩) (x := y) (t := u)
    exact ⟨_, rfl, h⟩
theorem call_zipS {prog : Program} {w : World} {A : Around} {E : Value → Shared → Prop} {s : Shared} {x y : Str} {t u : Tok} {Q : Value → Shared → Prop}
    (h : ∀ h', IsZip h' (s.heap.objs.size + 4) (s.heap.objs.size + 2) (s.heap.objs.size + 3) .none → IsPair h' (s.heap.objs.size + 2) (.ref s.heap.objs.size) (.ref (s.heap.objs.size + 1)) →
      IsPair h' (s.heap.objs.size + 3) .none .none → h'.IsStrIter s.heap.objs.size (strIterType x) x t 0 → h'.IsStrIter (s.heap.objs.size + 1) (strIterType y) y u 0 → h'.objs.size = s.heap.objs.size + 5 →
      (∀ c o, s.heap.get? c = some o → h'.get? c = some o) → Q (.ref (s.heap.objs.size + 4)) { s with heap := h' }) :
    wpAny (model prog w) A (call (.type "zip") [.str x t, .str y u]) Q E s := by
  refine callType_new F.called_zip (by decide) (F.typeCall_zip_2 _ _) (F.newCall_zip_2 _ _) (fun obj => F.args_object_init_3 obj _ _) F.entry_zip_new
    (meets_zip_newS x y t u) ?_
  have z1 : (s.heap.push (strIt x t)).objs.size = s.heap.objs.size + 1 := Heap.size_push ..
  have z2 : (zsH2 s.heap x y t u).objs.size = s.heap.objs.size + 2 := by rw [Heap.size_push, z1]
  have z3 : (zsH3 s.heap x y t u).objs.size = s.heap.objs.size + 3 := by rw [Heap.size_push, z2]
  have z4 : (zsH4 s.heap x y t u).objs.size = s.heap.objs.size + 4 := by rw [Heap.size_push, z3]
  have z5 : (zsH5 s.heap x y t u).objs.size = s.heap.objs.size + 5 := by rw [Heap.size_push, z4]
  have g5 : (zsH5 s.heap x y t u).get? (zsH4 s.heap x y t u).objs.size = some _ := Heap.get?_push_size _ rfl
  have g4 : (zsH5 s.heap x y t u).get? (zsH3 s.heap x y t u).objs.size = some _ := Heap.get?_push_of_some _ (Heap.get?_push_size _ rfl)
  have g3 : (zsH5 s.heap x y t u).get? (zsH2 s.heap x y t u).objs.size = some _ := Heap.get?_push_of_some _ (Heap.get?_push_of_some _ (Heap.get?_push_size _ rfl))
  have g2 : (zsH5 s.heap x y t u).get? (s.heap.push (strIt x t)).objs.size = some _ := Heap.get?_push_of_some _ (Heap.get?_push_of_some _ (Heap.get?_push_of_some _ (Heap.get?_push_size _ rfl)))
  have g1 : (zsH5 s.heap x y t u).get? s.heap.objs.size = some _ := Heap.get?_push_of_some _ (Heap.get?_push_of_some _ (Heap.get?_push_of_some _ (Heap.get?_push_of_some _ (Heap.get?_push_size _ rfl))))
  show _ ∧ _
  rw [z2, z3, z4] at g5
  rw [z1, z2] at g3
  rw [z3] at g4
  rw [z1] at g2
  rw [z4]
  exact ⟨⟨_, g5, rfl⟩, h _ g5 g3 g4 ⟨_, g1, rfl, rfl⟩ ⟨_, g2, rfl, rfl⟩ z5 fun c o x =>
    Heap.get?_push_of_some _ (Heap.get?_push_of_some _ (Heap.get?_push_of_some _ (Heap.get?_push_of_some _ (Heap.get?_push_of_some _ x))))⟩
/-- pairs of two texts; of two lists that stay -/
def ItzS (x y : Str) : It := ⟨fun i _ => i < x.cps.size ∧ i < y.cps.size, fun i H v H' => ∃ c d p, x.cps[i]? = some c ∧ y.cps[i]? = some d ∧ H p = none ∧ v = .ref p ∧ H' = upd H p (.tup [.str ⟨#[c]⟩, .str ⟨#[d]⟩]), fun i _ => x.cps.size ≤ i ∨ y.cps.size ≤ i⟩
def ItzL (K : PySem.W.Frag) (a b : Addr) : It := ⟨fun i H => ∃ xs ys x y, SqL K H a xs ∧ SqL K H b ys ∧ xs[i]? = some x ∧ ys[i]? = some y,
  fun i H v H' => ∃ x y p, (∀ xs, SqL K H a xs → xs[i]? = some x) ∧ (∀ ys, SqL K H b ys → ys[i]? = some y) ∧ H p = none ∧ v = .ref p ∧ H' = upd H p (.tup [x, y]),
  fun i H => ∃ xs ys, SqL K H a xs ∧ SqL K H b ys ∧ (xs.length ≤ i ∨ ys.length ≤ i)⟩
/-- behind an item of zip -/
theorem zip_out {X : Cx} {pins : List (Addr × Obj)} {σ : St} {H : Hp} {s : Shared} {h' : Heap} {tk : Nat} {z TI TO i1 i2 : Addr} {es : List Expr} {k1} {tp : Pos} {x y : V} {u v : Value} {i : Nat} {t1 t2 : Nat → Heap → Prop} {E : Value → Shared → Prop} {yld : V → Hp → Prop}
    (I : Inv X pins σ H s) (D : ZipApart z TI TO i1 i2 TI TI) (hf : ∀ b ∈ [z, TI, TO, i1, i2], FpOk X pins H b) (hl : ∀ b ∈ [z, TI, TO, i1, i2], ∃ o, s.heap.get? b = some o)
    (hz : IsZip h' z TI TO (rawInt s.heap.objs.size)) (hTI : IsPair h' TI (.ref i1) (.ref i2)) (hTO : ∃ a b, IsPair h' TO a b) (h1 : t1 (i + 1) h') (h2 : t2 (i + 1) h')
    (k1' : ∀ h1 h2, t1 (i + 1) h1 → (∀ o, h1.get? i1 = some o → h2.get? i1 = some o) → t1 (i + 1) h2) (k2' : ∀ h1 h2, t2 (i + 1) h1 → (∀ o, h1.get? i2 = some o → h2.get? i2 = some o) → t2 (i + 1) h2)
    (htup : IsPair h' s.heap.objs.size u v) (hk : ∀ c o, c ≠ z → c ≠ TO → c ≠ i1 → c ≠ i2 → s.heap.get? c = some o → h'.get? c = some o) (ru : RelV x u) (rv : RelV y v)
    (hy : yld (.ref s.heap.objs.size) (upd H s.heap.objs.size (.tup [x, y]))) :
    wpAny (model X.prog X.w) X.A (letOwnedTupleGo (.Tuple es k1 tp) (.ref z) (.ref s.heap.objs.size)) (fun _ s2 => ∃ x' H', Inv X pins σ H' s2 ∧ RelV x' (.ref s.heap.objs.size) ∧ yld x' H' ∧
      ((IsZip s2.heap z TI TO .none ∧ IsPair s2.heap TI (.ref i1) (.ref i2) ∧ (∃ a b, IsPair s2.heap TO a b)) ∧ t1 (i + 1) s2.heap ∧ t2 (i + 1) s2.heap) ∧ ∀ b ∈ [z, TI, TO, i1, i2], H' b = none) E { s with heap := h', toks := tk } := by
  refine wpAny_letOwnedTupleGo_zip (s := { s with heap := h', toks := tk }) hz fun h2' hz2 sb => ?_
  have nw : ∀ b ∈ [z, TI, TO, i1, i2], b ≠ s.heap.objs.size := fun b hb => let ⟨o, q⟩ := hl b hb; Nat.ne_of_lt (Heap.lt_size q)
  have hn := I.hok.fresh (Nat.le_refl s.heap.objs.size)
  have ht2 : IsPair h2' s.heap.objs.size u v := (sb.2 _ (Ne.symm (nw z (by simp)))).trans htup
  obtain ⟨a, b, hTO⟩ := hTO
  refine ⟨.ref s.heap.objs.size, upd H s.heap.objs.size (.tup [x, y]), ?_, rfl, hy, ⟨⟨hz2, (sb.2 _ D.TIz).trans hTI, _, _, (sb.2 _ D.TOz).trans hTO⟩, k1' h' h2' h1 fun o q => (sb.2 _ D.i1z).trans q, k2' h' h2' h2 fun o q => (sb.2 _ D.i2z).trans q⟩, fun b hb => ?_⟩
  · refine I.turnNew (ch := [z, TI, TO, i1, i2]) (fun b o hb q => ?_) hf hl (Nat.le_refl _) ?_
    · have n1 : b ≠ z := fun z => hb (by simp [z])
      have n2 : b ≠ TO := fun z => hb (by simp [z])
      have n3 : b ≠ i1 := fun z => hb (by simp [z])
      have n4 : b ≠ i2 := fun z => hb (by simp [z])
      exact (sb.2 b n1).trans (hk b o n1 n2 n3 n4 q)
    · exact ⟨by show 2 ≤ sizeLine; decide, [u, v], .cons ru (.cons rv .nil), ⟨_, ht2, rfl, _, rfl⟩⟩
  · rw [upd_ne (nw b hb)]; exact (hf b hb).1
theorem zip_fp {X : Cx} {pins : List (Addr × Obj)} {σ : St} {H : Hp} {s : Shared} {h' : Heap} {t' : Nat} {z TI TO i1 i2 : Addr} (I : Inv X pins σ H s) (hf : ∀ b ∈ [z, TI, TO, i1, i2], FpOk X pins H b) (hl : ∀ b ∈ [z, TI, TO, i1, i2], ∃ o, s.heap.get? b = some o)
    (hk : ∀ c o, c ≠ z → c ≠ TO → c ≠ i1 → c ≠ i2 → s.heap.get? c = some o → h'.get? c = some o) : Inv X pins σ H { s with heap := h', toks := t' } := by
  have nit : ∀ b u, H b = some u → b ∉ [z, TI, TO, i1, i2] := fun b u e q => by rw [(hf b q).1] at e; cases e
  have k : ∀ b o, b ∉ [z, TI, TO, i1, i2] → s.heap.get? b = some o → h'.get? b = some o := fun b o hb q => hk b o (fun z => hb (by simp [z])) (fun z => hb (by simp [z])) (fun z => hb (by simp [z])) (fun z => hb (by simp [z])) q
  refine I.step (g' := s.gens) (d' := s.drawn) (ch := [z, TI, TO, i1, i2]) (fun b hb => ?_) (fun b o _ _ hc e _ => k b o hc e) (fun b o _ _ hc e _ => ⟨o.slots, k b o hc e⟩) (fun b o _ e n => n)
    (fun b o hc e => ⟨o, k b o hc e⟩) (fun b xs e => e) (fun b o u e => e) (fun b ps e => ⟨#[], by rw [e]; simp⟩) (fun m hm => ?_) (fun b u e => ?_) I.bare
  · obtain ⟨f0, f1, f2, f3, f4, f5⟩ := hf b hb
    exact ⟨f3, f1, f4, f5⟩
  · obtain ⟨o, es, ep, ho, r⟩ := hm
    exact ⟨o, es, ep, k _ o (fun z => (hf _ z).2.1 rfl) ho, r⟩
  · refine (I.hok b u e).stay (fun c v hc q => k c v ?_ q) (fun c q => q) fun c xs q => q
    rcases hc with z | z
    · rw [z]; exact nit b u e
    · exact nit c _ z
theorem mem5 {z TI TO i1 i2 b : Addr} (h : b ∈ [z, TI, TO, i1, i2]) : b = z ∨ b = TI ∨ b = TO ∨ b = i1 ∨ b = i2 := by simpa using h
theorem turn_zipS {P : Program} {w : World} {K : PySem.W.Frag} {es : List Expr} {k1} {tp : Pos} (x y : Str) (t u : Tok) (z TI TO i1 i2 : Addr) (D : ZipApart z TI TO i1 i2 TI TI) :
    Turn P w K (.Tuple es k1 tp) (ItzS x y) [z, TI, TO, i1, i2] z (fun i h => (IsZip h z TI TO .none ∧ IsPair h TI (.ref i1) (.ref i2) ∧ (∃ a b, IsPair h TO a b)) ∧ h.IsStrIter i1 (strIterType x) x t i ∧ h.IsStrIter i2 (strIterType y) y u i) where
  mem := by simp
  obj := fun i h st b hb => by
    obtain ⟨⟨hz, hTI, a, b', hTO⟩, ⟨o1, q1, c1, d1⟩, o2, q2, c2, d2⟩ := st
    rcases mem5 hb with e | e | e | e | e <;> subst e
    · exact ⟨_, hz, fun v z => by cases z⟩
    · exact ⟨_, hTI, fun v z => by cases z⟩
    · exact ⟨_, hTO, fun v z => by cases z⟩
    · exact ⟨o1, q1, fun v z => by rw [d1] at z; cases z⟩
    · exact ⟨o2, q2, fun v z => by rw [d2] at z; cases z⟩
  keep := fun i h h' st k => by
    obtain ⟨⟨hz, hTI, a, b', hTO⟩, ⟨o1, q1, r1⟩, o2, q2, r2⟩ := st
    exact ⟨⟨k z (by simp) _ hz, k TI (by simp) _ hTI, a, b', k TO (by simp) _ hTO⟩, ⟨o1, k i1 (by simp) _ q1, r1⟩, o2, k i2 (by simp) _ q2, r2⟩
  item := by
    intro X hP hw hK hc i pins s σ H E I hf st hg
    subst hP hw hK
    obtain ⟨⟨hz, hTI, a, b', hTO⟩, h1, h2⟩ := st
    obtain ⟨g1, g2⟩ : i < x.cps.size ∧ i < y.cps.size := hg
    have hl : ∀ b ∈ [z, TI, TO, i1, i2], ∃ o, s.heap.get? b = some o := fun b hb => by
      rcases mem5 hb with e | e | e | e | e <;> subst e
      · exact ⟨_, hz⟩
      · exact ⟨_, hTI⟩
      · exact ⟨_, hTO⟩
      · exact let ⟨o, q, _⟩ := h1; ⟨o, q⟩
      · exact let ⟨o, q, _⟩ := h2; ⟨o, q⟩
    refine next_zipS D hz hTI hTO h1 h2 (c := x.cps[i]) (d := y.cps[i]) (by simp [g1]) (by simp [g2]) fun h' tk p q a1 a2 a3 a4 a5 a6 a7 => ⟨_, rfl, ?_⟩
    exact zip_out (x := .str ⟨#[x.cps[i]]⟩) (y := .str ⟨#[y.cps[i]]⟩) (t1 := fun i h => h.IsStrIter i1 (strIterType x) x t i) (t2 := fun i h => h.IsStrIter i2 (strIterType y) y u i) (yld := fun v H' => (ItzS x y).yld i H v H') I D hf hl a1 (a7 _ _ D.TIz D.TITO D.TIi1 D.TIi2 hTI) ⟨_, _, a2⟩ a3 a4
      (fun h1 h2 q k => let ⟨o, q, r⟩ := q; ⟨o, k o q, r⟩) (fun h1 h2 q k => let ⟨o, q, r⟩ := q; ⟨o, k o q, r⟩) a5 a7 ⟨_, rfl⟩ ⟨_, rfl⟩ ⟨x.cps[i], y.cps[i], _, by simp [g1], by simp [g2], I.hok.fresh (Nat.le_refl _), rfl, rfl⟩
  done := by
    intro X hP hw hK hc i pins s σ H E I hf st hg
    subst hP hw hK
    obtain ⟨⟨hz, hTI, a, b', hTO⟩, h1, h2⟩ := st
    have hl : ∀ b ∈ [z, TI, TO, i1, i2], ∃ o, s.heap.get? b = some o := fun b hb => by
      rcases mem5 hb with e | e | e | e | e <;> subst e
      · exact ⟨_, hz⟩
      · exact ⟨_, hTI⟩
      · exact ⟨_, hTO⟩
      · exact let ⟨o, q, _⟩ := h1; ⟨o, q⟩
      · exact let ⟨o, q, _⟩ := h2; ⟨o, q⟩
    have hg' : x.cps.size ≤ i ∨ y.cps.size ≤ i := hg
    refine next_zipS_end (I.ok.hd hc) D hz hTI hTO h1 h2 ?_ fun h' tk a7 => ⟨rfl, zip_fp I hf hl a7⟩
    rcases hg' with q | q
    · exact .inl (by simpa using q)
    · exact .inr (by simpa using q)
  self := fun _ _ _ _ _ st h => let ⟨⟨hz, _⟩, _⟩ := st; wpAny_pyIter_zip hz h
theorem turn_zipL {P : Program} {w : World} {K : PySem.W.Frag} {es : List Expr} {k1} {tp : Pos} (a b z TI TO i1 i2 : Addr) (D : ZipApart z TI TO i1 i2 TI TI) :
    Turn P w K (.Tuple es k1 tp) (ItzL K a b) [z, TI, TO, i1, i2] z (fun i h => (IsZip h z TI TO .none ∧ IsPair h TI (.ref i1) (.ref i2) ∧ (∃ a b, IsPair h TO a b)) ∧ h.IsListIter i1 a i ∧ h.IsListIter i2 b i) where
  mem := by simp
  obj := fun i h st b hb => by
    obtain ⟨⟨hz, hTI, a, b', hTO⟩, ⟨o1, q1, c1, d1⟩, o2, q2, c2, d2⟩ := st
    rcases mem5 hb with e | e | e | e | e <;> subst e
    · exact ⟨_, hz, fun v z => by cases z⟩
    · exact ⟨_, hTI, fun v z => by cases z⟩
    · exact ⟨_, hTO, fun v z => by cases z⟩
    · exact ⟨o1, q1, fun v z => by rw [d1] at z; cases z⟩
    · exact ⟨o2, q2, fun v z => by rw [d2] at z; cases z⟩
  keep := fun i h h' st k => by
    obtain ⟨⟨hz, hTI, a, b', hTO⟩, ⟨o1, q1, r1⟩, o2, q2, r2⟩ := st
    exact ⟨⟨k z (by simp) _ hz, k TI (by simp) _ hTI, a, b', k TO (by simp) _ hTO⟩, ⟨o1, k i1 (by simp) _ q1, r1⟩, o2, k i2 (by simp) _ q2, r2⟩
  item := by
    intro X hP hw hK hc i pins s σ H E I hf st hg
    subst hP hw hK
    obtain ⟨⟨hz, hTI, a', b', hTO⟩, h1, h2⟩ := st
    obtain ⟨xs, ys, x, y, hqx, hqy, hx, hy⟩ := hg
    obtain ⟨its, rv, p, hzz⟩ := I.list hqx
    obtain ⟨jts, rv', p', hzz'⟩ := I.list hqy
    obtain ⟨u, hu, ru⟩ := rv.get hx
    obtain ⟨u', hu', ru'⟩ := rv'.get hy
    have hl : ∀ b ∈ [z, TI, TO, i1, i2], ∃ o, s.heap.get? b = some o := fun b hb => by
      rcases mem5 hb with e | e | e | e | e <;> subst e
      · exact ⟨_, hz⟩
      · exact ⟨_, hTI⟩
      · exact ⟨_, hTO⟩
      · exact let ⟨o, q, _⟩ := h1; ⟨o, q⟩
      · exact let ⟨o, q, _⟩ := h2; ⟨o, q⟩
    have D' : ZipApart z TI TO i1 i2 a b := by
      have seqz : ∀ {l : Addr} {c : Array Value}, s.heap.IsList l c → ∀ b, (∃ o, s.heap.get? b = some o ∧ ∃ f, o.data = .fields f) → l ≠ b := fun pl b ⟨o, q, f, d⟩ e => by
        subst e
        obtain ⟨o', q', c', n', d'⟩ := pl
        rw [q] at q'; cases q'; rw [d] at d'; cases d'
      have seqt : ∀ {l : Addr} {c : Array Value}, s.heap.IsList l c → ∀ b, (∃ x y, IsPair s.heap b x y) → l ≠ b := fun pl b ⟨x, y, q⟩ e => by
        subst e
        obtain ⟨o', q', c', n', d'⟩ := pl
        rw [q] at q'; cases q'; exact absurd c' (by simp)
      have f1 : ∃ o, s.heap.get? i1 = some o ∧ ∃ f, o.data = .fields f := let ⟨o, q, c, d⟩ := h1; ⟨o, q, _, d⟩
      have f2 : ∃ o, s.heap.get? i2 = some o ∧ ∃ f, o.data = .fields f := let ⟨o, q, c, d⟩ := h2; ⟨o, q, _, d⟩
      have fz : ∃ o, s.heap.get? z = some o ∧ ∃ f, o.data = .fields f := ⟨_, hz, _, rfl⟩
      exact ⟨D.TIz, D.TOz, D.i1z, D.i2z, D.TITO, D.TIi1, D.TIi2, D.TOi1, D.TOi2, D.i12, seqz p.isList _ fz, seqt p.isList _ ⟨_, _, hTO⟩, seqz p.isList _ f1, seqz p.isList _ f2, seqz p'.isList _ fz, seqt p'.isList _ ⟨_, _, hTO⟩, seqz p'.isList _ f1, seqz p'.isList _ f2⟩
    refine wpAny_pyNext_zip_item D' hz hTI hTO h1 h2 p.isList p'.isList (x := u) (y := u') (by simpa using hu) (by simpa using hu') fun h' a1 a2 a3 a4 a5 a6 a7 => ⟨_, rfl, ?_⟩
    exact zip_out (x := x) (y := y) (t1 := fun i h => h.IsListIter i1 a i) (t2 := fun i h => h.IsListIter i2 b i) (yld := fun v H' => (ItzL X.K a b).yld i H v H') I D hf hl a1 (a7 _ _ D.TIz D.TITO D.TIi1 D.TIi2 hTI) ⟨_, _, a2⟩ a3 a4
      (fun h1 h2 q k => q.at k) (fun h1 h2 q k => q.at k) a5 a7 ru ru' ⟨x, y, _, fun zs hq => by rw [I.list_inj hq hqx]; exact hx, fun zs hq => by rw [I.list_inj hq hqy]; exact hy, I.hok.fresh (Nat.le_refl _), rfl, rfl⟩
  done := by
    intro X hP hw hK hc i pins s σ H E I hf st hg
    subst hP hw hK
    obtain ⟨⟨hz, hTI, a', b', hTO⟩, h1, h2⟩ := st
    obtain ⟨xs, ys, hqx, hqy, hend⟩ := hg
    obtain ⟨its, rv, p, hzz⟩ := I.list hqx
    obtain ⟨jts, rv', p', hzz'⟩ := I.list hqy
    have l1 := rv.length
    have l2 := rv'.length
    have hl : ∀ b ∈ [z, TI, TO, i1, i2], ∃ o, s.heap.get? b = some o := fun b hb => by
      rcases mem5 hb with e | e | e | e | e <;> subst e
      · exact ⟨_, hz⟩
      · exact ⟨_, hTI⟩
      · exact ⟨_, hTO⟩
      · exact let ⟨o, q, _⟩ := h1; ⟨o, q⟩
      · exact let ⟨o, q, _⟩ := h2; ⟨o, q⟩
    have D' : ZipApart z TI TO i1 i2 a b := by
      have seqz : ∀ {l : Addr} {c : Array Value}, s.heap.IsList l c → ∀ b, (∃ o, s.heap.get? b = some o ∧ ∃ f, o.data = .fields f) → l ≠ b := fun pl b ⟨o, q, f, d⟩ e => by
        subst e
        obtain ⟨o', q', c', n', d'⟩ := pl
        rw [q] at q'; cases q'; rw [d] at d'; cases d'
      have seqt : ∀ {l : Addr} {c : Array Value}, s.heap.IsList l c → ∀ b, (∃ x y, IsPair s.heap b x y) → l ≠ b := fun pl b ⟨x, y, q⟩ e => by
        subst e
        obtain ⟨o', q', c', n', d'⟩ := pl
        rw [q] at q'; cases q'; exact absurd c' (by simp)
      have f1 : ∃ o, s.heap.get? i1 = some o ∧ ∃ f, o.data = .fields f := let ⟨o, q, c, d⟩ := h1; ⟨o, q, _, d⟩
      have f2 : ∃ o, s.heap.get? i2 = some o ∧ ∃ f, o.data = .fields f := let ⟨o, q, c, d⟩ := h2; ⟨o, q, _, d⟩
      have fz : ∃ o, s.heap.get? z = some o ∧ ∃ f, o.data = .fields f := ⟨_, hz, _, rfl⟩
      exact ⟨D.TIz, D.TOz, D.i1z, D.i2z, D.TITO, D.TIi1, D.TIi2, D.TOi1, D.TOi2, D.i12, seqz p.isList _ fz, seqt p.isList _ ⟨_, _, hTO⟩, seqz p.isList _ f1, seqz p.isList _ f2, seqz p'.isList _ fz, seqt p'.isList _ ⟨_, _, hTO⟩, seqz p'.isList _ f1, seqz p'.isList _ f2⟩
    refine wpAny_pyNext_zip_end (I.ok.hd hc) D' hz hTI hTO h1 h2 p.isList p'.isList ?_ fun h' a7 => ⟨rfl, zip_fp (t' := s.toks) I hf hl a7⟩
    rcases hend with q | q
    · exact .inl (by simp; omega)
    · exact .inr (by simp; omega)
  self := fun _ _ _ _ _ st h => let ⟨⟨hz, _⟩, _⟩ := st; wpAny_pyIter_zip hz h
section
variable {X : Cx}
def iZipS (ta : TA) : TI := fun σ H R => ta σ H fun vs H1 => ∃ x y, vs = [.str x, .str y] ∧ R (ItzS x y) H1
def iZipL (K : PySem.W.Frag) (ta : TA) : TI := fun σ H R => ta σ H fun vs H1 => ∃ a b, vs = [.ref a, .ref b] ∧ (∃ xs, SqL K H1 a xs) ∧ (∃ ys, SqL K H1 b ys) ∧ R (ItzL K a b) H1
theorem apart5 (n : Nat) : ZipApart (n + 4) (n + 2) (n + 3) n (n + 1) (n + 2) (n + 2) := by
  constructor <;> (show @Ne Nat _ _; omega)
theorem fp5 {n b : Nat} (h : b ∈ [n + 4, n + 2, n + 3, n, n + 1]) : n ≤ b := by
  have h' : b = n + 4 ∨ b = n + 2 ∨ b = n + 3 ∨ b = n ∨ b = n + 1 := by simpa using h
  omega
theorem pi_zipS {a b : Expr} {ta : TA} {p pos tp : Pos} {es : List Expr} {k1} (hg : Gl X "zip") (hm : X.mg "zip" = none) (ha : PA X [a, b] ta) (hs : starEach [a, b] X.env = (false, eval a X.env) :: starEach [b] X.env := by rfl) (hp : (backTo pos (starEach [b] X.env)).any (·.1) = false := by rfl) :
    PI X (.Tuple es k1 tp) (.Call (.Name "zip" p) [a, b] [] pos) (iZipS ta) := by
  intro pins s σ H R I h
  refine Call_ (ld_blt I hg hm boot_zip (PyProof.Rows.callWith_type1 (thn (ha pos pins s σ H _ I h) fun us s1 ⟨vs, H1, I1, r1, q1⟩ => ?_) hs hp))
  obtain ⟨x, y, e, q⟩ := q1
  subst e
  obtain ⟨u, v, rfl, ru, rv⟩ := vals2 r1
  obtain ⟨t, rfl⟩ := ru
  obtain ⟨t', rfl⟩ := rv
  refine call_zipS fun h' a1 a2 a3 a4 a5 hsz hk => ?_
  refine wpAny_pyIter_zip (s := { s1 with heap := h' }) a1 ?_
  have I2 : Inv X pins σ H1 { s1 with heap := h' } := I1.kept (t' := s1.toks) hk
  refine ⟨s1.heap.objs.size + 4, _, _, _, H1, rfl, I2, turn_zipS x y t t' (s1.heap.objs.size + 4) (s1.heap.objs.size + 2) (s1.heap.objs.size + 3) s1.heap.objs.size (s1.heap.objs.size + 1) (apart5 _), ⟨⟨a1, a2, _, _, a3⟩, a4, a5⟩, fun b hb => ?_, q⟩
  exact I1.fpOk (fp5 hb) (I1.hok.fresh (fp5 hb))
theorem pi_zipL {a b : Expr} {ta : TA} {p pos tp : Pos} {es : List Expr} {k1} (hg : Gl X "zip") (hm : X.mg "zip" = none) (ha : PA X [a, b] ta) (hs : starEach [a, b] X.env = (false, eval a X.env) :: starEach [b] X.env := by rfl) (hp : (backTo pos (starEach [b] X.env)).any (·.1) = false := by rfl) :
    PI X (.Tuple es k1 tp) (.Call (.Name "zip" p) [a, b] [] pos) (iZipL X.K ta) := by
  intro pins s σ H R I h
  refine Call_ (ld_blt I hg hm boot_zip (PyProof.Rows.callWith_type1 (thn (ha pos pins s σ H _ I h) fun us s1 ⟨vs, H1, I1, r1, q1⟩ => ?_) hs hp))
  obtain ⟨x, y, e, ⟨xs, hx⟩, ⟨ys, hy⟩, q⟩ := q1
  subst e
  obtain ⟨u, v, rfl, ru, rv⟩ := vals2 r1
  cases ru
  cases rv
  obtain ⟨its, _, pl, _⟩ := I1.list hx
  obtain ⟨jts, _, pl', _⟩ := I1.list hy
  refine call_zip_2 pl.isList pl'.isList fun h' a1 a2 a3 a4 a5 hsz hk => ?_
  refine wpAny_pyIter_zip (s := { s1 with heap := h' }) a1 ?_
  have I2 : Inv X pins σ H1 { s1 with heap := h' } := I1.kept (t' := s1.toks) hk
  refine ⟨s1.heap.objs.size + 4, _, _, _, H1, rfl, I2, turn_zipL x y (s1.heap.objs.size + 4) (s1.heap.objs.size + 2) (s1.heap.objs.size + 3) s1.heap.objs.size (s1.heap.objs.size + 1) (apart5 _), ⟨⟨a1, a2, _, _, a3⟩, a4, a5⟩, fun b hb => ?_, q⟩
  exact I1.fpOk (fp5 hb) (I1.hok.fresh (fp5 hb))
end
end L2
set_option Elab.async false
set_option linter.all false
set_option maxRecDepth 100000
namespace L2
open PySem PySem.Spec PyProof.Rows
def tLCI (js : List (Option Nat)) (wi : TI) (g : TG) (tc : TT) (te : TE) : TE := fun σ H Q => wi σ H fun J H1 => ∀ l, H1 l = none → ∃ W : Nat → Nat → List V → St → Hp → Prop, (∃ m, W 0 m [] (blkSt js σ) (upd H1 l (.lst []))) ∧ ∀ i m acc σ' H', W i m acc σ' H' →
  ((J.stop i H' ∧ Q (.ref l) H') ∨ (J.go i H' ∧ ∀ x H2, J.yld i H' x H2 → g x σ' H2 fun σ2 H3 => tc σ2 H3 fun b H3' => if b = true then te σ2 H3' fun v H4 => H4 l = some (.lst acc) ∧ acc.length < sizeLine ∧ ∃ m', m' < m ∧ W (i + 1) m' (acc ++ [v]) σ2 (upd H4 l (.lst (acc ++ [v])))
    else ∃ m', m' < m ∧ W (i + 1) m' acc σ2 H3'))
end L2
set_option Elab.async false
set_option linter.all false
set_option maxRecDepth 100000
namespace L2
open PySem PySem.Spec PyProof.Rows
def Itd (hi : Int) (n : Nat) : It := ⟨fun i _ => i < n, fun i H x H' => H' = H ∧ x = .int (hi - i), fun i _ => n ≤ i⟩
theorem turn_rangeD {P : Program} {w : World} {K : PySem.W.Frag} {tg : Expr} (it : Addr) (hi : Int) (n : Nat) : Turn P w K tg (Itd hi n) [it] it (fun i h => IsRangeIter h it (hi + (i : Nat) * (-1)) ((n : Int) - (i : Nat)) (-1)) where
  mem := by simp
  obj := fun i h st b hb => by
    have e : b = it := by simpa using hb
    subst e
    exact ⟨_, st, fun v z => by
      have z' : Data.fields _ = Data.cell v := z
      cases z'⟩
  keep := fun i h h' st k => k it (by simp) _ st
  item := by
    intro X hP hw hK hc i pins s σ H E I hf st hg
    subst hP hw hK
    obtain ⟨f0, f1, f2, f3, f4, f5⟩ := hf it (by simp)
    have W := Walks.range (prog := X.prog) (w := X.w) (I.ok.hd hc) it hi (-1) n
    refine W.item i s _ _ hg st fun v h' tk hv st' kk => ?_
    obtain ⟨t, rfl⟩ := hv
    have I1 : Inv X pins σ H { s with heap := h', toks := tk } := I.turned (fun b o hb e => kk b o (by simpa using hb) e) f0 f1 f3 f4 f5
    refine ⟨_, rfl, go_of (s := { s with heap := h', toks := tk }) (n := "range_iterator") st' rfl rfl (by decide) ⟨.int (hi - i), H, I1, ⟨t, ?_⟩, ⟨rfl, rfl⟩, st', fun b hb => (hf b hb).1⟩⟩
    rw [show hi + (i : Int) * -1 = hi - i by omega]
  done := by
    intro X hP hw hK hc i pins s σ H E I hf st hg
    subst hP hw hK
    obtain ⟨f0, f1, f2, f3, f4, f5⟩ := hf it (by simp)
    exact wpAny_pyNext_range_end (I.ok.hd hc) st (by have : n ≤ i := hg; omega) fun h' eb => ⟨rfl, I.turned (t' := s.toks) (fun b o hb e => eb b o hb e) f0 f1 f3 f4 f5⟩
  self := fun _ _ _ _ _ st h => wpAny_pyIter_rangeiter st h
theorem rangeSize_down (a b : Int) : Builtin.Range.rangeSize a b (-1) = if b < a then a - b else 0 := by
  unfold Builtin.Range.rangeSize
  rw [if_neg (by decide), show -(-1 : Int) = 1 from rfl, Int.ediv_one]
  split <;> omega
theorem small_down {a b : Int} (ha : -(2 ^ 62) ≤ a) (ha' : a < 2 ^ 62) (hb : -(2 ^ 62) ≤ b) (hb' : b < 2 ^ 62) : Builtin.Range.small a b (-1) = true := by
  unfold Builtin.Range.small
  rw [rangeSize_down]
  simp only [Builtin.Range.rangeFitsLong, Bool.and_eq_true, Bool.or_eq_true, decide_eq_true_eq, beq_iff_eq]
  split <;> simp <;> omega
section
variable {X : Cx} {tg : Expr}
theorem rangeD_it {pins : List (Addr × Obj)} {σ : St} {H : Hp} {s : Shared} {R : It → Hp → Prop} {E : Value → Shared → Prop} {lo hi : Int} {t u v : Tok} {tk : Nat} (I : Inv X pins σ H s) (h1 : -(2 ^ 62) ≤ lo) (h2 : lo < 2 ^ 62) (h3 : -(2 ^ 62) ≤ hi) (h4 : hi < 2 ^ 62)
    (q : R (Itd hi (hi - lo).toNat) H) : wpAny (model X.prog X.w) X.A (pyIter (.ref s.heap.objs.size)) (PIE X pins σ tg R) E { s with heap := s.heap.push { cls := .type "range", data := .fields #[.int hi t, .int lo u, .int (-1) v] }, toks := tk } := by
  refine wpAny_pyIter_range (IsRange.new ..) (small_down h3 h4 h1 h2) ?_
  have I1 : Inv X pins σ H { s with heap := s.heap.push { cls := .type "range", data := .fields #[.int hi t, .int lo u, .int (-1) v] }, toks := tk } := I.kept fun b o e => Heap.get?_push_of_some _ e
  refine ⟨(s.heap.push { cls := .type "range", data := .fields #[.int hi t, .int lo u, .int (-1) v] }).objs.size, [(s.heap.push { cls := .type "range", data := .fields #[.int hi t, .int lo u, .int (-1) v] }).objs.size], _, _, H, rfl,
    I1.kept (t' := tk) fun b o e => Heap.get?_push_of_some _ e, turn_rangeD _ hi (hi - lo).toNat, ?_, fun b hb => ?_, q⟩
  · have e1 : hi + ((0 : Nat) : Int) * (-1) = hi := by simp
    have e2 : (((hi - lo).toNat : Nat) : Int) - ((0 : Nat) : Int) = Builtin.Range.rangeSize hi lo (-1) := by rw [rangeSize_down]; split <;> omega
    show IsRangeIter _ _ (hi + ((0 : Nat) : Int) * (-1)) ((((hi - lo).toNat : Nat) : Int) - ((0 : Nat) : Int)) (-1)
    rw [e1, e2]
    exact Heap.get?_push_size _ rfl
  · have e : b = (s.heap.push { cls := .type "range", data := .fields #[.int hi t, .int lo u, .int (-1) v] }).objs.size := by simpa using hb
    subst e
    exact I1.fpOk (Nat.le_refl _) (I1.hok.fresh (Nat.le_refl _))
def iRngD (ta : TA) : TI := fun σ H R => ta σ H fun vs H1 => ∃ i j : Int, vs = [.int i, .int j, .int (-1)] ∧ (-(2 ^ 62) ≤ i ∧ i < 2 ^ 62 ∧ -(2 ^ 62) ≤ j ∧ j < 2 ^ 62) ∧ R (Itd i (i - j).toNat) H1
theorem pi_rangeD {a b c : Expr} {ta : TA} {p pos : Pos} (hg : Gl X "range") (hm : X.mg "range" = none) (ha : PA X [a, b, c] ta) (hs : starEach [a, b, c] X.env = (false, eval a X.env) :: starEach [b, c] X.env := by rfl) (hp : (backTo pos (starEach [b, c] X.env)).any (·.1) = false := by rfl) :
    PI X tg (.Call (.Name "range" p) [a, b, c] [] pos) (iRngD ta) := by
  intro pins s σ H R I h
  refine Call_ (ld_blt I hg hm boot_range (PyProof.Rows.callWith_type1 (thn (ha pos pins s σ H _ I h) fun us s1 ⟨vs, H1, I1, r1, q1⟩ => ?_) hs hp))
  obtain ⟨i, j, e, ⟨q1, q2, q3, q4⟩, q⟩ := q1
  subst e
  cases r1 with
  | cons r rr =>
    cases rr with
    | cons r' rr =>
      cases rr with
      | cons r'' rr =>
        cases rr
        obtain ⟨t, rfl⟩ := r
        obtain ⟨t', rfl⟩ := r'
        obtain ⟨t'', rfl⟩ := r''
        exact call_range_3 (by decide) (rangeD_it I1 q3 q4 q1 q2 q) (.inl (PyProof.noPylong_small (by omega)))
end
/-- tuples stay -/
def Kt (H H' : Hp) : Prop := ∀ b ys, H b = some (.tup ys) → H' b = some (.tup ys)
theorem Same.kt {H H' : Hp} (h : Same H H') : Kt H H' := fun b ys e => h b _ e
theorem Kt.refl (H : Hp) : Kt H H := fun _ _ h => h
theorem Kt.trans {H H1 H2 : Hp} (a : Kt H H1) (b : Kt H1 H2) : Kt H H2 := fun c o h => b c o (a c o h)
theorem Kt.upd {H : Hp} {l : Addr} {o : HO} (h : ∀ ys, H l ≠ some (.tup ys)) : Kt H (upd H l o) := fun b ys e => by
  rw [upd_ne (fun z => h ys (by rw [← z]; exact e))]; exact e
structure ItOf (J : It) (H : Hp) (n : Nat) (F : Nat → V → Hp → Prop) : Prop where
  go : ∀ i H', i < n → Same H H' → J.go i H'
  stop : ∀ H', Same H H' → J.stop n H'
  yld : ∀ i H' x H2, i < n → Same H H' → J.yld i H' x H2 → Same H' H2 ∧ F i x H2
theorem same_new' {H : Hp} {l : Addr} {o : HO} (hl : H l = none) : Same H (upd H l o) := fun b u e => by rw [upd_ne (ne_of_none e hl)]; exact e
theorem itOf_str (z : Str) (H : Hp) : ItOf (Its z) H z.length (fun i x _ => ∃ c, (cds z)[i]? = some c ∧ x = .str ⟨#[c]⟩) where
  go := fun i H' h _ => h
  stop := fun H' _ => Nat.le_refl _
  yld := fun i H' x H2 _ _ y => by
    obtain ⟨e, c, hc, rfl⟩ := y
    subst e
    exact ⟨Same.refl _, c, by rw [← hc]; simp [cds], rfl⟩
theorem itOf_list {K : PySem.W.Frag} {a : Addr} {xs : List V} {H : Hp} (h : SqL K H a xs) : ItOf (Itl K a) H xs.length (fun i x _ => xs[i]? = some x) where
  go := fun i H' hi hS => ⟨xs, xs[i], hS.seq h, by simp [hi]⟩
  stop := fun H' hS => ⟨xs, hS.seq h, Nat.le_refl _⟩
  yld := fun i H' x H2 hi hS y => by
    obtain ⟨e, q⟩ := y
    subst e
    exact ⟨Same.refl _, q xs (hS.seq h)⟩
theorem itOf_range (lo : Int) (n : Nat) (H : Hp) : ItOf (Itr lo n) H n (fun i x _ => x = .int (lo + i)) where
  go := fun i H' h _ => h
  stop := fun H' _ => Nat.le_refl _
  yld := fun i H' x H2 _ _ y => by
    obtain ⟨e, q⟩ := y
    subst e
    exact ⟨Same.refl _, q⟩
theorem itOf_zipS (x y : Str) (H : Hp) : ItOf (ItzS x y) H (min x.length y.length) (fun i v H2 => ∃ c d p, (cds x)[i]? = some c ∧ (cds y)[i]? = some d ∧ v = .ref p ∧ H2 p = some (.tup [.str ⟨#[c]⟩, .str ⟨#[d]⟩])) where
  go := fun i H' h _ => ⟨Nat.lt_of_lt_of_le h (Nat.min_le_left _ _), Nat.lt_of_lt_of_le h (Nat.min_le_right _ _)⟩
  stop := fun H' _ => by
    show x.length ≤ min x.length y.length ∨ y.length ≤ min x.length y.length
    omega
  yld := fun i H' v H2 _ _ q => by
    obtain ⟨c, d, p, hc, hd, hp, rfl, rfl⟩ := q
    exact ⟨same_new' hp, c, d, p, by rw [← hc]; simp [cds], by rw [← hd]; simp [cds], rfl, upd_same⟩
theorem itOf_zipL {K : PySem.W.Frag} {a b : Addr} {xs ys : List V} {H : Hp} (hx : SqL K H a xs) (hy : SqL K H b ys) : ItOf (ItzL K a b) H (min xs.length ys.length) (fun i v H2 => ∃ x y p, xs[i]? = some x ∧ ys[i]? = some y ∧ v = .ref p ∧ H2 p = some (.tup [x, y])) where
  go := fun i H' h hS => ⟨xs, ys, xs[i], ys[i], hS.seq hx, hS.seq hy, List.getElem?_eq_getElem _, List.getElem?_eq_getElem _⟩
  stop := fun H' hS => ⟨xs, ys, hS.seq hx, hS.seq hy, by omega⟩
  yld := fun i H' v H2 _ hS q => by
    obtain ⟨x, y, p, h1, h2, hp, rfl, rfl⟩ := q
    exact ⟨same_new' hp, x, y, p, h1 xs (hS.seq hx), h2 ys (hS.seq hy), rfl, upd_same⟩
theorem paired_map {α : Type} {f : α → V} : ∀ {a : List α} {b : List V}, Paired (fun i v => v = f i) a b → b = a.map f
  | _, _, .nil => rfl
  | _, _, .cons h t => by rw [h, paired_map t]; rfl
theorem lc_gen {J : It} {H : Hp} {n : Nat} {F : Nat → V → Hp → Prop} {js : List (Option Nat)} {g : TG} {te : TE} {σ : St} {Fi : Addr → Hp → Prop} (it : ItOf J H n F) (hn : n ≤ sizeLine) (S : St → Prop) (G : Nat → V → Hp → Prop) (mono : ∀ i v H' H2, G i v H' → Kt H' H2 → G i v H2) (h0 : S (blkSt js σ))
    (step : ∀ i x σ' H', i < n → F i x H' → S σ' → Same H H' → ∀ (R : St → V → Hp → Prop), (∀ σ2 v H2, S σ2 → Same H' H2 → G i v H2 → R σ2 v H2) →
      g x σ' H' fun σ2 H3 => te σ2 H3 fun v H4 => R σ2 v H4)
    (fin : ∀ l vs H', Same H H' → H l = none → H' l = some (.lst vs) → Paired (fun i v => G i v H') (List.range n) vs → Fi l H') :
    ∀ l, H l = none → ∃ W : Nat → Nat → List V → St → Hp → Prop, (∃ m, W 0 m [] (blkSt js σ) (upd H l (.lst []))) ∧ ∀ i m acc σ' H', W i m acc σ' H' →
      ((J.stop i H' ∧ Fi l H') ∨ (J.go i H' ∧ ∀ x H2, J.yld i H' x H2 → g x σ' H2 fun σ2 H3 => te σ2 H3 fun v H4 => H4 l = some (.lst acc) ∧ acc.length < sizeLine ∧ ∃ m', m' < m ∧ W (i + 1) m' (acc ++ [v]) σ2 (upd H4 l (.lst (acc ++ [v]))))) := by
  intro l hl
  refine ⟨fun i m acc σ' H' => m = n - i ∧ i ≤ n ∧ S σ' ∧ Same H H' ∧ H' l = some (.lst acc) ∧ Paired (fun i v => G i v H') (List.range i) acc, ⟨n, by simp, Nat.zero_le _, h0, same_new' hl, upd_same, .nil⟩, ?_⟩
  rintro i m acc σ' H' ⟨rfl, hi, hs, hS, hL, hP⟩
  by_cases hlt : i < n
  · refine .inr ⟨it.go i H' hlt hS, fun x H2 y => ?_⟩
    obtain ⟨hS2, hF⟩ := it.yld i H' x H2 hlt hS y
    have hlen : acc.length < sizeLine := by
      have h1 := Paired.length hP
      rw [List.length_range] at h1
      exact Nat.lt_of_lt_of_le (by omega) hn
    refine step i x σ' H2 hlt hF hs (hS.trans hS2) (fun σ2 v H4 => _) (fun σ2 v H3 s3 hS3 hG => ?_)
    have hL3 : H3 l = some (.lst acc) := hS3 _ _ (hS2 _ _ hL)
    have kt : Kt H3 (upd H3 l (.lst (acc ++ [v]))) := .upd fun ys e => by rw [hL3] at e; cases e
    refine ⟨hL3, hlen, n - (i + 1), by omega, rfl, hlt, s3, ?_, upd_same, ?_⟩
    · intro b o e
      rw [upd_ne (ne_of_none e hl)]
      exact hS3 _ _ (hS2 _ _ (hS _ _ e))
    · rw [List.range_succ]
      exact Paired.snoc (Paired.imp' (fun a b h => mono _ _ _ _ h ((hS2.trans hS3).kt.trans kt)) hP) (mono _ _ _ _ hG kt)
  · have e : i = n := by omega
    subst e
    exact .inl ⟨it.stop H' hS, fin l acc H' hS hl hL hP⟩
/-- the elements are told by their place -/
theorem lc_fun {J : It} {H : Hp} {n : Nat} {F : Nat → V → Hp → Prop} {js : List (Option Nat)} {g : TG} {te : TE} {σ : St} {Fi : Addr → Hp → Prop} (it : ItOf J H n F) (hn : n ≤ sizeLine) (S : St → Prop) (f : Nat → V) (h0 : S (blkSt js σ))
    (step : ∀ i x σ' H', i < n → F i x H' → S σ' → Same H H' → ∀ (R : St → V → Hp → Prop), (∀ σ2 H2, S σ2 → Same H' H2 → R σ2 (f i) H2) →
      g x σ' H' fun σ2 H3 => te σ2 H3 fun v H4 => R σ2 v H4)
    (fin : ∀ l H', Same H H' → H l = none → H' l = some (.lst ((List.range n).map f)) → Fi l H') :
    ∀ l, H l = none → ∃ W : Nat → Nat → List V → St → Hp → Prop, (∃ m, W 0 m [] (blkSt js σ) (upd H l (.lst []))) ∧ ∀ i m acc σ' H', W i m acc σ' H' →
      ((J.stop i H' ∧ Fi l H') ∨ (J.go i H' ∧ ∀ x H2, J.yld i H' x H2 → g x σ' H2 fun σ2 H3 => te σ2 H3 fun v H4 => H4 l = some (.lst acc) ∧ acc.length < sizeLine ∧ ∃ m', m' < m ∧ W (i + 1) m' (acc ++ [v]) σ2 (upd H4 l (.lst (acc ++ [v]))))) :=
  lc_gen it hn S (fun i v _ => v = f i) (fun _ _ _ _ h _ => h) h0 (fun i x σ' H' a b c d R k => step i x σ' H' a b c d R fun σ2 H2 s hS => k σ2 _ H2 s hS rfl)
    fun l vs H' hS hl hL hP => fin l H' hS hl (by rw [hL, paired_map hP])
/-- a loop over a walk: what holds between two turns by the number of turns, over the state and the heap; the walk's own needs hold where the invariant does -/
theorem for_gen {J : It} {g : TG} {tb : TS} {D : Ends} {σ : St} {H : Hp} (n : Nat) (Pv : Nat → St → Hp → Prop) (h0 : Pv 0 σ H) (go : ∀ i σ H, i < n → Pv i σ H → J.go i H) (stop : ∀ σ H, Pv n σ H → J.stop n H)
    (turn : ∀ i σ H x H', i < n → Pv i σ H → J.yld i H x H' → g x σ H' fun σ2 H2 => tb { D with nx := Pv (i + 1), ct := Pv (i + 1), bk := D.nx } σ2 H2) (after : ∀ σ H, Pv n σ H → D.nx σ H) :
    ∃ W : Nat → Nat → St → Hp → Prop, (∃ m, W 0 m σ H) ∧ ∀ i m σ H, W i m σ H →
      (J.stop i H ∧ D.nx σ H) ∨ (J.go i H ∧ ∃ N : St → Hp → Prop, (∀ σ' H', N σ' H' → ∃ m', m' < m ∧ W (i + 1) m' σ' H') ∧ ∀ x H', J.yld i H x H' → g x σ H' fun σ2 H2 => tb { D with nx := N, ct := N, bk := D.nx } σ2 H2) := by
  refine ⟨fun i m σ H => m = n - i ∧ i ≤ n ∧ Pv i σ H, ⟨n, by simp, Nat.zero_le _, h0⟩, ?_⟩
  rintro i m σ H ⟨rfl, hi, hP⟩
  by_cases hlt : i < n
  · exact .inr ⟨go i σ H hlt hP, Pv (i + 1), fun σ' H' h => ⟨n - (i + 1), by omega, rfl, hlt, h⟩, fun x H' y => turn i σ H x H' hlt hP y⟩
  · have e : i = n := by omega
    subst e
    exact .inl ⟨stop σ H hP, after σ H hP⟩
end L2
set_option Elab.async false
set_option linter.all false
set_option maxRecDepth 100000
namespace L2
open PySem PySem.Spec PyProof.Rows
theorem setGen_toks (s : Shared) (g : Nat) (x : GenState) : (s.setGen g x).toks = s.toks := rfl
theorem runs_toks {M : Model} {Γ : PySem.Ctx} {p : Pos} {t : Sem Fin} {fs : List Frame} {s s' : Shared} {e : End} (h : Runs M Γ p t fs s e s') : s.toks ≤ s'.toks := by
  induction h <;> first
    | exact Nat.le_refl _
    | assumption
    | (simp only [setGen_toks] at *; omega)
    | (simp only [setGen_toks] at *; first | assumption | exact Nat.le_of_succ_le (by assumption) | exact Nat.le_trans (by assumption) (by assumption))
    | (rename_i ih; exact Nat.le_trans (Nat.le_succ _) ih)
    | (rename_i ih1 ih2; exact Nat.le_trans ih1 ih2)
theorem wakes_toks {M : Model} {Γ : PySem.Ctx} {p : Pos} {g : Nat} {r : Resume} {s s' : Shared} {res : GenResult} (h : Wakes M Γ p g r s res s') : s.toks ≤ s'.toks := by
  unfold Wakes at h
  split at h
  · exact h.elim
  · split at h
    · obtain ⟨e, s1, hr, _, _, rfl⟩ := h
      have := runs_toks hr
      exact this
    · obtain ⟨_, rfl⟩ := h
      exact Nat.le_refl _
    · obtain ⟨_, rfl⟩ := h
      exact Nat.le_refl _
  · obtain ⟨e, s1, hr, _, _, rfl⟩ := h
    have := runs_toks hr
    exact this
  · obtain ⟨_, rfl⟩ := h
    exact Nat.le_refl _
  · obtain ⟨_, rfl⟩ := h
    exact Nat.le_refl _
theorem wp_toks {α : Type} {M : Model} {Γ : PySem.Ctx} : ∀ (t : Sem α) (n : Nat) (Q : α → Pos → Shared → Prop) (E : Value → Pos → Shared → Prop) (p : Pos) (s : Shared), n ≤ s.toks → Sem.wp M Γ t (fun a p' s' => n ≤ s'.toks → Q a p' s') (fun e p' s' => n ≤ s'.toks → E e p' s') p s → Sem.wp M Γ t Q E p s := by
  intro t n
  induction t with
  | pure a => intro Q E p s hn h; exact h hn
  | raise e => intro Q E p s hn h; exact h hn
  | unsupported _ => intro Q E p s hn h; exact h
  | finish _ => intro Q E p s hn h; exact h
  | rule _ k ih => intro Q E p s hn h; exact ih () Q E p s hn h
  | «at» p' k ih => intro Q E p s hn h; exact ih () Q E p' s hn h
  | load a _ k ih => intro Q E p s hn h; obtain ⟨o, h1, h2⟩ := h; exact ⟨o, h1, ih o Q E p s hn h2⟩
  | update a _ f k ih => intro Q E p s hn h; exact ⟨h.1, ih () Q E p _ hn h.2⟩
  | loadIfAlive a k ih => intro Q E p s hn h; exact ih _ Q E p s hn h
  | point _ k ih => intro Q E p s hn h; exact ih () Q E p s hn h
  | register _ _ _ => intro Q E p s hn h; exact h
  | alloc o k ih => intro Q E p s hn h; exact ih _ Q E p _ hn h
  | fresh k ih => intro Q E p s hn h; exact ih _ Q E p _ (Nat.le_succ_of_le hn) h
  | ask k ih => intro Q E p s hn h; exact ih _ Q E p s hn h
  | choose src m k ih => intro Q E p s hn h; exact ⟨h.1, ih _ Q E p _ hn h.2⟩
  | os q _ k ih => intro Q E p s hn h; exact ih _ Q E p _ hn h
  | call c hh _ _ k ih =>
    intro Q E p s hn h
    obtain ⟨r, s', hr, hw⟩ := h
    exact ⟨r, s', hr, ih r Q E p s' (Nat.le_trans hn (runs_toks hr)) hw⟩
  | handled own k ih => intro Q E p s hn h; exact ih _ Q E p s hn h
  | genState g k ih => intro Q E p s hn h; obtain ⟨o, h1, h2⟩ := h; exact ⟨o, h1, ih _ Q E p s hn h2⟩
  | newGen c k ih => intro Q E p s hn h; exact ih _ Q E p _ hn h
  | resume g r _ k ih =>
    intro Q E p s hn h
    obtain ⟨res, s', hr, hw⟩ := h
    exact ⟨res, s', hr, ih res Q E p s' (Nat.le_trans hn (wakes_toks hr)) hw⟩
  | yield _ _ _ _ _ => intro Q E p s hn h; exact h
  | stack k ih => intro Q E p s hn h; exact ih _ Q E p s hn h
  | fork _ _ _ => intro Q E p s hn h; exact h
  | thread k ih => intro Q E p s hn h; exact ih _ Q E p s hn h
  | await _ _ _ _ _ _ => intro Q E p s hn h; exact h
theorem wpAny_tk {α : Type} {M : Model} {A : Around} {t : Sem α} {Q : α → Shared → Prop} {E : Value → Shared → Prop} {s : Shared} {n : Nat} (hn : n ≤ s.toks) (h : wpAny M A t (fun a s' => n ≤ s'.toks → Q a s') (fun e s' => n ≤ s'.toks → E e s') s) : wpAny M A t Q E s :=
  fun Γ p hΓ => wp_toks t n _ _ p s hn (h Γ p hΓ)
end L2
set_option Elab.async false
set_option linter.all false
set_option maxRecDepth 100000
namespace L2
open PySem PySem.Spec PyProof.Rows Builtin Builtin.Str
/-- the places of a sign, at most n of them -/
def occs (a : Nat) : Nat → Nat → List Nat → List Nat
  | _, _, [] => []
  | n, i, x :: r => if x = a ∧ 0 < n then i :: occs a (n - 1) (i + 1) r else occs a n (i + 1) r
/-- the first n signs a turned to c -/
def replN (a c : Nat) : Nat → List Nat → List Nat
  | _, [] => []
  | n, x :: r => if x = a ∧ 0 < n then c :: replN a c (n - 1) r else x :: replN a c n r
theorem occ_run (x : Str) (a limit : Nat) : ∀ (m i : Nat) (st : Array Nat × Nat), i + m = x.length → st.2 ≤ i →
    (forIn (List.range' i (m + 1)) st (StrLaws.occBody x ⟨#[a]⟩ x.length limit)).run.fst.toList = st.1.toList ++ occs a (limit - st.1.size) i ((cds x).drop i)
  | 0, i, st, hm, hs => by
    have hi : (cds x).drop i = [] := List.drop_eq_nil_of_le (by rw [cds_len]; omega)
    rw [hi]
    rw [List.range'_succ, List.forIn_cons]
    unfold StrLaws.occBody
    have hn : ¬ ((((st.fst.size < limit ∧ st.snd ≤ i) ∧ i + (⟨#[a]⟩ : Str).length ≤ x.length)) ∧ subAt x ⟨#[a]⟩ i = true) := fun h => by
      have h1 : i + 1 ≤ x.length := h.1.2
      omega
    rw [if_neg hn]
    simp [occs]
  | m + 1, i, st, hm, hs => by
    have hil : i < (cds x).length := by rw [cds_len]; omega
    have hd : (cds x).drop i = (cds x)[i] :: (cds x).drop (i + 1) := List.drop_eq_getElem_cons hil
    rw [List.range'_succ, List.forIn_cons]
    have hiff := StrLaws.subAt_one x a i
    have hget : (cds x)[i]? = some (cds x)[i] := List.getElem?_eq_getElem hil
    rw [hd]
    by_cases hc : (cds x)[i] = a ∧ 0 < limit - st.1.size
    · have h2 := hiff.mpr (by rw [← hc.1]; exact hget)
      unfold StrLaws.occBody
      rw [if_pos ⟨⟨⟨by omega, hs⟩, h2.1⟩, h2.2⟩]
      have ih := occ_run x a limit m (i + 1) (st.1.push i, i + (⟨#[a]⟩ : Str).length) (by omega) (Nat.le_refl _)
      refine Eq.trans ih ?_
      simp only [occs, hc, and_self, if_true, Array.toList_push, Array.size_push]
      rw [List.append_assoc, List.singleton_append, show limit - (st.1.size + 1) = limit - st.1.size - 1 by omega]
    · have hn : ¬ ((((st.fst.size < limit ∧ st.snd ≤ i) ∧ i + (⟨#[a]⟩ : Str).length ≤ x.length)) ∧ subAt x ⟨#[a]⟩ i = true) := fun h => by
        have h3 := hiff.mp ⟨h.1.2, h.2⟩
        have h4 : (cds x)[i]? = some a := h3
        rw [hget] at h4
        exact hc ⟨Option.some.inj h4, by have := h.1.1.1; omega⟩
      unfold StrLaws.occBody
      rw [if_neg hn]
      have ih := occ_run x a limit m (i + 1) (st.1, st.2) (by omega) (Nat.le_succ_of_le hs)
      refine Eq.trans ih ?_
      simp only [occs]
      rw [if_neg hc]
theorem occ_one (x : Str) (a limit : Nat) : occurrences x ⟨#[a]⟩ 0 x.length limit = occs a limit 0 (cds x) := by
  rw [StrLaws.occ_eq]
  have h := occ_run x a limit x.length 0 (#[], 0) (by omega) (Nat.le_refl _)
  simpa using h
theorem occs_count (a : Nat) : ∀ (l : List Nat) (n i : Nat), l.length ≤ n → (occs a n i l).length = l.count a
  | [], _, _, _ => rfl
  | x :: r, n, i, h => by
    simp only [List.length_cons] at h
    unfold occs
    by_cases e : x = a
    · rw [if_pos ⟨e, by omega⟩, List.length_cons, occs_count a r (n - 1) (i + 1) (by omega), e, List.count_cons_self]
    · rw [if_neg (fun z => e z.1), occs_count a r n (i + 1) (by omega), List.count_cons_of_ne (by simpa using e)]
theorem count_one (x : Str) (a : Nat) : Txt.count x ⟨#[a]⟩ = ((cds x).count a : Int) := by
  show ((occurrences x ⟨#[a]⟩ 0 x.length (x.length + 1)).length : Int) = _
  rw [occ_one, occs_count]
  rw [cds_len]; omega
theorem cds_sub (x : Str) (i j : Nat) : cds (strSub x i j) = ((cds x).drop i).take (j - i) := StrLaws.strSub_toList x i j
theorem join_parts (x : Str) (a c : Nat) : ∀ (l : List Nat) (n i j : Nat), (cds x).drop i = l → j ≤ i → cds (Str.join ⟨#[c]⟩ (StrLaws.partsFrom x 1 j (occs a n i l))) = ((cds x).drop j).take (i - j) ++ replN a c n l
  | [], n, i, j, h, hj => by
    have hi : (cds x).length ≤ i := by
      have := congrArg List.length h
      rw [List.length_drop, List.length_nil] at this
      omega
    show cds (strSub x j x.length) = _
    rw [cds_sub, replN, List.append_nil, List.take_of_length_le (by rw [List.length_drop, cds_len]; omega), List.take_of_length_le (by rw [List.length_drop]; omega)]
  | y :: r, n, i, j, h, hj => by
    have hil : i < (cds x).length := by
      have := congrArg List.length h
      rw [List.length_drop, List.length_cons] at this
      omega
    have hd : (cds x).drop i = (cds x)[i] :: (cds x).drop (i + 1) := List.drop_eq_getElem_cons hil
    rw [h] at hd
    have h1 : (cds x).drop (i + 1) = r := (List.cons.inj hd).2.symm
    have h0 : (cds x)[i] = y := (List.cons.inj hd).1.symm
    unfold occs replN
    by_cases e : y = a ∧ 0 < n
    · rw [if_pos e, if_pos e]
      have ih := join_parts x a c r (n - 1) (i + 1) (i + 1) h1 (Nat.le_refl _)
      obtain ⟨p, q, hp⟩ := StrLaws.partsFrom_ne x 1 (i + 1) (occs a (n - 1) (i + 1) r)
      show cds (Str.join ⟨#[c]⟩ (strSub x j i :: StrLaws.partsFrom x 1 (i + 1) (occs a (n - 1) (i + 1) r))) = _
      rw [hp] at ih ⊢
      show cds (strSub x j i ++ ⟨#[c]⟩ ++ Str.join ⟨#[c]⟩ (p :: q)) = _
      rw [cds_app, cds_app, ih, cds_sub, cds_one]
      simp
    · rw [if_neg e, if_neg e]
      rw [join_parts x a c r n (i + 1) j h1 (by omega)]
      rw [show i + 1 - j = (i - j) + 1 by omega, List.take_add_one]
      have hg : ((cds x).drop j)[i - j]? = some y := by
        rw [List.getElem?_drop, show j + (i - j) = i by omega, List.getElem?_eq_getElem hil, h0]
      rw [hg]
      simp
theorem replN_len (a c : Nat) : ∀ (n : Nat) (l : List Nat), (replN a c n l).length = l.length
  | _, [] => rfl
  | n, x :: r => by
    unfold replN
    split
    · rw [List.length_cons, replN_len a c (n - 1) r, List.length_cons]
    · rw [List.length_cons, replN_len a c n r, List.length_cons]
theorem replN_no (a c : Nat) : ∀ (n i : Nat) (l : List Nat), occs a n i l = [] → replN a c n l = l
  | _, _, [], _ => rfl
  | n, i, x :: r, h => by
    unfold occs at h
    unfold replN
    by_cases e : x = a ∧ 0 < n
    · rw [if_pos e] at h; cases h
    · rw [if_neg e] at h ⊢
      rw [replN_no a c n (i + 1) r h]
/-- the text with the first n signs a turned to c -/
def replS (z : Str) (a c n : Nat) : Str := ⟨(replN a c n (cds z)).toArray⟩
theorem cds_repl (z : Str) (a c n : Nat) : cds (replS z a c n) = replN a c n (cds z) := rfl
theorem glued_repl (x : Str) (a c n : Nat) : glued ⟨#[c]⟩ (partsBetween x (occurrences x ⟨#[a]⟩ 0 x.length n) (⟨#[a]⟩ : Str).length) = replS x a c n := by
  refine str_ext ?_
  rw [StrLaws.glued_eq_join, StrLaws.partsBetween_eq, occ_one, cds_repl]
  have := join_parts x a c (cds x) n 0 0 rfl (Nat.le_refl _)
  rw [Nat.sub_self, List.take_zero, List.nil_append] at this
  exact this
theorem replS_len (z : Str) (a c n : Nat) : (replS z a c n).length = z.length := by rw [← cds_len, cds_repl, replN_len, cds_len]
theorem occ_fits (x : Str) (a n : Nat) (hx : x.length ≤ 1000000) : tooLong (x.length + (occurrences x ⟨#[a]⟩ 0 x.length n).length * 1) = false := by
  have h1 : ∀ (l : List Nat) (n i : Nat), (occs a n i l).length ≤ l.length := by
    intro l
    induction l with
    | nil => intro n i; exact Nat.le_refl _
    | cons y r ih =>
      intro n i
      unfold occs
      split
      · simp only [List.length_cons]; have := ih (n - 1) (i + 1); omega
      · simp only [List.length_cons]; have := ih n (i + 1); omega
  have h2 := h1 (cds x) n 0
  rw [cds_len] at h2
  rw [occ_one]
  unfold tooLong
  rw [sizeLine_eq]
  exact decide_eq_false (by omega)
theorem gives_repl2 (x : Str) (a c : Nat) (t u v : Tok) (hx : x.length ≤ 1000000) (hu : u ≠ 0) (hv : v ≠ 0) (huv : u ≠ v) (hac : a ≠ c) :
    Gives («str.replace» ⟨[.str x t, .str ⟨#[a]⟩ u, .str ⟨#[c]⟩ v], []⟩) (if (occurrences x ⟨#[a]⟩ 0 x.length (x.length + 1)).isEmpty = true then .val (.str x t) else .str (replS x a c (x.length + 1))) := by
  have h := gives_str_replace x ⟨#[a]⟩ ⟨#[c]⟩ t u v fun _ => ⟨by simp [hu, hv], by simp [huv], by
    rw [Bool.eq_false_iff]
    intro q
    have := eq_of_beq q
    have := congrArg cds this
    simp [cds] at this
    exact hac this, occ_fits x a _ hx⟩
  rw [show ((⟨#[a]⟩ : Str).length == 0) = false from rfl, Bool.false_and, Bool.or_false, glued_repl] at h
  exact h
theorem gives_repl3 (x : Str) (a c : Nat) (k : Int) (t u v q : Tok) (hx : x.length ≤ 1000000) (hu : u ≠ 0) (hv : v ≠ 0) (huv : u ≠ v) (hac : a ≠ c) (hk0 : 0 ≤ k) (hk1 : k < 2 ^ 62) :
    Gives («str.replace» ⟨[.str x t, .str ⟨#[a]⟩ u, .str ⟨#[c]⟩ v, .int k q], []⟩) (if (occurrences x ⟨#[a]⟩ 0 x.length k.toNat).isEmpty = true then .val (.str x t) else .str (replS x a c k.toNat)) := by
  have hyz : ((⟨#[a]⟩ : Str) == ⟨#[c]⟩) = false := by
    rw [Bool.eq_false_iff]
    intro q
    have := eq_of_beq q
    have := congrArg cds this
    simp [cds] at this
    exact hac this
  show Gives (do
    let limit ← countLimit "str.replace" (some (.int k q)) (x.length + 1)
    if ((occurrences x ⟨#[a]⟩ 0 x.length limit).isEmpty || ((⟨#[a]⟩ : Str).length == 0 && (⟨#[c]⟩ : Str).length == 0)) = true then (do rule "str.replace.nothing"; ret (.str x t)) else
          (do let same ← isSame (.str ⟨#[a]⟩ u) (.str ⟨#[c]⟩ v)
              if same = true then (do rule "str.replace.old-is-new"; ret (.str x t)) else
              if tooLong (x.length + (occurrences x ⟨#[a]⟩ 0 x.length limit).length * (⟨#[c]⟩ : Str).length) = true then unsupported "str.replace:memory" else
              retStr (glued ⟨#[c]⟩ (partsBetween x (occurrences x ⟨#[a]⟩ 0 x.length limit) (⟨#[a]⟩ : Str).length)))) _
  rw [countLimit_int "str.replace" k q (x.length + 1) (by
    rw [decide_eq_false (by omega), decide_eq_false (by omega)]
    rfl), if_neg (by omega)]
  show Gives (if ((occurrences x ⟨#[a]⟩ 0 x.length k.toNat).isEmpty || ((⟨#[a]⟩ : Str).length == 0 && (⟨#[c]⟩ : Str).length == 0)) = true then (do rule "str.replace.nothing"; ret (.str x t)) else
          (do let same ← isSame (.str ⟨#[a]⟩ u) (.str ⟨#[c]⟩ v)
              if same = true then (do rule "str.replace.old-is-new"; ret (.str x t)) else
              if tooLong (x.length + (occurrences x ⟨#[a]⟩ 0 x.length k.toNat).length * (⟨#[c]⟩ : Str).length) = true then unsupported "str.replace:memory" else
              retStr (glued ⟨#[c]⟩ (partsBetween x (occurrences x ⟨#[a]⟩ 0 x.length k.toNat) (⟨#[a]⟩ : Str).length)))) _
  rw [show ((⟨#[a]⟩ : Str).length == 0) = false from rfl, Bool.false_and, Bool.or_false]
  cases hc : (occurrences x ⟨#[a]⟩ 0 x.length k.toNat).isEmpty
  · rw [isSame_str_other _ _ u v (by simp [hu, hv]) (by simp [huv]) hyz, show (⟨#[c]⟩ : Str).length = 1 from rfl, occ_fits x a _ hx, glued_repl]
    exact .of_eq rfl
  · exact .rule (.of_eq rfl)
theorem repl_same (x : Str) (a c n : Nat) (h : (occurrences x ⟨#[a]⟩ 0 x.length n).isEmpty = true) : replS x a c n = x := by
  rw [occ_one] at h
  refine str_ext ?_
  rw [cds_repl, replN_no a c n 0 (cds x) (List.isEmpty_iff.mp h)]
section
variable {prog : Program} {w : World} {A : Around} {E : Value → Shared → Prop} {s : Shared} {x : Str} {a c : Nat} {t u v q : Tok} {k : Int} {Q : Value → Shared → Prop}
theorem repl2_ok (hx : x.length ≤ 1000000) (hu : u ≠ 0) (hv : v ≠ 0) (huv : u ≠ v) (hac : a ≠ c) (hq : ∀ t' k, Q (.str (replS x a c (x.length + 1)) t') { s with toks := k }) :
    wpAny (model prog w) A (call (.builtin "str.replace") [.str x t, .str ⟨#[a]⟩ u, .str ⟨#[c]⟩ v]) Q E s := by
  refine call_gives F.slot_str_replace (typeIs_str _ _ _) F.entry_str_replace (F.args_str_replace_3 _ _ _) (gives_repl2 x a c t u v hx hu hv huv hac) ?_
  cases hc : (occurrences x ⟨#[a]⟩ 0 x.length (x.length + 1)).isEmpty
  · simp only [Bool.false_eq_true, if_false]
    exact ⟨by rw [replS_len, sizeLine_eq]; omega, hq _ _⟩
  · simp only [if_true]
    have := hq t s.toks
    rw [repl_same x a c _ hc] at this
    exact this
theorem repl3_ok (hx : x.length ≤ 1000000) (hu : u ≠ 0) (hv : v ≠ 0) (huv : u ≠ v) (hac : a ≠ c) (hk0 : 0 ≤ k) (hk1 : k < 2 ^ 62) (hq : ∀ t' j, Q (.str (replS x a c k.toNat) t') { s with toks := j }) :
    wpAny (model prog w) A (call (.builtin "str.replace") [.str x t, .str ⟨#[a]⟩ u, .str ⟨#[c]⟩ v, .int k q]) Q E s := by
  refine call_gives F.slot_str_replace (typeIs_str _ _ _) F.entry_str_replace (F.args_str_replace_4 _ _ _ _) (gives_repl3 x a c k t u v q hx hu hv huv hac hk0 hk1) ?_
  cases hc : (occurrences x ⟨#[a]⟩ 0 x.length k.toNat).isEmpty
  · simp only [Bool.false_eq_true, if_false]
    exact ⟨by rw [replS_len, sizeLine_eq]; omega, hq _ _⟩
  · simp only [if_true]
    have := hq t s.toks
    rw [repl_same x a c _ hc] at this
    exact this
end
/-- text.count(sign) -/
def rCount (a : Nat) : V → List V → Hp → VK → Prop := fun x vs H Q => ∃ z y, x = .str z ∧ vs = [.str y] ∧ y = ⟨#[a]⟩ ∧ Q (.int ((cds z).count a)) H
theorem mt_count {X : Cx} (a : Nat) : MtR X "str.count" (rCount a) := by
  intro pins s σ H x xs v us Q I rx r h
  obtain ⟨z, y, rfl, rfl, rfl, q⟩ := h
  obtain ⟨t, rfl⟩ := rx
  obtain ⟨u, rfl, ru⟩ := vals1 r
  obtain ⟨t', rfl⟩ := ru
  exact SC.count ⟨.int _, H, I.tok _, ⟨_, rfl⟩, by rw [count_one]; exact q⟩
end L2
set_option Elab.async false
set_option linter.all false
set_option maxRecDepth 100000
namespace L2
open PySem PySem.Spec PyProof.Rows
/-- .. if one has been made ahead -/
def PEp (X : Cx) (e : Expr) (t : TE) : Prop :=
  ∀ (pins : List (Addr × Obj)) (s : Shared) (σ : St) (H : Hp) (Q : VK), 1 ≤ s.toks → Inv X pins σ H s → t σ H Q → wpAny (model X.prog X.w) X.A (eval e X.env) (EP X pins σ Q) X.xe s
def PSp (X : Cx) (st : Stmt) (t : TS) : Prop :=
  ∀ (pins : List (Addr × Obj)) (s : Shared) (σ : St) (H : Hp) (D : Ends), 1 ≤ s.toks → Inv X pins σ H s → t D σ H → wpAny (model X.prog X.w) X.A (exec st X.env) (SP X pins D) X.xe s
def PSsp (X : Cx) (st : List Stmt) (t : TS) : Prop :=
  ∀ (pins : List (Addr × Obj)) (s : Shared) (σ : St) (H : Hp) (D : Ends), 1 ≤ s.toks → Inv X pins σ H s → t D σ H → wpAny (model X.prog X.w) X.A (execs st X.env) (SP X pins D) X.xe s
/-- .. one is made -/
def PEu (X : Cx) (e : Expr) (t : TE) : Prop :=
  ∀ (pins : List (Addr × Obj)) (s : Shared) (σ : St) (H : Hp) (Q : VK), Inv X pins σ H s → t σ H Q → wpAny (model X.prog X.w) X.A (eval e X.env) (fun v s' => EP X pins σ Q v s' ∧ 1 ≤ s'.toks) X.xe s
def PTu (X : Cx) (e : Expr) (t : TT) : Prop :=
  ∀ (pins : List (Addr × Obj)) (s : Shared) (σ : St) (H : Hp) (Q : Bool → Hp → Prop), Inv X pins σ H s → t σ H Q → wpAny (model X.prog X.w) X.A (isTrue e X.env (eval e X.env)) (fun v s' => TP X pins σ Q v s' ∧ 1 ≤ s'.toks) X.xe s
def PSu (X : Cx) (st : Stmt) (t : TS) : Prop :=
  ∀ (pins : List (Addr × Obj)) (s : Shared) (σ : St) (H : Hp) (D : Ends), Inv X pins σ H s → t D σ H → wpAny (model X.prog X.w) X.A (exec st X.env) (fun f s' => SP X pins D f s' ∧ 1 ≤ s'.toks) X.xe s
def PSsu (X : Cx) (st : List Stmt) (t : TS) : Prop :=
  ∀ (pins : List (Addr × Obj)) (s : Shared) (σ : St) (H : Hp) (D : Ends), Inv X pins σ H s → t D σ H → wpAny (model X.prog X.w) X.A (execs st X.env) (fun f s' => SP X pins D f s' ∧ 1 ≤ s'.toks) X.xe s
theorem wpAny_up {α : Type} {M : Model} {A : Around} {t : Sem α} {Q : α → Shared → Prop} {E : Value → Shared → Prop} {s : Shared} {n : Nat} (hn : n ≤ s.toks) (h : wpAny M A t Q E s) : wpAny M A t (fun a s' => Q a s' ∧ n ≤ s'.toks) E s :=
  wpAny_tk hn (wpAny_mono h (fun _ _ q hk => ⟨q, hk⟩) fun _ _ q _ => q)
section
variable {X : Cx} {e a b : Expr} {ta tb te : TE} {st : Stmt} {rest : List Stmt} {t u : TS} {pos : Pos}
theorem PE.p (h : PE X e te) : PEp X e te := fun pins s σ H Q _ I q => h pins s σ H Q I q
theorem PS.p (h : PS X st t) : PSp X st t := fun pins s σ H D _ I q => h pins s σ H D I q
theorem PSs.p (h : PSs X rest t) : PSsp X rest t := fun pins s σ H D _ I q => h pins s σ H D I q
theorem PEu.pe (h : PEu X e te) : PE X e te := fun pins s σ H Q I q => thn (h pins s σ H Q I q) fun _ _ q => q.1
theorem peu_opC {op : Operator} {r : R2} {i : Int} {j : Nat} {p2 : Pos} (ho : OpR X (binaryOp op) r) (ha : PE X a ta) : PEu X (.BinOp a op (.Constant (.int i) j p2) pos) (tOp r ta (tC (.int i))) := by
  intro pins s σ H Q I h
  refine wpAny_BinOp (thn (ha pins s σ H _ I h) fun v s1 ⟨x, H1, I1, r1, q1⟩ => wpAny_Constant_int ?_)
  exact wpAny_up (Nat.succ_le_succ (Nat.zero_le _)) (ho pins _ σ H1 x (.int i) v _ Q (I1.tok _) r1 ⟨_, rfl⟩ q1)
theorem peu_opL {op : Operator} {r : R2} (ho : OpR X (binaryOp op) r) (ha : PEu X a ta) (hb : PE X b tb) : PEu X (.BinOp a op b pos) (tOp r ta tb) := by
  intro pins s σ H Q I h
  refine wpAny_BinOp (thn (ha pins s σ H _ I h) fun v s1 ⟨⟨x, H1, I1, r1, q1⟩, k1⟩ => ?_)
  refine thn (wpAny_up k1 (hb pins s1 σ H1 _ I1 q1)) fun u s2 ⟨⟨y, H2, I2, r2, q2⟩, k2⟩ => ?_
  exact wpAny_up k2 (ho pins s2 σ H2 x y v u Q I2 r1 r2 q2)
theorem ptu_cmpL {op : CmpOp} {r : R2} (ho : OpR X (compareOp op) r) (ha : PEu X a ta) (hb : PE X b tb) (hm : behindInMarks op b = false) : PTu X (.Compare a [op] [b] pos) (tTest (tOp r ta tb)) := by
  intro pins s σ H Q I h
  refine wpAny_isTrue_Compare1 (thn (ha pins s σ H _ I h) fun v s1 ⟨⟨x, H1, I1, r1, q1⟩, k1⟩ => thn (wpAny_up k1 (hb pins s1 σ H1 _ I1 q1)) fun u s2 ⟨⟨y, H2, I2, r2, q2⟩, k2⟩ =>
    thn (wpAny_up k2 (ho pins s2 σ H2 x y v u _ I2 r1 r2 q2)) fun c s3 ⟨⟨z, H3, I3, r3, k, e, q3⟩, k3⟩ => ?_) hm
  subst e
  cases r3
  exact wpAny_truthy_bool ⟨⟨H3, I3, q3⟩, k3⟩
theorem psu_if {c : Expr} {aa bb : List Stmt} {tc : TT} (hc : PTu X c tc) (ha : PSs X aa t) (hb : PSs X bb u) : PSu X (.If c aa bb pos) (tIfS tc t u) := by
  intro pins s σ H D I h
  refine wpAny_If (thn (hc pins s σ H _ I h) fun d s1 ⟨⟨H1, I1, q1⟩, k1⟩ => ?_)
  cases d with
  | true => exact wpAny_up k1 (ha pins s1 σ H1 D I1 q1)
  | false => exact wpAny_up k1 (hb pins s1 σ H1 D I1 q1)
theorem psu_set {i : Nat} {x : Str} {pos' : Pos} (hN : X.N.Nodup) (hi : X.N[i]? = some x) (hx : Loc X.env.scope x) (he : PEu X e te) (hs : swapsWith e (some (.Name x pos')) pos.line X.env = pure false := by rfl) (hf : X.fn x = true ∨ X.env.scope.names.lookup x = some .local := by first | exact .inl rfl | exact .inr rfl | assumption) :
    PSu X (.Assign [.Name x pos'] e pos) (tAsg te (gName i)) := by
  intro pins s σ H D I h
  refine wpAny_Assign_Name (thn (he pins s σ H _ I h) fun v s1 ⟨⟨y, H1, I1, r1, q1⟩, k1⟩ => ?_) hs
  exact wpAny_up k1 (store_ok I1 hN hi hx r1 (fun s2 I2 => ⟨_, H1, I2, q1⟩) hf)
theorem psu_expr (he : PEu X e te) (hs : swapsWith e none pos.line X.env = pure false := by rfl) : PSu X (.Expr e pos) (tDrop te) := by
  intro pins s σ H D I h
  exact wpAny_Expr_any (thn (he pins s σ H _ I h) fun v s1 ⟨⟨x, H1, I1, r1, q1⟩, k1⟩ => ⟨⟨σ, H1, I1, q1⟩, k1⟩) I.quiet hs
/-- a statement that makes one, then code that wants one -/
theorem pss_up (h1 : PSu X st t) (h2 : PSsp X rest u) : PSs X (st :: rest) (tSeq t u) := by
  intro pins s σ H D I h
  refine wpAny_execs_cons (thn (h1 pins s σ H { D with nx := u D } I h) fun f s1 ⟨q, k⟩ => ?_)
  cases f with
  | next =>
    obtain ⟨σ', H', I', q⟩ := q
    exact h2 pins s1 σ' H' D k I' q
  | ret v => exact q
  | brk => exact q
  | cont => exact q
theorem pssp_cons (h1 : PSp X st t) (h2 : PSsp X rest u) : PSsp X (st :: rest) (tSeq t u) := by
  intro pins s σ H D k I h
  refine wpAny_execs_cons (thn (wpAny_up k (h1 pins s σ H { D with nx := u D } k I h)) fun f s1 ⟨q, k1⟩ => ?_)
  cases f with
  | next =>
    obtain ⟨σ', H', I', q⟩ := q
    exact h2 pins s1 σ' H' D k1 I' q
  | ret v => exact q
  | brk => exact q
  | cont => exact q
theorem pssp_one (h1 : PSp X st t) : PSsp X [st] t := by
  intro pins s σ H D k I h
  refine wpAny_execs_cons (thn (h1 pins s σ H D k I h) fun f s1 q => ?_)
  cases f with
  | next => exact wpAny_execs_nil q
  | ret v => exact q
  | brk => exact q
  | cont => exact q
theorem pssu_head (h1 : PSu X st t) (h2 : PSs X rest u) : PSsu X (st :: rest) (tSeq t u) := by
  intro pins s σ H D I h
  refine wpAny_execs_cons (thn (h1 pins s σ H { D with nx := u D } I h) fun f s1 ⟨q, k⟩ => ?_)
  cases f with
  | next =>
    obtain ⟨σ', H', I', q⟩ := q
    exact wpAny_up k (h2 pins s1 σ' H' D I' q)
  | ret v => exact ⟨q, k⟩
  | brk => exact ⟨q, k⟩
  | cont => exact ⟨q, k⟩
theorem pssu_one (h1 : PSu X st t) : PSsu X [st] t := by
  intro pins s σ H D I h
  refine wpAny_execs_cons (thn (h1 pins s σ H D I h) fun f s1 q => ?_)
  cases f with
  | next => exact wpAny_execs_nil q
  | ret v => exact q
  | brk => exact q
  | cont => exact q
theorem pssu_tail {te : TE} (h1 : PE X e te) (h2 : PSsu X rest u) (hs : swapsWith e none pos.line X.env = pure false := by rfl) : PSsu X (.Expr e pos :: rest) (tSeq (tDrop te) u) := by
  intro pins s σ H D I h
  refine wpAny_execs_cons (wpAny_Expr_any (thn (h1 pins s σ H _ I h) fun v s1 ⟨x, H1, I1, r1, q1⟩ => ?_) I.quiet hs)
  exact h2 pins s1 σ H1 D I1 q1
theorem psp_set {i : Nat} {x : Str} {pos' : Pos} (hN : X.N.Nodup) (hi : X.N[i]? = some x) (hx : Loc X.env.scope x) (he : PEp X e te) (hs : swapsWith e (some (.Name x pos')) pos.line X.env = pure false := by rfl) (hf : X.fn x = true ∨ X.env.scope.names.lookup x = some .local := by first | exact .inl rfl | exact .inr rfl | assumption) :
    PSp X (.Assign [.Name x pos'] e pos) (tAsg te (gName i)) := by
  intro pins s σ H D k I h
  refine wpAny_Assign_Name (thn (he pins s σ H _ k I h) fun v s1 ⟨y, H1, I1, r1, q1⟩ => ?_) hs
  exact store_ok I1 hN hi hx r1 (fun s2 I2 => ⟨_, H1, I2, q1⟩) hf
theorem psp_ret (he : PEp X e te) : PSp X (.Return (some e) pos) (tRet te) := by
  intro pins s σ H D k I h
  exact wpAny_Return_some (thn (he pins s σ H _ k I h) fun v s1 ⟨x, H1, I1, r1, q1⟩ => ⟨x, σ, H1, I1, r1, q1⟩)
end
section
variable {X : Cx} {o e : Expr} {to te : TE} {apos cpos : Pos}
def tRep2 (a c : Nat) (to : TE) : TE := fun σ H Q => to σ H fun x H1 => ∃ z, x = .str z ∧ z.length ≤ 1000000 ∧ Q (.str (replS z a c (z.length + 1))) H1
def tRep3 (a c : Nat) (to te : TE) : TE := fun σ H Q => to σ H fun x H1 => ∃ z, x = .str z ∧ te σ H1 fun y H2 => ∃ k, y = .int k ∧ z.length ≤ 1000000 ∧ 0 ≤ k ∧ k < 2 ^ 62 ∧ Q (.str (replS z a c k.toNat)) H2
theorem pep_rep2 {y z : Str} (a c : Nat) {j1 j2 : Nat} {p1 p2 : Pos} (ho : PEp X o to) (hy : y = ⟨#[a]⟩) (hz : z = ⟨#[c]⟩) (hac : a ≠ c) (hbase : attributeBase o "replace" X.env (eval o X.env) = eval o X.env := by rfl)
    (hline : (apos.endLine == cpos.line) = true := by rfl) :
    PEp X (.Call (.Attribute o "replace" apos) [.Constant (.str y) j1 p1, .Constant (.str z) j2 p2] [] cpos) (tRep2 a c to) := by
  subst hy hz
  intro pins s σ H Q k I h
  refine wpAny_Call_method_late hbase rfl hline rfl (thn (wpAny_up k (ho pins s σ H (fun x H1 => ∃ z, x = .str z ∧ z.length ≤ 1000000 ∧ Q (.str (replS z a c (z.length + 1))) H1) k I h)) fun v s1 ⟨⟨x, H1, I1, r1, z, e, hl, q1⟩, k1⟩ => ?_)
  subst e
  obtain ⟨t, rfl⟩ := r1
  obtain ⟨h1, h2⟩ := tyV_is (T := "str") I1 (x := .str z) ⟨t, rfl⟩ rfl
  refine ⟨"str", "str.replace", PySem.F.plainAttrs_str, PySem.F.slot_str_replace, PySem.F.type_str_replace, h1, h2, ?_⟩
  refine Calls.callWith_builtin rfl (Calls.evalArgs_plain ?_)
  show wpAny _ _ (spliced ((false, eval (.Constant (.str ⟨#[a]⟩) j1 p1) X.env) :: (false, eval (.Constant (.str ⟨#[c]⟩) j2 p2) X.env) :: [])) _ _ s1
  refine Calls.spliced_cons (Calls.Constant_str (Calls.spliced_cons (Calls.Constant_str (Calls.spliced_nil ?_))))
  show wpAny _ _ (call (.builtin "str.replace") [.str z t, .str ⟨#[a]⟩ s1.toks, .str ⟨#[c]⟩ (s1.toks + 1)]) _ _ _
  exact repl2_ok hl (Nat.ne_of_gt k1) (Nat.succ_ne_zero _) (Nat.ne_of_lt (Nat.lt_succ_self _)) hac fun t' j => ⟨.str _, H1, (I1.tok (s1.toks + 1 + 1)).tok j, ⟨_, rfl⟩, q1⟩
theorem pep_rep3 {y z : Str} (a c : Nat) {j1 j2 : Nat} {p1 p2 : Pos} (ho : PEp X o to) (hy : y = ⟨#[a]⟩) (hz : z = ⟨#[c]⟩) (hac : a ≠ c) (he : PE X e te) (hbase : attributeBase o "replace" X.env (eval o X.env) = eval o X.env := by rfl)
    (hfew : ((backTo cpos (starEach [.Constant (.str y) j1 p1, .Constant (.str z) j2 p2, e] X.env)).all (fun x => !x.1) && (backToKw cpos (keywordEach [] X.env)).all (fun x => x.1.isSome)
      && decide (([.Constant (.str y) j1 p1, .Constant (.str z) j2 p2, e] : List Expr).length + ([] : List Keyword).length + (if ([] : List Keyword).isEmpty then 0 else 1) < 30)) = true := by rfl)
    (hline : (apos.endLine == cpos.line) = true := by rfl) (hs : starEach [e] X.env = [(false, eval e X.env)] := by rfl) :
    PEp X (.Call (.Attribute o "replace" apos) [.Constant (.str y) j1 p1, .Constant (.str z) j2 p2, e] [] cpos) (tRep3 a c to te) := by
  subst hy hz
  intro pins s σ H Q k I h
  refine wpAny_Call_method_late hbase hfew hline rfl (thn (wpAny_up k (ho pins s σ H (fun x H1 => ∃ z, x = .str z ∧ te σ H1 fun y H2 => ∃ k, y = .int k ∧ z.length ≤ 1000000 ∧ 0 ≤ k ∧ k < 2 ^ 62 ∧ Q (.str (replS z a c k.toNat)) H2) k I h)) fun v s1 ⟨⟨x, H1, I1, r1, z, ez, q1⟩, k1⟩ => ?_)
  have e3 : backTo cpos (starEach [.Constant (.str ⟨#[a]⟩) j1 p1, .Constant (.str ⟨#[c]⟩) j2 p2, e] X.env) = [(false, eval (.Constant (.str ⟨#[a]⟩) j1 p1) X.env), (false, eval (.Constant (.str ⟨#[c]⟩) j2 p2) X.env), (false, eval e X.env)] := by
    show (false, eval (.Constant (.str ⟨#[a]⟩) j1 p1) X.env) :: (false, eval (.Constant (.str ⟨#[c]⟩) j2 p2) X.env) :: backTo cpos (starEach [e] X.env) = _
    rw [hs]; rfl
  rw [e3]
  subst ez
  obtain ⟨t, rfl⟩ := r1
  obtain ⟨h1, h2⟩ := tyV_is (T := "str") I1 (x := .str z) ⟨t, rfl⟩ rfl
  refine ⟨"str", "str.replace", PySem.F.plainAttrs_str, PySem.F.slot_str_replace, PySem.F.type_str_replace, h1, h2, ?_⟩
  refine Calls.callWith_builtin rfl (Calls.evalArgs_plain ?_)
  refine Calls.spliced_cons (Calls.Constant_str (Calls.spliced_cons (Calls.Constant_str (Calls.spliced_cons ?_))))
  refine thn (he pins _ σ H1 _ (I1.tok (s1.toks + 1 + 1)) q1) fun w s2 ⟨y, H2, I2, r2, k', e2, hl, hk0, hk1, q2⟩ => ?_
  subst e2
  obtain ⟨t2, rfl⟩ := r2
  refine Calls.spliced_nil ?_
  show wpAny _ _ (call (.builtin "str.replace") [.str z t, .str ⟨#[a]⟩ s1.toks, .str ⟨#[c]⟩ (s1.toks + 1), .int k' t2]) _ _ _
  exact repl3_ok hl (Nat.ne_of_gt k1) (Nat.succ_ne_zero _) (Nat.ne_of_lt (Nat.lt_succ_self _)) hac hk0 hk1 fun t' j => ⟨.str _, H2, I2.tok j, ⟨_, rfl⟩, q2⟩
/-- list(e), of what wants a token -/
theorem pep_callTy1 {x : Str} {T : String} {r : List V → Hp → VK → Prop} {p pos : Pos} (hc : CallR X (.type T) r) (hg : Gl X x) (hm : X.mg x = none) (hv : bootBuiltins x = some (.type T)) (ha : PEp X e te) (hn : x ≠ "__name__" := by decide) (hdb : (x == ("__debug__" : Str)) = false := by decide)
    (he : starEach [e] X.env = [(false, eval e X.env)] := by rfl) : PEp X (.Call (.Name x p) [e] [] pos) (tCB r (tCons te tNil)) := by
  intro pins s σ H Q k I h
  refine wpAny_Call_Name_kw (ld_blt I hg hm hv ?_ hn hdb)
  refine PyProof.Rows.callWith_type1 (T := T) ?_ he rfl
  rw [he]
  show wpAny _ _ (spliced [(false, eval e X.env)]) _ _ s
  refine Calls.spliced_cons (thn (ha pins s σ H _ k I h) fun u s1 ⟨y, H1, I1, r1, q1⟩ => Calls.spliced_nil ?_)
  exact hc pins s1 σ H1 [y] [u] Q I1 (.cons r1 .nil) q1
end
end L2
set_option Elab.async false
set_option linter.all false
set_option maxRecDepth 100000
namespace L2
open PySem PySem.Spec PyProof.Rows
structure FnUp (P : Program) (w : World) (K : PySem.W.Frag) (mg : Str → Option Value) (base : Heap) (CX : CXT) (k : Nat) (f : Addr) (fd : FuncData) (ps : List Str) (sp : Sp) : Prop where
  len : ∀ vs H Q E, sp vs H Q E → vs.length = ps.length
  run : ∀ (A : Around) (outer : List Env) (s : Shared) (H : Hp) (args : Args) (us : List Value) (vs : List V) (Q : VK) (E : XK), Room k A → Env0 P w K mg base A outer s H → BindsTo s fd args (ps.zip us) → Vals vs us → sp vs H Q E →
    codeAny (model P w) A (.call (.ref f) args) (fun r s' => CR CX outer P w H s Q E r s' ∧ ∀ fl, r = .ok fl → 1 ≤ s'.toks) s
structure FnPos (P : Program) (w : World) (K : PySem.W.Frag) (mg : Str → Option Value) (base : Heap) (CX : CXT) (k : Nat) (f : Addr) (fd : FuncData) (ps : List Str) (sp : Sp) : Prop where
  len : ∀ vs H Q E, sp vs H Q E → vs.length = ps.length
  run : ∀ (A : Around) (outer : List Env) (s : Shared) (H : Hp) (args : Args) (us : List Value) (vs : List V) (Q : VK) (E : XK), 1 ≤ s.toks → Room k A → Env0 P w K mg base A outer s H → BindsTo s fd args (ps.zip us) → Vals vs us → sp vs H Q E →
    codeAny (model P w) A (.call (.ref f) args) (CR CX outer P w H s Q E) s
theorem FnUp.ok {P : Program} {w : World} {K : PySem.W.Frag} {mg : Str → Option Value} {base : Heap} {CX : CXT} {k : Nat} {f : Addr} {fd : FuncData} {ps : List Str} {sp : Sp} (F : FnUp P w K mg base CX k f fd ps sp) : FnOk P w K mg base CX k f fd ps sp :=
  ⟨F.len, fun A outer s H args us vs Q E hr he hb hv hs => codeAny_mono (F.run A outer s H args us vs Q E hr he hb hv hs) fun _ _ q => q.1⟩
theorem fn_up {CX : CXT} {P : Program} {w : World} {K : PySem.W.Frag} {mg : Str → Option Value} {base : Heap} {k : Nat} {f : Addr} {name qual : Str} {params : Arguments} {body : List Stmt} {scope : Scope} {dV kV doc pm cdv ct oc : Value} {an od : Option Addr}
    {osl : Array (Option Value)} {N ps : List Str} {sp : Sp} (lk : K.lookup f = some ⟨oc, od, .func (PySem.W.fnOf name qual params body scope dV kV doc pm an cdv ct), osl⟩) (hcd : PySem.W.codeIn K cdv qual = true) (S : FnScope N ps scope)
    (len : ∀ vs H Q E, sp vs H Q E → vs.length = ps.length)
    (hbody : ∀ (A : Around) (outer : List Env) (s : Shared) (H : Hp) (vs : List V) (Q : VK) (E : XK), Room k (A.deeper (envOfC qual scope s.heap.objs.size f cdv)) → sp vs H Q E →
      ∃ t, PSsu (cxOf CX P w K mg base N qual scope f cdv A outer s H E) body t ∧ t { nx := fun _ H' => Q .non H', rt := Q } (start N vs) H) :
    FnUp P w K mg base CX (k + 1) f (PySem.W.fnOf name qual params body scope dV kV doc pm an cdv ct) ps sp := by
  refine ⟨len, fun A outer s H args us vs Q E hr e0 hb r hsp => ?_⟩
  have hl := len _ _ _ _ hsp
  have KX : K.In s.heap := e0.mod.kin.keeps fun b o e => (e0.bs b o e).1
  have lim : s.heap.NoLimit := e0.mod.nolimit.keeps fun b o e => (e0.bs b o e).1
  have hkind : ∀ y ∈ ps.zip us, scope.names.lookup y.1 = some .local ∨ (scope.names.lookup y.1 = some .cell ∧ ((cellsFrom (s.heap.objs.size + 1) scope.names []).lookup y.1).isSome = true) := fun ⟨n, v⟩ hy => by
    rcases S.par n (List.of_mem_zip hy).1 with q | q
    · exact .inl q
    · exact .inr ⟨q, PySem.W.cellsFrom_some _ _ _ (.inl q)⟩
  refine codeAny_call_function hr.depth (KX _ _ lk) rfl S.co S.gen rfl (PySem.W.codeRec_of KX hcd) (hb _ _ _ _ ?_)
  refine wpAny_newFunctionEnv_cells S.kind hkind fun env he s1 x => ?_
  subst he
  refine ⟨lim.keeps x.toInCall.keep, codeAny_func ?_⟩
  obtain ⟨t, ht, hq⟩ := hbody A outer s H vs Q E (hr.deeper _) hsp
  have I : Inv (cxOf CX P w K mg base N qual scope f cdv A outer s H E) [] (start N vs) H s1 := inv_start S hr.hd e0 hl r x
  refine wpAny_mono (ht [] s1 (start N vs) H _ I hq) (fun fl s' hs => ?_) fun e s' hs => wpAny_mono hs (fun _ _ q => ⟨q, fun _ z => nomatch z⟩) fun _ _ q => ⟨q, fun _ z => nomatch z⟩
  obtain ⟨hs, hk⟩ := hs
  have fin : ∀ {σ' : St} {H' : Hp} {v : V} {u : Value}, Inv (cxOf CX P w K mg base N qual scope f cdv A outer s H E) [] σ' H' s' → RelV v u → Q v H' → CE outer P w H s Q u s' :=
    fun {σ' H' v u} J rv q => ⟨v, H', J.os, J.bare, J.base, J.hok, rv, q⟩
  cases fl with
  | ret u =>
    obtain ⟨v, σ', H', J, rv, q⟩ := hs
    exact ⟨fin J rv q, fun _ _ => hk⟩
  | next =>
    obtain ⟨σ', H', J, q⟩ := hs
    exact ⟨fin (v := V.non) (u := Value.none) J rfl q, fun _ _ => hk⟩
  | brk =>
    obtain ⟨_, _, _, q⟩ := hs
    exact False.elim q
  | cont =>
    obtain ⟨_, _, _, q⟩ := hs
    exact False.elim q
theorem fn_pos {CX : CXT} {P : Program} {w : World} {K : PySem.W.Frag} {mg : Str → Option Value} {base : Heap} {k : Nat} {f : Addr} {name qual : Str} {params : Arguments} {body : List Stmt} {scope : Scope} {dV kV doc pm cdv ct oc : Value} {an od : Option Addr}
    {osl : Array (Option Value)} {N ps : List Str} {sp : Sp} (lk : K.lookup f = some ⟨oc, od, .func (PySem.W.fnOf name qual params body scope dV kV doc pm an cdv ct), osl⟩) (hcd : PySem.W.codeIn K cdv qual = true) (S : FnScope N ps scope)
    (len : ∀ vs H Q E, sp vs H Q E → vs.length = ps.length)
    (hbody : ∀ (A : Around) (outer : List Env) (s : Shared) (H : Hp) (vs : List V) (Q : VK) (E : XK), Room k (A.deeper (envOfC qual scope s.heap.objs.size f cdv)) → sp vs H Q E →
      ∃ t, PSsp (cxOf CX P w K mg base N qual scope f cdv A outer s H E) body t ∧ t { nx := fun _ H' => Q .non H', rt := Q } (start N vs) H) :
    FnPos P w K mg base CX (k + 1) f (PySem.W.fnOf name qual params body scope dV kV doc pm an cdv ct) ps sp := by
  refine ⟨len, fun A outer s H args us vs Q E tk hr e0 hb r hsp => ?_⟩
  have hl := len _ _ _ _ hsp
  have KX : K.In s.heap := e0.mod.kin.keeps fun b o e => (e0.bs b o e).1
  have lim : s.heap.NoLimit := e0.mod.nolimit.keeps fun b o e => (e0.bs b o e).1
  have hkind : ∀ y ∈ ps.zip us, scope.names.lookup y.1 = some .local ∨ (scope.names.lookup y.1 = some .cell ∧ ((cellsFrom (s.heap.objs.size + 1) scope.names []).lookup y.1).isSome = true) := fun ⟨n, v⟩ hy => by
    rcases S.par n (List.of_mem_zip hy).1 with q | q
    · exact .inl q
    · exact .inr ⟨q, PySem.W.cellsFrom_some _ _ _ (.inl q)⟩
  refine codeAny_call_function hr.depth (KX _ _ lk) rfl S.co S.gen rfl (PySem.W.codeRec_of KX hcd) (hb _ _ _ _ ?_)
  refine wpAny_tk tk ?_
  refine wpAny_newFunctionEnv_cells S.kind hkind fun env he s1 x tk1 => ?_
  subst he
  refine ⟨lim.keeps x.toInCall.keep, codeAny_func ?_⟩
  obtain ⟨t, ht, hq⟩ := hbody A outer s H vs Q E (hr.deeper _) hsp
  have I : Inv (cxOf CX P w K mg base N qual scope f cdv A outer s H E) [] (start N vs) H s1 := inv_start S hr.hd e0 hl r x
  refine wpAny_mono (ht [] s1 (start N vs) H _ tk1 I hq) (fun fl s' hs => ?_) fun e s' hs => hs
  have fin : ∀ {σ' : St} {H' : Hp} {v : V} {u : Value}, Inv (cxOf CX P w K mg base N qual scope f cdv A outer s H E) [] σ' H' s' → RelV v u → Q v H' → CE outer P w H s Q u s' :=
    fun {σ' H' v u} J rv q => ⟨v, H', J.os, J.bare, J.base, J.hok, rv, q⟩
  cases fl with
  | ret u =>
    obtain ⟨v, σ', H', J, rv, q⟩ := hs
    exact fin J rv q
  | next =>
    obtain ⟨σ', H', J, q⟩ := hs
    exact fin (v := V.non) (u := Value.none) J rfl q
  | brk =>
    obtain ⟨_, _, _, q⟩ := hs
    exact False.elim q
  | cont =>
    obtain ⟨_, _, _, q⟩ := hs
    exact False.elim q
section
variable {P : Program} {w : World} {K : PySem.W.Frag} {mg : Str → Option Value} {base : Heap} {x qual : Str} {st : Stmt} {f : Addr} {fd : FuncData} {N ps : List Str} {k : Nat} {sp : Sp}
theorem Inv.nox {X : Cx} {pins : List (Addr × Obj)} {σ : St} {H : Hp} {s : Shared} (I : Inv X pins σ H s) : Inv X.nox pins σ H s := I.wish _
theorem PSsu.nox {X : Cx} {sts : List Stmt} {t : TS} (h : PSsu X.nox sts t) : PSsu X sts t := fun pins s σ H D I hw =>
  wpAny_mono (h pins s σ H D (I.wish _) hw) (fun _ _ q => ⟨q.1.unwish, q.2⟩) fun _ _ z => False.elim z
theorem PSsp.nox {X : Cx} {sts : List Stmt} {t : TS} (h : PSsp X.nox sts t) : PSsp X sts t := fun pins s σ H D k I hw =>
  wpAny_mono (h pins s σ H D k (I.wish _) hw) (fun _ _ q => q.unwish) fun _ _ z => False.elim z
theorem Fun.up (F : Fun K x qual st f fd) (S : FnScope N ps (defScope st)) (len : ∀ vs H Q E, sp vs H Q E → vs.length = ps.length)
    (hbody : ∀ (cdv : Value) (A : Around) (outer : List Env) (s : Shared) (H : Hp) (vs : List V) (Q : VK) (E : XK), Room k (A.deeper (envOfC qual (defScope st) s.heap.objs.size f cdv)) → sp vs H Q E →
      ∃ t, PSsu (cxOf CX0 P w K mg base N qual (defScope st) f cdv A outer s H E).nox (defBody st) t ∧ t { nx := fun _ H' => Q .non H', rt := Q } (start N vs) H) : FnUp P w K mg base CX0 (k + 1) f fd ps sp := by
  obtain ⟨oc, od, kV, doc, pm, an, cdv, ct, osl, rfl, lk, hcd⟩ := F.ex
  refine fn_up lk hcd S len fun A outer s H vs Q E hr hsp => ?_
  obtain ⟨t, h, q⟩ := hbody cdv A outer s H vs Q E hr hsp
  exact ⟨t, h.nox, q⟩
theorem Fun.upX (F : Fun K x qual st f fd) (S : FnScope N ps (defScope st)) (len : ∀ vs H Q E, sp vs H Q E → vs.length = ps.length)
    (hbody : ∀ (cdv : Value) (A : Around) (outer : List Env) (s : Shared) (H : Hp) (vs : List V) (Q : VK) (E : XK), Room k (A.deeper (envOfC qual (defScope st) s.heap.objs.size f cdv)) → sp vs H Q E →
      ∃ t, PSsu (cxOf (CXe P w) P w K mg base N qual (defScope st) f cdv A outer s H E) (defBody st) t ∧ t { nx := fun _ H' => Q .non H', rt := Q } (start N vs) H) : FnUp P w K mg base (CXe P w) (k + 1) f fd ps sp := by
  obtain ⟨oc, od, kV, doc, pm, an, cdv, ct, osl, rfl, lk, hcd⟩ := F.ex
  exact fn_up lk hcd S len fun A outer s H vs Q E hr hsp => hbody cdv A outer s H vs Q E hr hsp
theorem Fun.pos (F : Fun K x qual st f fd) (S : FnScope N ps (defScope st)) (len : ∀ vs H Q E, sp vs H Q E → vs.length = ps.length)
    (hbody : ∀ (cdv : Value) (A : Around) (outer : List Env) (s : Shared) (H : Hp) (vs : List V) (Q : VK) (E : XK), Room k (A.deeper (envOfC qual (defScope st) s.heap.objs.size f cdv)) → sp vs H Q E →
      ∃ t, PSsp (cxOf CX0 P w K mg base N qual (defScope st) f cdv A outer s H E).nox (defBody st) t ∧ t { nx := fun _ H' => Q .non H', rt := Q } (start N vs) H) : FnPos P w K mg base CX0 (k + 1) f fd ps sp := by
  obtain ⟨oc, od, kV, doc, pm, an, cdv, ct, osl, rfl, lk, hcd⟩ := F.ex
  refine fn_pos lk hcd S len fun A outer s H vs Q E hr hsp => ?_
  obtain ⟨t, h, q⟩ := hbody cdv A outer s H vs Q E hr hsp
  exact ⟨t, h.nox, q⟩
end
section
variable {X : Cx} {CX : CXT} {k : Nat} {f C : Addr} {fd : FuncData} {ps : List Str} {sp : Sp} {dvs : List V} {ds : List Value} {E : XK} {x m : Str} {p pos apos : Pos} {e o : Expr} {es : List Expr} {ta : TE} {t : TA}
theorem peu_call (F : FnUp X.prog X.w X.K X.mg X.base CX k f fd ps sp) (hr : Room k X.A) (hg : Gl X x) (hm : X.mg x = some (.ref f)) (hk : PySem.W.keepIn X.K (.ref f) = true) (hb : Binds X.K fd ps ds) (hd : Vals dvs ds) (hx : Passes CX X E)
    (ha : PA X (e :: es) t) (hdb : (x == ("__debug__" : Str)) = false := by decide) (he : starEach (e :: es) X.env = (false, eval e X.env) :: starEach es X.env := by rfl) (hpl : (backTo pos (starEach es X.env)).any (·.1) = false := by rfl) :
    PEu X (.Call (.Name x p) (e :: es) [] pos) (tCall sp dvs E t) := by
  intro pins s σ H Q I h
  refine wpAny_Call_Name_kw (ld_glob I hg hm ?_ hdb)
  refine PySem.W.callWith_K (h₀ := X.base) I.ok.mod.kin hk (thn (ha pos pins s σ H _ I h) fun us s1 ⟨vs, H1, I1, r, q⟩ => ⟨I1.kIn, ?_⟩) he hpl
  have r2 : Vals (vs ++ dvs) (us ++ ds) := r.append hd
  have hl : (us ++ ds).length = ps.length := by rw [← r2.length]; exact F.len _ _ _ _ q
  refine wpAny_call (codeAny_mono (F.run X.A X.stack s1 H1 ⟨us, []⟩ (us ++ ds) (vs ++ dvs) Q E hr I1.env0 (hb s1 us I1.kIn hl) r2 q) fun r s' hq => ?_)
  obtain ⟨hq, hk⟩ := hq
  cases r with
  | error e => exact hx pins σ H1 s1 e s' I1 hq
  | ok fl =>
    cases fl with
    | ret u => exact ⟨I1.after hq, hk _ rfl⟩
    | next => exact False.elim hq
    | brk => exact False.elim hq
    | cont => exact False.elim hq
theorem pep_call (F : FnPos X.prog X.w X.K X.mg X.base CX k f fd ps sp) (hr : Room k X.A) (hg : Gl X x) (hm : X.mg x = some (.ref f)) (hk : PySem.W.keepIn X.K (.ref f) = true) (hb : Binds X.K fd ps ds) (hd : Vals dvs ds) (hx : Passes CX X E)
    (ha : PA X (e :: es) t) (hdb : (x == ("__debug__" : Str)) = false := by decide) (he : starEach (e :: es) X.env = (false, eval e X.env) :: starEach es X.env := by rfl) (hpl : (backTo pos (starEach es X.env)).any (·.1) = false := by rfl) :
    PEp X (.Call (.Name x p) (e :: es) [] pos) (tCall sp dvs E t) := by
  intro pins s σ H Q tk I h
  refine wpAny_Call_Name_kw (ld_glob I hg hm ?_ hdb)
  refine PySem.W.callWith_K (h₀ := X.base) I.ok.mod.kin hk (thn (wpAny_up tk (ha pos pins s σ H _ I h)) fun us s1 ⟨⟨vs, H1, I1, r, q⟩, tk1⟩ => ⟨I1.kIn, ?_⟩) he hpl
  have r2 : Vals (vs ++ dvs) (us ++ ds) := r.append hd
  have hl : (us ++ ds).length = ps.length := by rw [← r2.length]; exact F.len _ _ _ _ q
  refine wpAny_call (codeAny_mono (F.run X.A X.stack s1 H1 ⟨us, []⟩ (us ++ ds) (vs ++ dvs) Q E tk1 hr I1.env0 (hb s1 us I1.kIn hl) r2 q) fun r s' hq => ?_)
  cases r with
  | error e => exact hx pins σ H1 s1 e s' I1 hq
  | ok fl =>
    cases fl with
    | ret u => exact I1.after hq
    | next => exact False.elim hq
    | brk => exact False.elim hq
    | cont => exact False.elim hq
end
end L2
set_option Elab.async false
set_option linter.all false
set_option maxRecDepth 100000
namespace L2
open PySem PySem.Spec PyProof.Rows
section
variable {X : Cx} {e es : Expr} {te ts : TE} {pos p2 : Pos}
def revS (z : Str) : Str := ⟨(cds z).reverse.toArray⟩
theorem cds_rev (z : Str) : cds (revS z) = (cds z).reverse := rfl
theorem revS_len (z : Str) : (revS z).length = z.length := by rw [← cds_len, cds_rev, List.length_reverse, cds_len]
theorem sliceBy_rev (z : Str) (u : Tok) : Txt.sliceBy z none none (-1, u) = revS z := by
  refine str_ext ?_
  show (Txt.sliceBy z none none (-1, u)).cps.toList = _
  rw [step_rev_list, cds_rev]
  refine List.ext_getElem (by simp [cds_len, cds, Str.length]) fun i h1 h2 => ?_
  simp only [List.length_map, List.length_range] at h1
  have h3 : z.length - 1 - i < z.cps.size := by show _ < z.length; omega
  have h4 : z.cps.size - 1 - i < z.cps.size := h3
  simp [Array.getD, h4, cds, Str.length]
def tRevS (te ts : TE) : TE := fun σ H Q => te σ H fun x H1 => ts σ H1 fun y H2 => ∃ z, x = .str z ∧ y = .int (-1) ∧ z.length ≤ sizeLine ∧ Q (.str (revS z)) H2
theorem pe_revS (he : PE X e te) (hs : PE X es ts) : PE X (.Subscript e (.Slice none none (some es) p2) pos) (tRevS te ts) := by
  intro pins s σ H Q I h
  refine Subscript_ (thn (he pins s σ H _ I h) fun v s1 ⟨x, H1, I1, r1, q1⟩ => ?_)
  refine wpAny_Slice ?_
  rw [evalPart_none]
  refine wpAny_pure (wpAny_pure ?_)
  rw [evalPart_some]
  refine thn (hs pins s1 σ H1 _ I1 q1) fun w s2 ⟨y, H2, I2, r2, z, ex, ey, hz, q⟩ => ?_
  subst ex ey
  obtain ⟨t, rfl⟩ := r1
  obtain ⟨t2, rfl⟩ := r2
  have I4 : Inv X pins σ H2 { s2 with heap := s2.heap.push { cls := .type "slice", data := .fields #[.none, .none, .int (-1) t2] } } := I2.kept (t' := s2.toks) fun b ob q => Heap.get?_push_of_some _ q
  refine tail_any (ops := [.ref s2.heap.objs.size, .str z t]) (typeIs_str _ _ _) F.slot_str_getitem.lookup ?_ (by with_unfolding_all rfl)
  refine wpAny_getItem_str_slice (l := none) (u := none) (st := some (-1, t2)) ⟨_, Heap.get?_push_size _ rfl, rfl, rfl⟩ rfl ?_
  refine post_val_or_str ?_
  have e1 := sliceBy_rev z t2
  unfold Txt.sliceBy at e1
  rw [e1]
  exact ⟨by rw [revS_len]; exact hz, fun t' k => ⟨.str _, H2, I4.tok k, ⟨_, rfl⟩, q⟩⟩
def tRevL (K : PySem.W.Frag) (te ts : TE) : TE := fun σ H Q => te σ H fun x H1 => ts σ H1 fun y H2 => ∃ a xs, x = .ref a ∧ y = .int (-1) ∧ SqL K H2 a xs ∧ ∀ p, H2 p = none → Q (.ref p) (upd H2 p (.lst xs.reverse))
theorem signs_vals (z : Str) : ∀ (cs : List Nat) (its : List Value) (i : Nat), (∀ j c, cs[j]? = some c → z.cps[i + j]? = some c) → cs.length = its.length → (∀ j v, its[j]? = some v → SignAt z (i + j) v) → Vals (cs.map fun c => V.str ⟨#[c]⟩) its
  | [], [], _, _, _, _ => .nil
  | [], _ :: _, _, _, h, _ => by simp at h
  | _ :: _, [], _, _, h, _ => by simp at h
  | c :: cs, v :: its, i, hc, hl, hv => by
    refine .cons ?_ (signs_vals z cs its (i + 1) (fun j d hd => ?_) (by simpa using hl) fun j u hu => ?_)
    · obtain ⟨d, t, hd, rfl⟩ := hv 0 v rfl
      have := hc 0 c rfl
      rw [this] at hd
      cases hd
      exact ⟨t, rfl⟩
    · have := hc (j + 1) d (by simpa using hd)
      rw [show i + 1 + j = i + (j + 1) by omega]; exact this
    · have := hv (j + 1) u (by simpa using hu)
      rw [show i + 1 + j = i + (j + 1) by omega]; exact this
theorem call_list_strL (hc : X.calm = true) : CallR X (.type "list") (fun xs H Q => ∃ z, xs = [.str z] ∧ z.length ≤ sizeLine ∧ ∀ l, H l = none → Q (.ref l) (upd H l (.lst ((cds z).map fun c => V.str ⟨#[c]⟩)))) := by
  intro pins s σ H xs us Q I r h
  obtain ⟨z, rfl, hz, q⟩ := h
  obtain ⟨u, rfl, rx⟩ := vals1 r
  obtain ⟨t, rfl⟩ := rx
  refine PySem.call_list_str (I.ok.hd hc) z t (fun h' tk acc' c' kp e hi => ?_) hz
  have hv : Vals ((cds z).map fun c => V.str ⟨#[c]⟩) acc'.toList := signs_vals z (cds z) acc'.toList 0 (fun j c hj => by rw [Nat.zero_add, ← hj]; simp [cds]) (by
    have := hi.1
    rw [Array.length_toList]; exact this.symm) fun j v hj => by
      rw [Nat.zero_add]; exact hi.2 j v (by simpa using hj)
  exact ⟨.ref s.heap.objs.size, _, I.laid (t' := tk) kp (Nat.le_refl _) (show ObjOk X.prog X.w _ h' _ (.lst _) from ⟨by rw [List.length_map, cds_len]; exact hz, acc'.toList, c', hv, e⟩), rfl, q _ (I.hok.fresh (Nat.le_refl _))⟩
def rInsert : V → List V → Hp → VK → Prop := fun x vs H Q => ∃ l xs k y, x = .ref l ∧ vs = [.int k, y] ∧ H l = some (.lst xs) ∧ 0 ≤ k ∧ k ≤ xs.length ∧ xs.length < sizeLine ∧ Q .non (upd H l (.lst (xs.take k.toNat ++ y :: xs.drop k.toNat)))
theorem mt_insert : MtM X "list.insert" rInsert := by
  intro pins s σ H x vs v us Q I rx rv h
  obtain ⟨l, xs, k, y, rfl, rfl, hH, hk0, hk1, hz, q⟩ := h
  cases rx
  obtain ⟨u, w', rfl, ru, rw'⟩ := rv.two
  obtain ⟨t, rfl⟩ := ru
  obtain ⟨z, its, n, r, hl, e⟩ := I.lstM hH
  have big : sizeLine = 16777216 := sizeLine_eq
  refine call_meets F.slot_list_insert ⟨_, e, rfl⟩ F.entry_list_insert (F.args_list_insert_3 _ _ _) (AutoListH.list_insert_list_int_val_1 l its.toArray n k t w' (by
    rw [fitsIndex_both (by omega) (by omega)]; decide) (by rw [List.size_toArray]; omega)) ⟨e, ?_⟩
  refine ⟨.non, _, I.lset (its' := its.take k.toNat ++ w' :: its.drop k.toNat) (t' := s.toks) hH e ?_ ((r.take _).append (.cons rw' (r.drop _))) ?_, rfl, q⟩
  · dsimp only
    rw [if_neg (by omega), List.size_toArray, Nat.min_eq_left (by omega)]
    apply Array.ext'
    simp
    exact List.take_of_length_le (by rw [List.length_drop]; omega)
  · rw [List.length_append, List.length_take, List.length_cons, List.length_drop]
    omega
end
end L2
set_option Elab.async false
set_option linter.all false
set_option maxRecDepth 100000
namespace HT
open PySem PyProof.Rows
/-- t > u of tuples of ints -/
def lexGt : List Int → List Int → Bool
  | [], [] => false
  | [], _ :: _ => false
  | _ :: _, [] => true
  | x :: xs, y :: ys => if x = y then lexGt xs ys else decide (y < x)
theorem lexGt_cons (x y : Int) (xs ys : List Int) : lexGt (x :: xs) (y :: ys) = if x = y then lexGt xs ys else decide (y < x) := rfl
theorem lexGt_nil_nil : lexGt [] [] = false := rfl
theorem lexGt_nil_cons (y : Int) (ys : List Int) : lexGt [] (y :: ys) = false := rfl
theorem lexGt_cons_nil (x : Int) (xs : List Int) : lexGt (x :: xs) [] = true := rfl
theorem rcGt_int (A : Around) (s : Shared) (a : Int) (t : Tok) (c : Int) (u : Tok) (prog : Program) (w : World) (E : Value → Shared → Prop) (Q : Value → Shared → Prop) (h : Q (.bool (decide (c < a))) s) :
    wpAny (model prog w) A (richCompare .Gt (.int a t) (.int c u)) Q E s :=
  (PyProof.Rows.gt_int h : wpAny (model prog w) A (compareOp .Gt (.int a t) (.int c u)) Q E s)
section
open PySem.SeqAt
open PySem.AutoSeq1 (wpAny_loadPart')
open PySem.MeetsSeq PySem.MeetsSeq2 PySem.MeetsSeq3
theorem tuple_gt_ints (l b : Addr) (items items2 : Array Value) (n n2 : Nat) (dd dd2 : Option Addr) (sl sl2 : Array (Option Value)) (ns ms : List Int) (hi : IntsAre items.toList ns) (hj : IntsAre items2.toList ms) :
    Meets (Builtin.«tuple.__gt__» ⟨[.ref l, .ref b], []⟩)
      (fun _ R s => s.heap.get? l = some { cls := .type "tuple", dict := dd, data := .seq items n, slots := sl } ∧ s.heap.get? b = some { cls := .type "tuple", dict := dd2, data := .seq items2 n2, slots := sl2 } ∧
        R (.ok (.ret (.bool (lexGt ns ms)))) s) :=
  .of_wp fun prog w A R s h => by
    obtain ⟨hp, g, d, tk, os⟩ := s; obtain ⟨hl, hb, h⟩ := h
    have f2 := AutoSeq1.sub_tuple_tuple
    have z1 : items.size = ns.length := by rw [← hi.length]; simp
    have z2 : items2.size = ms.length := by rw [← hj.length]; simp
    wp_walk using wpAny_loadPart' hl, wpAny_loadPart' hb, wpAny_forIn_list _ (fun rest b s' => b.1 = none ∧ s' = ⟨hp, g, d, tk, os⟩ ∧ ∃ (vs ws : List Value) (ns' ms' : List Int), rest = vs.zip ws ∧
      IntsAre vs ns' ∧ IntsAre ws ms' ∧ ns'.length + items2.size = ms'.length + items.size ∧ R (.ok (.ret (.bool (lexGt ns' ms')))) ⟨hp, g, d, tk, os⟩) _
    case turn =>
      rintro ⟨y, x⟩ rest b s' ⟨hb', rfl, vs, ws, ns', ms', hz, hvi, hwi, hlen, hR⟩
      cases hvi with
      | nil => rw [List.zip_nil_left] at hz; cases hz
      | cons a t hvi' =>
        cases hwi with
        | nil => rw [List.zip_nil_right] at hz; cases hz
        | cons c u hwi' =>
          rw [List.zip_cons_cons] at hz
          injection hz with hyx hrest
          injection hyx with hy hx
          subst hy hx
          rw [lexGt_cons] at hR
          simp only [List.length_cons] at hlen
          obtain ⟨e, he, hiff⟩ := HT.eqAt_int A.in1 ⟨hp, g, d, tk, os⟩ a t c u
          refine wpAny_bind (he prog w _ _ ?_)
          cases e with
          | true =>
            rw [if_pos (hiff.mp rfl)] at hR
            wp_walk
            exact ⟨rfl, rfl, _, _, _, _, hrest, hvi', hwi', by omega, hR⟩
          | false =>
            rw [if_neg (fun q => absurd (hiff.mpr q) Bool.false_ne_true)] at hR
            have hri := rcGt_int A.in1 ⟨hp, g, d, tk, os⟩ a t c u prog w
            wp_walk using hri
            exact ⟨_, rfl, by simpa using hR⟩
    case fin =>
      rintro ⟨b1, b2⟩ s' ⟨hb', rfl, vs, ws, ns', ms', hz, hvi, hwi, hlen, hR⟩
      simp only at hb'
      subst hb'
      have hv : lexGt ns' ms' = decide (items2.size < items.size) := by
        cases hvi with
        | nil =>
          cases hwi with
          | nil =>
            simp only [List.length_nil] at hlen
            rw [lexGt_nil_nil]
            exact (decide_eq_false (by omega)).symm
          | cons c u hw =>
            simp only [List.length_nil, List.length_cons] at hlen
            rw [lexGt_nil_cons]
            exact (decide_eq_false (by omega)).symm
        | cons a t hv =>
          cases hwi with
          | nil =>
            simp only [List.length_nil, List.length_cons] at hlen
            rw [lexGt_cons_nil]
            exact (decide_eq_true (by omega)).symm
          | cons c u hw =>
            rw [List.zip_cons_cons] at hz
            cases hz
      rw [hv] at hR
      wp_walk
      exact ⟨_, rfl, by simpa [Builtin.Tuple.tupleCompareSizes] using hR⟩
    case h =>
      exact ⟨rfl, rfl, items.toList, items2.toList, ns, ms, rfl, hi, hj, by omega, h⟩
end
section
variable {prog : Program} {w : World} {A : Around} {E : Value → Shared → Prop} {s : Shared}
theorem gt_tupInts {l b : Addr} {items items2 : Array Value} {ns ms : List Int} {Q : Value → Shared → Prop} (hl : IsTup s.heap l items) (hb : IsTup s.heap b items2) (hi : IntsAre items.toList ns) (hj : IntsAre items2.toList ms)
    (hu : A.units < cLine) (h : Q (.bool (lexGt ns ms)) s) : wpAny (model prog w) A (compareOp .Gt (.ref l) (.ref b)) Q E s := by
  obtain ⟨⟨cls, dd, data, sl⟩, ho, hc, n, hd⟩ := id hl
  obtain ⟨⟨cls2, dd2, data2, sl2⟩, ho2, hc2, n2, hd2⟩ := id hb
  simp only at hc hd hc2 hd2
  subst hc hd hc2 hd2
  exact richCompare_meets_room (op := .Gt) ⟨_, ho, rfl⟩ ⟨_, ho2, rfl⟩ PySem.F.slot_tuple_gt PySem.F.entry_tuple_gt (PySem.F.args_tuple_gt_2 _ _) (tuple_gt_ints l b items items2 n n2 dd dd2 sl sl2 ns ms hi hj)
    ⟨ho, ho2, show Value.bool (lexGt ns ms) ≠ Value.notImplemented ∧ Q (.bool (lexGt ns ms)) s from ⟨(fun x => nomatch x), h⟩⟩ hu
end
end HT
namespace L2
open PySem PySem.Spec PyProof.Rows
def rGtT (K : PySem.W.Frag) : R2 := fun x y H Q => ∃ a b ns ms, x = .ref a ∧ y = .ref b ∧ SqT K H a (ns.map V.int) ∧ SqT K H b (ms.map V.int) ∧ Q (.bl (HT.lexGt ns ms)) H
theorem op_gtT {X : Cx} (hu : X.A.units < cLine) : OpR X (compareOp .Gt) (rGtT X.K) := by
  intro pins s σ H x y v u Q I rx ry h
  obtain ⟨a, b, ns, ms, rfl, rfl, ha, hb, q⟩ := h
  cases rx
  cases ry
  obtain ⟨its, r1, p1, _⟩ := I.tuple ha
  obtain ⟨its2, r2, p2, _⟩ := I.tuple hb
  have i1 : IntsAre its.toArray.toList ns := intsAre_of r1
  have i2 : IntsAre its2.toArray.toList ms := intsAre_of r2
  exact HT.gt_tupInts p1 p2 i1 i2 hu ⟨.bl (HT.lexGt ns ms), H, I, rfl, q⟩
end L2
set_option Elab.async false
set_option linter.all false
set_option maxRecDepth 100000
namespace L2
open PySem PySem.Spec PyProof.Rows
def cmpOk : V → V → Bool
  | .ref a, .ref b => a == b
  | x, y => flatV x && flatV y
def valE : V → V → Bool
  | .ref _, .ref _ => true
  | x, y => eqV x y
theorem eqAt_E {A : Around} {s : Shared} {y x : V} {u v : Value} (ry : RelV y u) (rx : RelV x v) (h : cmpOk y x = true) : SeqAt.EqAt A s u v (valE y x) := by
  by_cases hr : ∃ a b, y = .ref a ∧ x = .ref b
  · obtain ⟨a, b, rfl, rfl⟩ := hr
    have e : a = b := by simpa [cmpOk] using h
    subst e
    cases ry
    cases rx
    exact SeqAt.EqAt.same _
  · have h1 : cmpOk y x = (flatV y && flatV x) := by
      cases y <;> cases x <;> first
        | rfl
        | exact absurd ⟨_, _, rfl, rfl⟩ hr
    have h2 : valE y x = eqV y x := by
      cases y <;> cases x <;> first
        | rfl
        | exact absurd ⟨_, _, rfl, rfl⟩ hr
    rw [h1, Bool.and_eq_true] at h
    rw [h2]
    exact eqAt_V ry rx h.1 h.2
def eqs : List V → List V → Bool
  | [], [] => true
  | x :: xs, y :: ys => valE x y && eqs xs ys
  | _, _ => false
theorem eqs_len : ∀ {xs ys : List V}, xs.length ≠ ys.length → eqs xs ys = false
  | [], [], h => absurd rfl h
  | [], _ :: _, _ => rfl
  | _ :: _, [], _ => rfl
  | x :: xs, y :: ys, h => by
    unfold eqs
    rw [eqs_len (xs := xs) (ys := ys) (fun z => h (by simp [z])), Bool.and_false]
theorem all_range_succ (n : Nat) (f : Nat → Bool) : (List.range (n + 1)).all f = (f 0 && (List.range n).all fun i => f (i + 1)) := by
  rw [List.range_succ_eq_map, List.all_cons, List.all_map]
  rfl
theorem eqs_range : ∀ {xs ys : List V}, xs.length = ys.length → (List.range xs.length).all (fun i => valE (xs.getD i .non) (ys.getD i .non)) = eqs xs ys
  | [], [], _ => rfl
  | [], _ :: _, h => by simp at h
  | _ :: _, [], h => by simp at h
  | x :: xs, y :: ys, h => by
    rw [List.length_cons, all_range_succ]
    have ih := eqs_range (xs := xs) (ys := ys) (by simpa using h)
    unfold eqs
    rw [← ih]
    rfl
def rCmpL (K : PySem.W.Frag) (neg : Bool) : R2 := fun x y H Q => ∃ (a b : Addr) (xs ys : List V), x = .ref a ∧ y = .ref b ∧ SqL K H a xs ∧ SqL K H b ys ∧ (∀ (i : Nat) u v, xs[i]? = some u → ys[i]? = some v → cmpOk u v = true) ∧ Q (.bl (if neg then !eqs xs ys else eqs xs ys)) H
section
variable {X : Cx}
theorem vals_eqAt {A : Around} {s : Shared} {xs ys : List V} {i1 i2 : List Value} (r1 : Vals xs i1) (r2 : Vals ys i2) (hc : ∀ (i : Nat) u v, xs[i]? = some u → ys[i]? = some v → cmpOk u v = true) :
    ∀ j (h1 : j < i1.toArray.size) (h2 : j < i2.toArray.size), SeqAt.EqAt A s i1.toArray[j] i2.toArray[j] (valE (xs.getD j .non) (ys.getD j .non)) := fun j h1 h2 => by
  have l1 := r1.length
  have l2 := r2.length
  simp only [List.size_toArray] at h1 h2
  have g1 : xs[j]? = some xs[j] := List.getElem?_eq_getElem (by omega)
  have g2 : ys[j]? = some ys[j] := List.getElem?_eq_getElem (by omega)
  obtain ⟨u, hu, ru⟩ := r1.get g1
  obtain ⟨v, hv, rv⟩ := r2.get g2
  have e1 : i1.toArray[j] = u := by
    have := List.getElem?_eq_getElem (l := i1) h1
    rw [hu] at this
    simpa using (Option.some.inj this).symm
  have e2 : i2.toArray[j] = v := by
    have := List.getElem?_eq_getElem (l := i2) h2
    rw [hv] at this
    simpa using (Option.some.inj this).symm
  rw [e1, e2, List.getD_eq_getElem?_getD, List.getD_eq_getElem?_getD, g1, g2]
  exact eqAt_E ru rv (hc j _ _ g1 g2)
theorem op_cmpL (hu : X.A.units < cLine) : OpR X (compareOp .Eq) (rCmpL X.K false) := by
  intro pins s σ H x y v u Q I rx ry h
  obtain ⟨a, b, xs, ys, rfl, rfl, ha, hb, hc, q⟩ := h
  cases rx
  cases ry
  obtain ⟨i1, r1, p1, _⟩ := I.list ha
  obtain ⟨i2, r2, p2, _⟩ := I.list hb
  have l1 := r1.length
  have l2 := r2.length
  by_cases hl : xs.length = ys.length
  · have hsz : i1.toArray.size = i2.toArray.size := by simp only [List.size_toArray]; omega
    refine SeqAt.RcAt.lists p1.isList p2.isList hsz hu (vals_eqAt r1 r2 hc) X.prog X.w _ _ ⟨.bl _, H, I, rfl, ?_⟩
    rw [List.size_toArray, ← l1, eqs_range hl]
    exact q
  · have hsz : (i1.toArray.size != i2.toArray.size) = true := by simp only [List.size_toArray, bne_iff_ne, ne_eq]; omega
    refine SeqAt.RcAt.lists_lengths p1.isList p2.isList hsz hu X.prog X.w _ _ ⟨.bl _, H, I, rfl, ?_⟩
    rw [eqs_len hl] at q
    exact q
theorem op_cmpNeL (hu : X.A.units < cLine) : OpR X (compareOp .NotEq) (rCmpL X.K true) := by
  intro pins s σ H x y v u Q I rx ry h
  obtain ⟨a, b, xs, ys, rfl, rfl, ha, hb, hc, q⟩ := h
  cases rx
  cases ry
  obtain ⟨i1, r1, p1, _⟩ := I.list ha
  obtain ⟨i2, r2, p2, _⟩ := I.list hb
  have l1 := r1.length
  have l2 := r2.length
  by_cases hl : xs.length = ys.length
  · have hsz : i1.toArray.size = i2.toArray.size := by simp only [List.size_toArray]; omega
    refine SeqAt.RcNeAt.lists p1.isList p2.isList hsz hu (vals_eqAt r1 r2 hc) X.prog X.w _ _ ⟨.bl _, H, I, rfl, ?_⟩
    rw [List.size_toArray, ← l1, eqs_range hl]
    exact q
  · have hsz : (i1.toArray.size != i2.toArray.size) = true := by simp only [List.size_toArray, bne_iff_ne, ne_eq]; omega
    refine SeqAt.RcNeAt.lists_lengths p1.isList p2.isList hsz hu X.prog X.w _ _ ⟨.bl _, H, I, rfl, ?_⟩
    rw [eqs_len hl] at q
    exact q
theorem op_ge_str : OpR X (compareOp .GtE) (fun x y H Q => ∃ i j, x = .str i ∧ y = .str j ∧ Q (.bl (!decide (cds i < cds j))) H) := by
  intro pins s σ H x y v u Q I rx ry h
  obtain ⟨i, j, rfl, rfl, q⟩ := h
  obtain ⟨t, rfl⟩ := rx
  obtain ⟨t', rfl⟩ := ry
  exact PySem.P.ge_str (fin_bl I q rfl)
end
end L2
set_option Elab.async false
set_option linter.all false
set_option maxRecDepth 100000
namespace L2
open PySem PySem.Spec PyProof.Rows
structure Mk0 (K : PySem.W.Frag) (C : Addr) : Prop where
  makes : PySem.W.makesIn K C = true
  init : PySem.W.findIn K (.ref C) "__init__" = some (some (.builtin "object.__init__"))
  mro : PySem.W.mroIn K C (.type "object") = some true
  kp : PySem.W.keepIn K (.ref C) = true
def tMake0 (C : Addr) : TE := fun _ H Q => ∀ x dx, H x = none → H dx = none → dx ≠ x → Q (.ref x) (upd (upd H dx (.own x)) x (.ins C dx []))
section
variable {X : Cx} {C : Addr} {x : Str} {p pos : Pos}
theorem pe_makeN (M : Mk0 X.K C) (hg : Gl X x) (hm : X.mg x = some (.ref C)) (hdb : (x == ("__debug__" : Str)) = false := by decide) : PE X (.Call (.Name x p) [] [] pos) (tMake0 C) := by
  intro pins s σ H Q I h
  refine wpAny_Call_Name_kw (ld_glob I hg hm ?_ hdb)
  refine PySem.W.callWith_K0 I.kIn M.kp ?_
  have hq := h (s.heap.objs.size + 1) s.heap.objs.size (I.hok.fresh (Nat.le_succ _)) (I.hok.fresh (Nat.le_refl _)) (Nat.ne_of_lt (Nat.lt_succ_self _))
  have I2 := Inv.made (C := C) I
  refine wpAny_call (make_map0 I.kIn M.makes M.init (fun self => PySem.W.Looks.of_pure (PySem.W.oi_bind self)) ?_)
  have Y := PySem.W.makes_of (M := model X.prog X.w) I.kIn M.makes
  have e2 : ((s.heap.push PySem.W.emptyDict).push (PySem.W.instObj C s.heap.objs.size)).get? (s.heap.objs.size + 1) = some (PySem.W.instObj C s.heap.objs.size) := by
    have := Heap.get?_push_size (s.heap.push PySem.W.emptyDict) (o := PySem.W.instObj C s.heap.objs.size) rfl
    rwa [Heap.size_push] at this
  have t1 : PySem.W.Looks (model X.prog X.w) ((s.heap.push PySem.W.emptyDict).push (PySem.W.instObj C s.heap.objs.size)) (typeOf (.ref (s.heap.objs.size + 1))) (.ref C) := (PySem.W.Looks.ld e2).andThen .now
  have t2 : PySem.W.Looks (model X.prog X.w) ((s.heap.push PySem.W.emptyDict).push (PySem.W.instObj C s.heap.objs.size)) (isInstance (.ref (s.heap.objs.size + 1)) (.type "object")) true := t1.andThen (Y.top.keeps fun b o e => Heap.get?_push_of_some _ (Heap.get?_push_of_some _ e))
  refine codeAny_call_builtin PySem.W.oi_plain PySem.W.entry_oi (@PySem.W.check_slot (model X.prog X.w) _ _ _ "object.__init__" "object" "__init__" (.ref (s.heap.objs.size + 1)) [] [] _ PySem.W.oi_kind PySem.W.oi_split t2 (PySem.W.oi_args (.ref (s.heap.objs.size + 1))) ?_)
  rw [PySem.W.oi_run]
  exact wpAny_pure (And.intro rfl ⟨.ref _, _, I2, rfl, hq⟩)
end
theorem PE.or {X : Cx} {e : Expr} {t u : TE} (h : PE X e t) (h' : PE X e u) : PE X e (fun σ H Q => t σ H Q ∨ u σ H Q) := fun pins s σ H Q I q => q.elim (h pins s σ H Q I) (h' pins s σ H Q I)
structure Kind (K : PySem.W.Frag) (C : Addr) : Prop where
  cl : Cls K C
  ca : PySem.W.findIn K (.ref C) "__class__" = some (some (.builtin "object.__class__"))
  gt : PySem.W.specialIn K (.builtin "object.__class__") "__get__" = some (some (.builtin "getset_descriptor.__get__"))
  tk : PySem.W.takesIn K (.builtin "object.__class__") = some true
  mo : PySem.W.mroIn K C (.type "object") = some true
theorem Kind.ty {K : PySem.W.Frag} {C : Addr} (k : Kind K C) {H : Hp} {a dx : Addr} {fs : List (Str × V)} (e : H a = some (.ins C dx fs)) : TyOf K H (.ref a) (.ref C) := .ins e k.cl k.ca k.gt k.tk k.mo
end L2
set_option Elab.async false
set_option linter.all false
set_option maxRecDepth 100000
namespace L2
open PySem PySem.Spec PyProof.Rows
structure Cal (P : Program) (w : World) (K : PySem.W.Frag) (mg : Str → Option Value) (base : Heap) (CX : CXT) (k : Nat) (x : Str) (f : Addr) (ps : List Str) (sp : Sp) : Prop where
  ex : ∃ fd, FnOk P w K mg base CX k f fd ps sp ∧ Binds K fd ps []
  kp : PySem.W.keepIn K (.ref f) = true
  at_ : mg x = some (.ref f)
structure CalU (P : Program) (w : World) (K : PySem.W.Frag) (mg : Str → Option Value) (base : Heap) (CX : CXT) (k : Nat) (x : Str) (f : Addr) (ps : List Str) (sp : Sp) : Prop where
  ex : ∃ fd, FnUp P w K mg base CX k f fd ps sp ∧ Binds K fd ps []
  kp : PySem.W.keepIn K (.ref f) = true
  at_ : mg x = some (.ref f)
structure CalP (P : Program) (w : World) (K : PySem.W.Frag) (mg : Str → Option Value) (base : Heap) (CX : CXT) (k : Nat) (x : Str) (f : Addr) (ps : List Str) (sp : Sp) : Prop where
  ex : ∃ fd, FnPos P w K mg base CX k f fd ps sp ∧ Binds K fd ps []
  kp : PySem.W.keepIn K (.ref f) = true
  at_ : mg x = some (.ref f)
theorem CalU.ok {P : Program} {w : World} {K : PySem.W.Frag} {mg : Str → Option Value} {base : Heap} {CX : CXT} {k : Nat} {x : Str} {f : Addr} {ps : List Str} {sp : Sp} (c : CalU P w K mg base CX k x f ps sp) : Cal P w K mg base CX k x f ps sp :=
  let ⟨⟨fd, F, b⟩, k, a⟩ := c; ⟨⟨fd, F.ok, b⟩, k, a⟩
/-- a def of the text as it stands behind the top, with its name -/
structure Def (K : PySem.W.Frag) (mg : Str → Option Value) (x : Str) (st : Stmt) (f : Addr) (ps : List Str) : Prop where
  ex : ∃ fd, Fun K x x st f fd ∧ Binds K fd ps []
  at_ : mg x = some (.ref f)
section
variable {P : Program} {w : World} {K : PySem.W.Frag} {mg : Str → Option Value} {base : Heap} {x : Str} {st : Stmt} {f : Addr} {N ps : List Str} {k : Nat} {sp : Sp}
theorem Def.ok (D : Def K mg x st f ps) (S : FnScope N ps (defScope st)) (len : ∀ vs H Q E, sp vs H Q E → vs.length = ps.length)
    (hbody : ∀ (cdv : Value) (A : Around) (outer : List Env) (s : Shared) (H : Hp) (vs : List V) (Q : VK) (E : XK), Room k (A.deeper (envOfC x (defScope st) s.heap.objs.size f cdv)) → sp vs H Q E →
      ∃ t, PSs (cxOf CX0 P w K mg base N x (defScope st) f cdv A outer s H E).nox (defBody st) t ∧ t { nx := fun _ H' => Q .non H', rt := Q } (start N vs) H) : Cal P w K mg base CX0 (k + 1) x f ps sp := by
  obtain ⟨⟨fd, F, b⟩, m⟩ := D
  exact ⟨⟨fd, F.ok S len hbody, b⟩, F.kp, m⟩
theorem Def.okX (D : Def K mg x st f ps) (S : FnScope N ps (defScope st)) (len : ∀ vs H Q E, sp vs H Q E → vs.length = ps.length)
    (hbody : ∀ (cdv : Value) (A : Around) (outer : List Env) (s : Shared) (H : Hp) (vs : List V) (Q : VK) (E : XK), Room k (A.deeper (envOfC x (defScope st) s.heap.objs.size f cdv)) → sp vs H Q E →
      ∃ t, PSs (cxOf (CXe P w) P w K mg base N x (defScope st) f cdv A outer s H E) (defBody st) t ∧ t { nx := fun _ H' => Q .non H', rt := Q } (start N vs) H) : Cal P w K mg base (CXe P w) (k + 1) x f ps sp := by
  obtain ⟨⟨fd, F, b⟩, m⟩ := D
  exact ⟨⟨fd, F.okX S len hbody, b⟩, F.kp, m⟩
theorem Def.up (D : Def K mg x st f ps) (S : FnScope N ps (defScope st)) (len : ∀ vs H Q E, sp vs H Q E → vs.length = ps.length)
    (hbody : ∀ (cdv : Value) (A : Around) (outer : List Env) (s : Shared) (H : Hp) (vs : List V) (Q : VK) (E : XK), Room k (A.deeper (envOfC x (defScope st) s.heap.objs.size f cdv)) → sp vs H Q E →
      ∃ t, PSsu (cxOf CX0 P w K mg base N x (defScope st) f cdv A outer s H E).nox (defBody st) t ∧ t { nx := fun _ H' => Q .non H', rt := Q } (start N vs) H) : CalU P w K mg base CX0 (k + 1) x f ps sp := by
  obtain ⟨⟨fd, F, b⟩, m⟩ := D
  exact ⟨⟨fd, F.up S len hbody, b⟩, F.kp, m⟩
theorem Def.upX (D : Def K mg x st f ps) (S : FnScope N ps (defScope st)) (len : ∀ vs H Q E, sp vs H Q E → vs.length = ps.length)
    (hbody : ∀ (cdv : Value) (A : Around) (outer : List Env) (s : Shared) (H : Hp) (vs : List V) (Q : VK) (E : XK), Room k (A.deeper (envOfC x (defScope st) s.heap.objs.size f cdv)) → sp vs H Q E →
      ∃ t, PSsu (cxOf (CXe P w) P w K mg base N x (defScope st) f cdv A outer s H E) (defBody st) t ∧ t { nx := fun _ H' => Q .non H', rt := Q } (start N vs) H) : CalU P w K mg base (CXe P w) (k + 1) x f ps sp := by
  obtain ⟨⟨fd, F, b⟩, m⟩ := D
  exact ⟨⟨fd, F.upX S len hbody, b⟩, F.kp, m⟩
theorem Def.pos (D : Def K mg x st f ps) (S : FnScope N ps (defScope st)) (len : ∀ vs H Q E, sp vs H Q E → vs.length = ps.length)
    (hbody : ∀ (cdv : Value) (A : Around) (outer : List Env) (s : Shared) (H : Hp) (vs : List V) (Q : VK) (E : XK), Room k (A.deeper (envOfC x (defScope st) s.heap.objs.size f cdv)) → sp vs H Q E →
      ∃ t, PSsp (cxOf CX0 P w K mg base N x (defScope st) f cdv A outer s H E).nox (defBody st) t ∧ t { nx := fun _ H' => Q .non H', rt := Q } (start N vs) H) : CalP P w K mg base CX0 (k + 1) x f ps sp := by
  obtain ⟨⟨fd, F, b⟩, m⟩ := D
  exact ⟨⟨fd, F.pos S len hbody, b⟩, F.kp, m⟩
end
/-- a method, an __init__ -/
structure CalM (P : Program) (w : World) (K : PySem.W.Frag) (mg : Str → Option Value) (base : Heap) (C : Addr) (k : Nat) (m : Str) (ps : List Str) (sp : Sp) : Prop where
  ex : ∃ f fd, Meth K C m f ∧ FnOk P w K mg base CX0 k f fd ps sp ∧ Binds K fd ps []
  cl : Cls K C
structure CalI (P : Program) (w : World) (K : PySem.W.Frag) (mg : Str → Option Value) (base : Heap) (x : Str) (C : Addr) (k : Nat) (ps : List Str) (sp : Sp) : Prop where
  ex : ∃ f fd, Mk K C f ∧ FnOk P w K mg base CX0 k f fd ps sp ∧ Binds K fd ps []
  at_ : mg x = some (.ref C)
theorem passN {P : Program} {w : World} {X : Cx} : Passes (CXe P w) X E0 := fun _ _ _ _ _ _ _ h => by
  obtain ⟨_, _, _, _, _, _, _, _, _, z⟩ := h
  exact z.elim
section
variable {X : Cx} {CX : CXT} {k : Nat} {f C : Addr} {ps : List Str} {sp : Sp} {E : XK} {x m : Str} {p pos apos : Pos} {e o : Expr} {es : List Expr} {ta : TE} {t : TA}
theorem pe_callC (G : Cal X.prog X.w X.K X.mg X.base CX k x f ps sp) (hr : Room k X.A) (hg : Gl X x) (hx : Passes CX X E)
    (ha : PA X (e :: es) t) (hdb : (x == ("__debug__" : Str)) = false := by decide) (he : starEach (e :: es) X.env = (false, eval e X.env) :: starEach es X.env := by rfl) (hpl : (backTo pos (starEach es X.env)).any (·.1) = false := by rfl) :
    PE X (.Call (.Name x p) (e :: es) [] pos) (tCall sp [] E t) := by
  obtain ⟨⟨fd, F, b⟩, kp, hm⟩ := G
  exact pe_call F hr hg hm kp b .nil hx ha hdb he hpl
theorem peu_callC (G : CalU X.prog X.w X.K X.mg X.base CX k x f ps sp) (hr : Room k X.A) (hg : Gl X x) (hx : Passes CX X E)
    (ha : PA X (e :: es) t) (hdb : (x == ("__debug__" : Str)) = false := by decide) (he : starEach (e :: es) X.env = (false, eval e X.env) :: starEach es X.env := by rfl) (hpl : (backTo pos (starEach es X.env)).any (·.1) = false := by rfl) :
    PEu X (.Call (.Name x p) (e :: es) [] pos) (tCall sp [] E t) := by
  obtain ⟨⟨fd, F, b⟩, kp, hm⟩ := G
  exact peu_call F hr hg hm kp b .nil hx ha hdb he hpl
theorem pep_callC (G : CalP X.prog X.w X.K X.mg X.base CX k x f ps sp) (hr : Room k X.A) (hg : Gl X x) (hx : Passes CX X E)
    (ha : PA X (e :: es) t) (hdb : (x == ("__debug__" : Str)) = false := by decide) (he : starEach (e :: es) X.env = (false, eval e X.env) :: starEach es X.env := by rfl) (hpl : (backTo pos (starEach es X.env)).any (·.1) = false := by rfl) :
    PEp X (.Call (.Name x p) (e :: es) [] pos) (tCall sp [] E t) := by
  obtain ⟨⟨fd, F, b⟩, kp, hm⟩ := G
  exact pep_call F hr hg hm kp b .nil hx ha hdb he hpl
theorem pe_makeC (G : CalI X.prog X.w X.K X.mg X.base x C k ps sp) (hr : Room (k + 1) X.A) (hg : Gl X x)
    (ha : PA X (e :: es) t) (hdb : (x == ("__debug__" : Str)) = false := by decide) (he : starEach (e :: es) X.env = (false, eval e X.env) :: starEach es X.env := by rfl) (hpl : (backTo pos (starEach es X.env)).any (·.1) = false := by rfl) :
    PE X (.Call (.Name x p) (e :: es) [] pos) (tMake C sp [] E0 t) := by
  obtain ⟨⟨f, fd, M, F, b⟩, hm⟩ := G
  exact pe_make M F hr hg hm b .nil pass0 ha hdb he hpl
end
section
variable {K : PySem.W.Frag} {σ : St} {H : Hp} {Q : VK} {R : Bool → Hp → Prop} {QA : List V → Hp → Prop} {D : Ends} {te ta tb tc : TE} {t u : TS} {tA tB' : TT} {g : TG} {a b : Addr} {i j : Int} {n : Nat} {x y v : V} {xs ys : List V} {z : Str}
theorem rd_seq (h : t { D with nx := u D } σ H) : tSeq t u D σ H := h
theorem rd_next (h : D.nx σ H) : tNext D σ H := h
theorem rd_nx {N : St → Hp → Prop} {r : VK} {bk ct : St → Hp → Prop} (h : N σ H) : (Ends.mk N r bk ct).nx σ H := h
theorem rd_rt {N : St → Hp → Prop} {r : VK} {bk ct : St → Hp → Prop} (h : r v H) : (Ends.mk N r bk ct).rt v H := h
theorem rd_drop (h : te σ H fun _ H1 => D.nx σ H1) : tDrop te D σ H := h
theorem rd_ret (h : te σ H D.rt) : tRet te D σ H := h
theorem rd_retN (h : D.rt .non H) : tRetN D σ H := h
theorem rd_if (h : tA σ H fun b H1 => if b = true then t D σ H1 else u D σ H1) : tIfS tA t u D σ H := h
theorem rd_test (h : te σ H fun x H' => ∃ k, x = .bl k ∧ R k H') : tTest te σ H R := h
theorem rd_B (h : te σ H fun x H' => ∃ k, x = .bl k ∧ R k H') : tB te σ H R := h
theorem rd_not (h : tA σ H fun c H1 => R (!c) H1) : tNot tA σ H R := h
theorem rd_and (h : tA σ H fun c H1 => if c = true then tB' σ H1 R else R false H1) : tAnd tA tB' σ H R := h
theorem rd_or (h : tA σ H fun c H1 => if c = true then R true H1 else tB' σ H1 R) : tOr tA tB' σ H R := h
theorem rd_andV (h : ta σ H fun x H1 => ∃ c, x = .bl c ∧ if c = true then tb σ H1 Q else Q (.bl false) H1) : tAndV ta tb σ H Q := h
theorem rd_orV (h : ta σ H fun x H1 => ∃ c, x = .bl c ∧ if c = true then Q (.bl true) H1 else tb σ H1 Q) : tOrV ta tb σ H Q := h
theorem rd_notV (h : ta σ H fun x H1 => ∃ c, x = .bl c ∧ Q (.bl (!c)) H1) : tNotV ta σ H Q := h
theorem rd_ifE (h : tA σ H fun c H1 => if c = true then ta σ H1 Q else tb σ H1 Q) : tIf tA ta tb σ H Q := h
theorem rd_bl {B : Bool} {P : Bool → Prop} (h : P B) : ∃ k, V.bl B = .bl k ∧ P k := ⟨B, rfl, h⟩
theorem rd_asg (h : te σ H fun x H1 => g x σ H1 D.nx) : tAsg te g D σ H := h
theorem rd_name {N : St → Hp → Prop} (h : N (σ.set n (some v)) H) : gName n v σ H N := h
theorem rd_aug {ti : TIp} (e : σ[n]? = some (some x)) (h : te σ H fun y H1 => ti x y H1 fun z H2 => D.nx (σ.set n (some z)) H2) : tAug n te ti D σ H := ⟨x, e, h⟩
theorem rd_ipI {f : Int → Int → Int} (h : Q (.int (f i j)) H) : ipI f (.int i) (.int j) H Q := ⟨i, j, rfl, rfl, h⟩
theorem rd_var (e : σ[n]? = some (some v)) (h : Q v H) : tVar n σ H Q := ⟨v, e, h⟩
theorem rd_C (h : Q v H) : tC v σ H Q := h
theorem rd_op {r : R2} (h : ta σ H fun x H1 => tb σ H1 fun y H2 => r x y H2 Q) : tOp r ta tb σ H Q := h
theorem rd_un {r : V → Hp → VK → Prop} (h : ta σ H fun x H1 => r x H1 Q) : tUn r ta σ H Q := h
theorem rd_I0 {f : Int → Int → V} (h : Q (f i j) H) : rI0 f (.int i) (.int j) H Q := ⟨i, j, rfl, rfl, h⟩
theorem rd_I {C : Int → Int → Prop} {f : Int → Int → V} (c : C i j) (h : Q (f i j) H) : rI C f (.int i) (.int j) H Q := ⟨i, j, rfl, rfl, c, h⟩
theorem rd_U {f : Int → V} (h : Q (f i) H) : rU f (.int i) H Q := ⟨i, rfl, h⟩
theorem dec_V_int (i j : Int) : decide (V.int i = V.int j) = decide (i = j) := by
  by_cases h : i = j
  · simp [h]
  · rw [decide_eq_false h, decide_eq_false fun e => h (V.int.inj e)]
theorem dec_V_str (x y : Str) : decide (V.str x = V.str y) = decide (x = y) := by
  by_cases h : x = y
  · simp [h]
  · rw [decide_eq_false h, decide_eq_false fun e => h (V.str.inj e)]
theorem dec_V_bl (x y : Bool) : decide (V.bl x = V.bl y) = (x == y) := by cases x <;> cases y <;> rfl
theorem dec_sign (c d : Nat) : decide ((⟨#[c]⟩ : Str) = ⟨#[d]⟩) = decide (c = d) := by
  by_cases h : c = d
  · simp [h]
  · rw [decide_eq_false h, decide_eq_false]
    intro q
    apply h
    have := congrArg cds q
    simpa [cds] using this
theorem rd_eqI (h : Q (.bl (decide (i = j))) H) : rEq (.int i) (.int j) H Q := ⟨rfl, by rw [dec_V_int]; exact h⟩
theorem rd_eqS {p q : Str} (h : Q (.bl (decide (p = q))) H) : rEq (.str p) (.str q) H Q := ⟨rfl, by rw [dec_V_str]; exact h⟩
theorem rd_eqB {p q : Bool} (h : Q (.bl (p == q)) H) : rEq (.bl p) (.bl q) H Q := ⟨rfl, by rw [dec_V_bl]; exact h⟩
theorem rd_eqC {c d : Nat} {q : Str} (e : q = ⟨#[d]⟩) (h : Q (.bl (decide (c = d))) H) : rEq (.str ⟨#[c]⟩) (.str q) H Q := ⟨rfl, by rw [dec_V_str, e, dec_sign]; exact h⟩
theorem rd_neI (h : Q (.bl (!decide (i = j))) H) : rNe (.int i) (.int j) H Q := ⟨rfl, by rw [dec_V_int]; exact h⟩
theorem rd_neS {p q : Str} (h : Q (.bl (!decide (p = q))) H) : rNe (.str p) (.str q) H Q := ⟨rfl, by rw [dec_V_str]; exact h⟩
theorem rd_neB {p q : Bool} (h : Q (.bl (!(p == q))) H) : rNe (.bl p) (.bl q) H Q := ⟨rfl, by rw [dec_V_bl]; exact h⟩
theorem rd_neC {c d : Nat} {q : Str} (e : q = ⟨#[d]⟩) (h : Q (.bl (!decide (c = d))) H) : rNe (.str ⟨#[c]⟩) (.str q) H Q := ⟨rfl, by rw [dec_V_str, e, dec_sign]; exact h⟩
theorem c_open : (Str.ofString "(") = ⟨#[40]⟩ := by decide +kernel
theorem c_close : (Str.ofString ")") = ⟨#[41]⟩ := by decide +kernel
theorem c_rub : (Str.ofString "?") = ⟨#[63]⟩ := by decide +kernel
theorem c_none : (Str.ofString "") = ⟨#[]⟩ := by decide +kernel
theorem rd_cb {r : List V → Hp → VK → Prop} {t : TA} (h : t σ H fun vs H1 => r vs H1 Q) : tCB r t σ H Q := h
theorem rd_nil (h : QA [] H) : tNil σ H QA := h
theorem rd_cons {tr : TA} (h : ta σ H fun x H1 => tr σ H1 fun xs H2 => QA (x :: xs) H2) : tCons ta tr σ H QA := h
theorem rd_call {sp : Sp} {E : XK} {t : TA} (h : t σ H fun vs H1 => sp (vs ++ []) H1 Q E) : tCall sp [] E t σ H Q := h
theorem rd_lst {t : TA} (h : t σ H fun xs H1 => xs.length ≤ sizeLine ∧ ∀ p, H1 p = none → Q (.ref p) (upd H1 p (.lst xs))) : tLst t σ H Q := h
theorem rd_tup {t : TA} (h : t σ H fun xs H1 => xs.length ≤ sizeLine ∧ ∀ p, H1 p = none → Q (.ref p) (upd H1 p (.tup xs))) : tTup t σ H Q := h
theorem rd_small {P : Prop} (h : xs.length ≤ 1000) (k : P) : xs.length ≤ sizeLine ∧ P := ⟨Nat.le_of_lt (small1000 h), k⟩
theorem rd_bm {T : String} {r : V → List V → Hp → VK → Prop} {t : TA} (h : ta σ H fun x H1 => tyV K T x H1 ∧ t σ H1 fun xs H2 => r x xs H2 Q) : tBM K T r ta t σ H Q := h
theorem rd_bm0 {T : String} {r : V → List V → Hp → VK → Prop} (h : ta σ H fun x H1 => tyV K T x H1 ∧ r x [] H1 Q) : tBM0 K T r ta σ H Q := h
theorem rd_tyS {P : Prop} (h : P) : tyV K "str" (.str z) H ∧ P := ⟨rfl, h⟩
theorem rd_tyL {P : Prop} (e : H a = some (.lst xs)) (h : P) : tyV K "list" (.ref a) H ∧ P := ⟨.inl ⟨rfl, _, SqL.of e⟩, h⟩
theorem rd_append (e : H a = some (.lst xs)) (hz : xs.length ≤ 1000) (h : Q .non (upd H a (.lst (xs ++ [y])))) : rAppend (.ref a) [y] H Q := ⟨a, xs, y, rfl, rfl, e, small1000 hz, h⟩
theorem rd_pop (e : H a = some (.lst (xs ++ [y]))) (h : Q y (upd H a (.lst xs))) : rPop (.ref a) [] H Q := ⟨a, xs ++ [y], y, rfl, rfl, e, by simp, by rw [List.dropLast_concat]; exact h⟩
theorem rd_ixL (e : SqL K H a xs) (hi : xs[n]? = some v) (h : Q v H) : rIxL K (.ref a) (.int n) H Q := ⟨a, xs, n, v, rfl, rfl, e, atI_nat hi, h⟩
theorem rd_ixS {c : Nat} (hz : z.length ≤ 1000) (hi : (cds z)[n]? = some c) (h : Q (.str ⟨#[c]⟩) H) : rIxS (.str z) (.int n) H Q := ⟨z, n, c, rfl, rfl, Nat.le_of_lt (small1000 hz), atI_nat hi, h⟩
theorem rd_ixT (e : SqT K H a xs) (hi : xs[n]? = some v) (h : Q v H) : rIxT K (.ref a) (.int n) H Q := ⟨a, xs, n, v, rfl, rfl, e, atI_nat hi, h⟩
theorem rd_sub {to ti : TE} {ts : TSet} {N : St → Hp → Prop} (h : to σ H fun o H1 => ti σ H1 fun i H2 => ts o i v H2 fun H3 => N σ H3) : gSub to ti ts v σ H N := h
theorem rd_setL {N : Hp → Prop} (e : H a = some (.lst xs)) (hn : n < xs.length) (h : N (upd H a (.lst (xs.set n v)))) : rSetL (.ref a) (.int n) v H N := by
  refine ⟨a, xs, n, n, rfl, rfl, e, ?_, h⟩
  unfold ixN
  rw [if_pos (by omega), if_pos (by omega)]
  simp
theorem rd_tupG {ts : TGs} {N : St → Hp → Prop} (e : SqT K H a xs) (hl : xs.length = n) (h : ts xs σ H N) : gTup K n ts (.ref a) σ H N := ⟨a, xs, rfl, e, hl, h⟩
theorem rd_gcons {ts : TGs} {N : St → Hp → Prop} (h : g v σ H fun σ' H' => ts xs σ' H' N) : gCons g ts (v :: xs) σ H N := ⟨v, xs, rfl, h⟩
theorem rd_gnil {N : St → Hp → Prop} (h : N σ H) : gNil [] σ H N := ⟨rfl, h⟩
theorem rd_sl {r : V → Option Int → Option Int → Hp → VK → Prop} {tl th : TO} (h : te σ H fun x H1 => tl σ H1 fun l H2 => th σ H2 fun u H3 => r x l u H3 Q) : tSl r te tl th σ H Q := h
theorem rd_noPart {QO : Option Int → Hp → Prop} (h : QO none H) : tNoPart σ H QO := h
theorem rd_part {QO : Option Int → Hp → Prop} (h : te σ H fun x H1 => ∃ i, x = .int i ∧ QO (some i) H1) : tPart te σ H QO := h
theorem rd_int {P : Int → Prop} (h : P i) : ∃ k, V.int i = .int k ∧ P k := ⟨i, rfl, h⟩
theorem rd_str {P : Str → Prop} (h : P z) : ∃ k, V.str z = .str k ∧ P k := ⟨z, rfl, h⟩
theorem rd_slS {lo hi : Option Int} (hz : z.length ≤ 1000) (h : Q (.str (Txt.slice z lo hi)) H) : rSlS (.str z) lo hi H Q := ⟨z, rfl, Nat.le_of_lt (small1000 hz), h⟩
theorem rd_slL {lo hi : Option Int} (e : SqL K H a xs) (h : ∀ p, H p = none → Q (.ref p) (upd H p (.lst (cutV xs lo hi)))) : rSlL K (.ref a) lo hi H Q := ⟨a, xs, rfl, e, h⟩
theorem rd_ite {c : Prop} [Decidable c] {A B : Prop} (h1 : c → A) (h2 : ¬ c → B) : if decide c = true then A else B := by
  by_cases h : c
  · rw [decide_eq_true h]; exact h1 h
  · rw [decide_eq_false h]; exact h2 h
theorem rd_iteN {c : Prop} [Decidable c] {A B : Prop} (h1 : ¬ c → A) (h2 : c → B) : if (!decide c) = true then A else B := by
  by_cases h : c
  · rw [decide_eq_true h]; exact h2 h
  · rw [decide_eq_false h]; exact h1 h
theorem rd_iteB {c : Bool} {A B : Prop} (h1 : c = true → A) (h2 : c = false → B) : if c = true then A else B := by
  cases c
  · exact h2 rfl
  · exact h1 rfl
theorem rd_iteNB {c : Bool} {A B : Prop} (h1 : c = false → A) (h2 : c = true → B) : if (!c) = true then A else B := by
  cases c
  · exact h1 rfl
  · exact h2 rfl
theorem rd_chain {r r' : R2} (h : ta σ H fun x H1 => tb σ H1 fun y H2 => r x y H2 fun z H3 => ∃ k, z = .bl k ∧ (if k = true then tc σ H3 fun w' H4 => r' y w' H4 Q else Q (.bl false) H3)) : tChain r r' ta tb tc σ H Q := h
/-- a loop: over what it walks -/
def LoopG (g : TG) (tb : TS) (D : Ends) (σ : St) (J : It) (H : Hp) : Prop := ∃ W : Nat → Nat → St → Hp → Prop, (∃ m, W 0 m σ H) ∧ ∀ i m σ H, W i m σ H →
  (J.stop i H ∧ D.nx σ H) ∨ (J.go i H ∧ ∃ N : St → Hp → Prop, (∀ σ' H', N σ' H' → ∃ m', m' < m ∧ W (i + 1) m' σ' H') ∧ ∀ x H', J.yld i H x H' → g x σ H' fun σ2 H2 => tb { D with nx := N, ct := N, bk := D.nx } σ2 H2)
theorem rd_for {wi : TI} {tb : TS} (h : wi σ H (LoopG g tb D σ)) : tFor wi g tb D σ H := h
theorem rd_iStr {RI : It → Hp → Prop} (h : te σ H fun x H1 => ∃ z, x = .str z ∧ RI (Its z) H1) : iStr te σ H RI := h
theorem rd_iEnumS {t : TA} {RI : It → Hp → Prop} (h : t σ H fun vs H1 => ∃ z, vs = [.str z] ∧ RI (Ite (Its z)) H1) : iEnumS t σ H RI := h
theorem rd_str1 {P : Str → Prop} (h : P z) : ∃ k, [V.str z] = [.str k] ∧ P k := ⟨z, rfl, h⟩
end
end L2
set_option Elab.async false
set_option linter.all false
set_option maxRecDepth 100000
namespace L2
open PySem PySem.Spec PyProof.Rows
theorem is_kV {P : Program} {w : World} {k : Key} {u : Value} (r : (mixKind P w).is k u = true) : RelV (kV k) u := by
  rcases keyIs_shape (k := k) (v := u) r with ⟨i, t, rfl, rfl⟩ | ⟨x, t, rfl, rfl⟩
  · exact ⟨t, rfl⟩
  · exact ⟨t, rfl⟩
def Itk (d : Addr) (o : Obj) (kvs : List (Key × V)) : It :=
  ⟨fun i H => i < kvs.length ∧ H d = some (.frz o (.dK kvs)), fun i H x H' => H' = H ∧ ∃ kv, kvs[i]? = some kv ∧ x = kV kv.1, fun i H => kvs.length ≤ i ∧ H d = some (.frz o (.dK kvs))⟩
theorem KV.lenK {kvs : List (Key × V)} {vs : List (Key × Value)} (r : KV kvs vs) : kvs.length = vs.length := by
  unfold KV at r
  induction r with
  | nil => rfl
  | cons _ _ ih => simp [ih]
theorem KV.getK {kvs : List (Key × V)} {vs : List (Key × Value)} (r : KV kvs vs) {i : Nat} {q : Key × Value} (h : vs[i]? = some q) : ∃ p, kvs[i]? = some p ∧ p.1 = q.1 := by
  unfold KV at r
  induction r generalizing i with
  | nil => simp at h
  | @cons a b as bs hd t ih =>
    cases i with
    | zero => simp at h; exact ⟨a, rfl, by rw [← h]; exact hd.1⟩
    | succ i => simp only [List.getElem?_cons_succ] at h ⊢; exact ih h
theorem turn_keys {P : Program} {w : World} {K : PySem.W.Frag} {tg : Expr} (d it : Addr) (o : Obj) (es : Array DictEntry) (ep : Nat) (ho : o.data = .dict es ep) (kvs : List (Key × V)) : Turn P w K tg (Itk d o kvs) [it] it (fun i h => h.IsKeyIter it d i kvs.length ep) where
  mem := by simp
  obj := fun i h st b hb => by
    have e : b = it := by simpa using hb
    subst e
    obtain ⟨o, e, c, d⟩ := st
    exact ⟨o, e, fun v z => by rw [d] at z; cases z⟩
  keep := fun i h h' st k => st.at fun o e => k it (by simp) o e
  item := by
    intro X hP hw hK hc i pins s σ H E I hf st hg
    subst hP hw hK
    obtain ⟨hi, hd⟩ := hg
    obtain ⟨hget, ok⟩ := (show ObjOk X.prog X.w H s.heap d (.frz o (.dK kvs)) from I.hok d _ hd)
    obtain ⟨hz, hsm, vs, rel, o', es', ep', h1, h2, h3, h4⟩ := (show ObjOk X.prog X.w H s.heap d (.dK kvs) from ok)
    rw [hget] at h1
    cases h1
    rw [ho] at h3
    cases h3
    have hl := rel.lenK
    obtain ⟨f0, f1, f2, f3, f4, f5⟩ := hf it (by simp)
    obtain ⟨⟨k, x⟩, hx⟩ : ∃ p, vs[i]? = some p := ⟨vs[i]'(by omega), by simp⟩
    rw [hl] at st
    refine wpAny_pyNext_dict_item (knd := mixKind X.prog X.w) st ⟨o, es, hget, h2, ho, h4⟩ hx fun key h' hkey st' sb => ?_
    rw [← hl] at st'
    have I1 : Inv X pins σ H { s with heap := h' } := I.turned (t' := s.toks) (fun b o hb e => (sb.2 b hb).trans e) f0 f1 f3 f4 f5
    obtain ⟨p, hp, ek⟩ := rel.getK hx
    obtain ⟨oi, e, c, dd⟩ := id st'
    exact ⟨key, rfl, go_of (s := { s with heap := h' }) e c dd (by decide) ⟨kV k, H, I1, is_kV hkey, ⟨rfl, p, hp, by rw [ek]⟩, st', fun b hb => (hf b hb).1⟩⟩
  done := by
    intro X hP hw hK hc i pins s σ H E I hf st hg
    subst hP hw hK
    obtain ⟨hi, hd⟩ := hg
    obtain ⟨hget, ok⟩ := (show ObjOk X.prog X.w H s.heap d (.frz o (.dK kvs)) from I.hok d _ hd)
    obtain ⟨hz, hsm, vs, rel, o', es', ep', h1, h2, h3, h4⟩ := (show ObjOk X.prog X.w H s.heap d (.dK kvs) from ok)
    rw [hget] at h1
    cases h1
    rw [ho] at h3
    cases h3
    have hl := rel.lenK
    obtain ⟨f0, f1, f2, f3, f4, f5⟩ := hf it (by simp)
    rw [hl] at st
    exact wpAny_pyNext_dict_end (knd := mixKind X.prog X.w) (I.ok.hd hc) st ⟨o, es, hget, h2, ho, h4⟩ (by simp; omega) fun h' eb => ⟨rfl, I.turned (t' := s.toks) (fun b o hb e => eb b o hb e) f0 f1 f3 f4 f5⟩
  self := fun _ _ _ _ _ st h => wpAny_pyIter_keyiter st h
section
variable {X : Cx} {tg : Expr}
def iKeys (tl : TE) : TI := fun σ H R => tl σ H fun x H1 => ∃ a kvs, x = .ref a ∧ Rd H1 a (.dK kvs) ∧ ∀ o, R (Itk a o kvs) (upd H1 a (.frz o (.dK kvs)))
theorem pi_keys {l : Expr} {tl : TE} (hl : PE X l tl) : PI X tg l (iKeys tl) := by
  intro pins s σ H R I h
  refine thn (hl pins s σ H _ I h) fun v s1 ⟨x, H1, I1, r1, q1⟩ => ?_
  obtain ⟨a, kvs, e, hq, q⟩ := q1
  subst e
  cases r1
  obtain ⟨hz, hsm, vs, rel, o, es, ep, h1, h2, h3, h4⟩ := dk_rd I1.hok hq
  have hl := rel.lenK
  refine wpAny_pyIter_dict (knd := mixKind X.prog X.w) hsm ⟨o, es, h1, h2, h3, h4⟩ ?_
  have I2 : Inv X pins σ (upd H1 a (.frz o (.dK kvs))) s1 := by
    rcases hq with hq | ⟨o', hq⟩
    · exact d_write (t' := s1.toks) (h' := s1.heap) I1 (by rw [hq]; exact True.intro) (Heap.SameBut.refl _ _) ⟨o, h1⟩ ⟨h1, hz, hsm, vs, rel, o, es, ep, h1, h2, h3, h4⟩
    · obtain ⟨hget, _⟩ := (show ObjOk X.prog X.w H1 s1.heap a (.frz o' (.dK kvs)) from I1.hok a _ hq)
      rw [h1] at hget
      cases hget
      have e : upd H1 a (.frz o (.dK kvs)) = H1 := by
        funext b
        by_cases q : b = a
        · subst q; rw [upd_same, hq]
        · rw [upd_ne q]
      rw [e]; exact I1
  refine ⟨s1.heap.objs.size, [s1.heap.objs.size], _, _, _, rfl, I2.kept (t' := s1.toks) fun b o e => Heap.get?_push_of_some _ e, turn_keys a _ o es ep h3 kvs, ?_, fun b hb => ?_, q o⟩
  · rw [hl]; exact ⟨_, Heap.get?_push_size _ rfl, rfl, rfl⟩
  · have e : b = s1.heap.objs.size := by simpa using hb
    subst e
    exact I2.fpOk (Nat.le_refl _) (I2.hok.fresh (Nat.le_refl _))
end
def dset (ds : List Int) : List (Key × V) := ds.map fun d => (Sum.inl d, V.bl true)
theorem nodup_short : ∀ (n : Nat) (l : List Int), l.Nodup → (∀ x, x ∈ l → 0 ≤ x ∧ x < n) → l.length ≤ n
  | 0, l, _, h => by
    cases l with
    | nil => simp
    | cons x r => have := h x (by simp); omega
  | n + 1, l, hn, h => by
    have := nodup_short n (l.erase n) (hn.erase _) fun x hx => by
      rw [hn.mem_erase_iff] at hx
      have := h x hx.2
      have := hx.1
      omega
    rw [List.length_erase] at this
    split at this <;> omega
theorem rd_keys {σ : St} {H : Hp} {R : It → Hp → Prop} {tl : TE} (h : tl σ H fun x H1 => ∃ a kvs, x = .ref a ∧ Rd H1 a (.dK kvs) ∧ ∀ o, R (Itk a o kvs) (upd H1 a (.frz o (.dK kvs)))) : iKeys tl σ H R := h
theorem rd_dput {D : Ends} {σ : St} {H : Hp} {td ty tv : TE} (h : tv σ H fun v H1 => td σ H1 fun x H2 => ty σ H2 fun y H3 => ∃ a H4, x = .ref a ∧ DPut H3 a y v H4 ∧ D.nx σ H4) : sDPut td ty tv D σ H := h
end L2
set_option Elab.async false
set_option linter.all false
set_option maxRecDepth 100000
namespace L2
open PySem PySem.Spec PyProof.Rows
section
variable {M : Model} {A : Around} {E : Value → Shared → Prop} {s : Shared} {env : Env}
theorem comp_genU {e : Expr} {scope : Scope} {pos : Pos} {newAcc first : Sem Value} {g : Comprehension} {gs : List Comprehension} {u : Value → Sem Unit} {Q : Value → Shared → Prop} (hcl : clausesOf e = g :: gs) (hs : ∀ x, foldedSetIterable g.iter env x = pure x)
    (hfr : frAll env.cells scope.names = true) (hkind : scope.kind = .function) (hown : ∀ x ∈ scope.names, x.2 = .local → (blkScope scope env).names.lookup x.1 = some .local)
    (h : wpAny M A first (fun x s1 => wpAny M A (pyIter x) (fun it s2 => wpAny M A newAcc (fun acc s3 => wpAny M A (newFunctionEnv scope env.globals (clOf env.cells scope.names []) [] env.qual none .none (some env)) (fun cenv s4 =>
      codeAny M A (.compStart e 0 it acc { cenv with scope := blkScope scope env }) (fun r s' => (∃ f, r = .ok f) ∧ wpAny M A (u acc) (fun _ s'' => ∃ m, s''.heap.Ns cenv.locals m ∧ ∀ h', Heap.SameBut cenv.locals s''.heap h' → Q .none { s'' with heap := h' }) E s') s4) E s3) E s2) E s1) E s) :
    wpAny M A (comprehension e scope env pos newAcc false first (some u)) Q E s := by
  unfold comprehension
  rw [clo_eq hfr, hcl]
  refine wpAny_bind (wpAny_mono h (fun x s1 h1 => wpAny_bind (wpAny_standAt ?_)) fun _ _ z => z)
  refine wpAny_bind (wpAny_of_eq (hs x) ?_)
  refine wpAny_bind (wpAny_holding (wpAny_mono h1 (fun it s2 h2 => ?_) fun _ _ z => z))
  refine wpAny_standIf (wpAny_bind (wpAny_mono h2 (fun acc s3 h3 => ?_) fun _ _ z => z))
  refine wpAny_bind (wpAny_pure (wpAny_bind (wpAny_mono h3 (fun cenv s4 h4 => ?_) fun _ _ z => z)))
  dsimp only
  have hv : ∀ x ∈ (scope.names.filter fun x => (x.2 == .local || x.2 == .cell) && x.1 != (".0" : Str)).reverse, x.2 = .local →
      Env.kindOf { cenv with scope := blkScope scope env } x.1 = some .local := fun x hx hl => hown x (List.mem_filter.mp (List.mem_reverse.mp hx)).1 hl
  have hv' : ∀ x ∈ (scope.names.filter fun x => (x.2 == .local || x.2 == .cell) && x.1 != (".0" : Str)).reverse.drop 1 ++ (scope.names.filter fun x => (x.2 == .local || x.2 == .cell) && x.1 != (".0" : Str)).reverse.take 1,
      x.2 = .local → Env.kindOf { cenv with scope := blkScope scope env } x.1 = some .local := fun x hx hl => by
    rcases List.mem_append.mp hx with h1 | h1
    · exact hv x (List.mem_of_mem_drop h1) hl
    · exact hv x (List.mem_of_mem_take h1) hl
  refine wpAny_holding (wpAny_bind (wpAny_attempt (wpAny_holding (wpAny_run (codeAny_mono h4 fun r s' hr => ?_)))))
  obtain ⟨⟨f, rfl⟩, hr⟩ := hr
  refine wpAny_bind (wpAny_rule (wpAny_bind (wpAny_holding (wpAny_mono hr (fun _ s'' hr' => ?_) fun _ _ z => z))))
  obtain ⟨m, hn, hr'⟩ := hr'
  exact wpAny_bind (wpAny_comp_letGo (cenv := { cenv with scope := blkScope scope env }) hkind _ s'' m hv' hn fun h' m' _ sb => wpAny_pure (hr' h' sb))
end
/-- the block's end, with the new list stored in the outer local -/
theorem blk_store {X : Cx} {pins : List (Addr × Obj)} {σ σ' : St} {H H' : Hp} {s s' : Shared} {fp : List Addr} {N : List Str} {scope : Scope} {i : Nat} {x : Str} {px : Pos} {v : V} {u : Value} {D : Ends} {pins' : List (Addr × Obj)}
    (I : Inv X pins σ H s) (hf : ∀ b ∈ fp, FpOk X pins H b) (J : Inv (blk X pins s H fp N scope) pins' σ' H' s') (hN : X.N.Nodup) (hi : X.N[i]? = some x) (hx : Loc X.env.scope x) (hfn : X.fn x = true ∨ X.env.scope.names.lookup x = some .local) (r : RelV v u)
    (q : D.nx (σ.set i (some v)) H') :
    wpAny (model X.prog X.w) X.A (assign (.Name x px) X.env u) (fun _ s'' => ∃ m, s''.heap.Ns s.heap.objs.size m ∧ ∀ h', Heap.SameBut s.heap.objs.size s''.heap h' → SP X pins D .next { s'' with heap := h' }) X.xe s' := by
  have I1 : Inv X pins σ H' s' := blk_end I hf J (.refl ..)
  refine wpAny_assign_Name (store_ok2 I1 hN hi hx r (fun s2 I2 hsb => ?_) hfn)
  obtain ⟨a, sb, ha⟩ := hsb
  obtain ⟨m, hn, _⟩ := J.loc
  have hn' : s'.heap.Ns s.heap.objs.size m := hn
  have hne : s.heap.objs.size ≠ a := fun z => by
    rcases ha with e | e
    · exact absurd I.lt (by rw [← e, ← z]; exact Nat.lt_irrefl _)
    · obtain ⟨w, hw⟩ := I.cell x a e
      exact absurd hw.lt (by rw [← z]; exact Nat.lt_irrefl _)
  refine ⟨m, hn'.sameBut sb hne, fun h' sb' => ⟨_, H', ?_, q⟩⟩
  have hfree : H' s.heap.objs.size = none := J.free
  have fo : FpOk X pins H' s.heap.objs.size := I.fpOk (Nat.le_refl _) hfree
  refine I2.call' (s' := { s2 with heap := h' }) (ch := [s.heap.objs.size]) rfl ⟨fun b o e n hb hx => (sb'.2 b fun z => hx (by rw [z]; exact List.mem_singleton.mpr rfl)).trans e, fun b o e n hb hx => ⟨o.slots, (sb'.2 b fun z => hx (by rw [z]; exact List.mem_singleton.mpr rfl)).trans e⟩, fun b o e n _ => n,
    fun b o e hx => ⟨o, (sb'.2 b fun z => hx (by rw [z]; exact List.mem_singleton.mpr rfl)).trans e⟩, fun _ _ e => e, fun _ _ _ e => e, fun _ ps e => ⟨#[], by rw [Array.append_empty]; exact e⟩⟩ ?_ I2.bare (fun b hb => ?_)
  · refine HOk.leave (X := X) (h0 := s2.heap) I2.hok fun b u e o ho => (sb'.2 b fun z => ?_).trans ho
    rw [z, hfree] at e; cases e
  · rw [List.mem_singleton.mp hb]
    exact ⟨fo.2.2.2.1, fo.2.1, fo.2.2.2.2.1, fo.2.2.2.2.2⟩
section
variable {X : Cx} {elt target iter c : Expr} {scope : Scope} {pos spos px : Pos} {N : List Str} {js : List (Option Nat)} {wi : TI} {g : TG} {tc : TT} {te : TE} {i : Nat} {x : Str}
theorem ps_setC (hN : X.N.Nodup) (hi : X.N[i]? = some x) (hx : Loc X.env.scope x) (hc : X.calm = true) (hit : PI X target iter wi)
    (hg : ∀ pins s H fp, PG (blk X pins s H fp N scope) target g) (he : ∀ pins s H fp, PE (blk X pins s H fp N scope) elt te)
    (hsw : swapsWith (.ListComp elt [⟨target, iter, [], 0⟩] scope pos) (some (.Name x px)) spos.line X.env = pure true := by rfl) (hf : X.fn x = true ∨ X.env.scope.names.lookup x = some .local := by first | exact .inl rfl | exact .inr rfl | assumption)
    (hk : scope.kind = .function := by rfl) (hnc : (scope.names.all fun y => y.2 != .cell) = true := by rfl) (hfr : frAll X.env.cells scope.names = true := by rfl) (hjs : jsOk X scope N js = true := by rfl)
    (hown : (scope.names.all fun y => y.2 != .local || (blkScope scope X.env).names.lookup y.1 == some .local) = true := by rfl) (hs : ∀ x, foldedSetIterable iter X.env x = pure x := by intro _; rfl) :
    PS X (.Assign [.Name x px] (.ListComp elt [⟨target, iter, [], 0⟩] scope pos) spos) (tAsg (tLC js wi g te) (gName i)) := by
  intro pins s σ H D I h
  rw [exec_Assign_Name_used _ _ _ _ hsw]
  refine wpAny_bind (wpAny_standAt (wpAny_bind ?_))
  show wpAny _ _ (do let _ ← comprehension (.ListComp elt [⟨target, iter, [], 0⟩] scope pos) scope X.env _ (newList []) false (eval iter X.env) (some (assign (.Name x px) X.env))) _ _ s
  refine wpAny_bind (wpAny_mono (comp_genU (Q := fun _ s' => SP X pins D .next s') rfl hs hfr hk (fun y hy hl => ?_) ?_) (fun _ s' hq => wpAny_pure (wpAny_pure hq)) fun _ _ z => z)
  · have := List.all_eq_true.mp hown y hy
    rw [hl] at this
    simpa using this
  refine thn (hit pins s σ H _ I h) fun v s1 h1 => thn h1 fun itv s2 h2 => ?_
  obtain ⟨it, fp, tn, J, H2, e, I2, T, st2, f2, hW⟩ := h2
  subst e
  refine wpAny_newObj_type (s := s2) ?_ (by show 0 ≤ sizeLine; exact Nat.zero_le _)
  have I3 : Inv X pins σ (upd H2 s2.heap.objs.size (.lst [])) { s2 with heap := s2.heap.push { cls := .type "list", data := .seq #[] } } := I2.lnew (t' := s2.toks) (its := []) .nil (Nat.zero_le _)
  obtain ⟨W, ⟨m0, w0⟩, turn⟩ := hW s2.heap.objs.size (I2.hok.fresh (Nat.le_refl _))
  have lt2 : ∀ b ∈ fp, ∃ o, s2.heap.get? b = some o := fun b hb => let ⟨o, e, _⟩ := T.obj 0 _ st2 b hb; ⟨o, e⟩
  have f3 : ∀ b ∈ fp, FpOk X pins (upd H2 s2.heap.objs.size (.lst [])) b := fun b hb => by
    obtain ⟨o, e⟩ := lt2 b hb
    refine ⟨?_, (f2 b hb).2⟩
    rw [upd_ne (Nat.ne_of_lt (Heap.lt_size e))]
    exact (f2 b hb).1
  have k3 : ∀ b o, s2.heap.get? b = some o → (s2.heap.push { cls := .type "list", data := .seq #[] }).get? b = some o := fun b o e => Heap.get?_push_of_some _ e
  refine wpAny_newFunctionEnv (s := { s2 with heap := s2.heap.push { cls := .type "list", data := .seq #[] } }) (fun x hx => by have := List.all_eq_true.mp hnc x hx; simpa using this) (fun x z => nomatch z) (fun h4 hn4 sb4 => ?_) hk
  have I4 := blk_start (N := N) (js := js) (t' := s2.toks + ([] : List (Str × Value)).length) I3 f3 (fun b hb => let ⟨o, e⟩ := lt2 b hb; ⟨o, k3 b o e⟩) hk hnc hfr hjs hn4 sb4
  have st4 : tn 0 h4 := T.keep 0 _ _ st2 fun b hb o e => (sb4.2 b (Nat.ne_of_lt (Nat.lt_of_lt_of_le (Heap.lt_size e) (Nat.le_of_lt (by rw [Heap.size_push]; exact Nat.lt_succ_self _))))).trans (Heap.get?_push_of_some _ (k3 b o e))
  let B := blk X pins { s2 with heap := s2.heap.push { cls := .type "list", data := .seq #[] } } (upd H2 s2.heap.objs.size (.lst [])) fp N scope
  have stat : ∀ {H' : Hp}, (∀ b ∈ fp, H' b = none) → ∀ b ∈ fp, FpOk B [] H' b := fun hn b hb => by
    refine ⟨hn b hb, (I4.ok.exf b hb).1, I4.ok.exfs b hb, .inl hb, (I4.ok.exf b hb).2, fun p hp => (f3 b hb).2.2.2.2.2 p (by simpa [B, blk] using hp)⟩
  have loop : ∀ (s5 : Shared) (σ5 : St) (H5 : Hp), Inv B [] σ5 H5 s5 → tn 0 s5.heap → (∀ b ∈ fp, H5 b = none) → W 0 m0 [] σ5 H5 →
      codeAny (model X.prog X.w) X.A (.compLoop (.ListComp elt [⟨target, iter, [], 0⟩] scope pos) 0 (.ref it) (.ref s2.heap.objs.size) B.env) (fun r s' => (∃ f, r = .ok f) ∧ wpAny (model X.prog X.w) X.A (assign (.Name x px) X.env (.ref s2.heap.objs.size)) (fun _ s'' => ∃ m, s''.heap.Ns B.env.locals m ∧ ∀ h', Heap.SameBut B.env.locals s''.heap h' → SP X pins D .next { s'' with heap := h' }) X.xe s') s5 := by
    intro s5 σ5 H5 I5 st5 fr5 w5
    refine comp_turn (fun n s' => ∃ i acc σ' H', Inv B [] σ' H' s' ∧ tn i s'.heap ∧ (∀ b ∈ fp, H' b = none) ∧ W i n acc σ' H') ?_ m0 ⟨0, [], σ5, H5, I5, st5, fr5, w5⟩
    rintro n s6 ⟨i, acc, σ6, H6, I6, st6, fr6, w6⟩
    rcases turn i n acc σ6 H6 w6 with ⟨stop, q⟩ | ⟨go, step⟩
    · refine thn (T.done B rfl rfl rfl hc i [] s6 σ6 H6 _ I6 (stat fr6) st6 stop) fun r s7 ⟨hr, I7⟩ => ?_
      subst hr
      exact ⟨⟨_, rfl⟩, blk_store I3 f3 I7 hN hi hx hf (show RelV (.ref s2.heap.objs.size) _ from rfl) q⟩
    · refine thn (T.item B rfl rfl rfl hc i [] s6 σ6 H6 _ I6 (stat fr6) st6 go) fun r s7 ⟨u, hr, h7⟩ => ?_
      subst hr
      refine thn h7 fun _ s8 ⟨x, H8, I8, r8, y8, st8, fr8⟩ => ?_
      have I8' := I8.pinned (stat fr8) (T.obj _ _ st8)
      refine thn (hg _ _ _ _ _ s8 σ6 H8 x u _ I8' r8 (step x H8 y8)) fun _ s9 ⟨σ9, H9, I9, q9⟩ => ?_
      refine thn (he _ _ _ _ _ s9 σ9 H9 _ I9 q9) fun v s10 ⟨y, H10, I10, r10, q10⟩ => ?_
      obtain ⟨hl, hz, m', hm, w'⟩ := q10
      refine thn (mt_append _ s10 σ9 H10 (.ref s2.heap.objs.size) [y] _ [v] (fun z H' => z = .non ∧ H' = upd H10 s2.heap.objs.size (.lst (acc ++ [y]))) I10 rfl (.cons r10 .nil) ⟨_, acc, y, rfl, rfl, hl, hz, rfl, rfl⟩) fun _ s11 ⟨z, H11, I11, _, _, e11⟩ => ?_
      subst e11
      refine ⟨m', hm, i + 1, acc ++ [y], σ9, _, I11.unpinned, T.keep _ _ _ st8 fun b hb o e => (I11.pin (b, o) (List.mem_append_right _ (List.mem_append_right _ (mem_pinsAt hb e)))).1, fun b hb => ?_, w'⟩
      obtain ⟨o, e, d⟩ := T.obj _ _ st8 b hb
      exact (I11.pin (b, o) (List.mem_append_right _ (List.mem_append_right _ (mem_pinsAt hb e)))).2.1
  refine codeAny_compStart_list (loop _ _ _ I4 st4 (fun b hb => (f3 b hb).1) w0) ?_
  exact wpAny_mono (T.self X.A 0 _ (fun v s' => v = .ref it ∧ s' = _) (fun _ _ => False) st4 ⟨rfl, rfl⟩) (fun v s' ⟨e1, e2⟩ => by subst e1 e2; exact loop _ _ _ I4 st4 (fun b hb => (f3 b hb).1) w0) fun _ _ z => False.elim z
end
/-- an item of a tuple, the place as it is written -/
theorem rd_ixTi {K : PySem.W.Frag} {H : Hp} {Q : VK} {a : Addr} {xs : List V} {i : Int} {v : V} (e : SqT K H a xs) (hi : atI xs i = some v) (h : Q v H) : rIxT K (.ref a) (.int i) H Q := ⟨a, xs, i, v, rfl, rfl, e, hi, h⟩
end L2
set_option linter.all false
set_option maxRecDepth 100000
namespace ST
open PySem PySem.SetTable
/-- the small tables: their places, rising, in the first table of eight -/
structure Sm (t : SetTable) (ps : List Nat) (L : Bool) : Prop where
  mask : t.mask = 7
  dum : t.dummies = #[]
  place : t.place = ps.toArray
  up : ps.Pairwise (· < ·)
  le : ∀ p ∈ ps, p ≤ 7
  plain : t.plain = true
  led : t.led = L
theorem below1 (p j : Nat) : below #[p] j = if p < j then 1 else 0 := by
  unfold below
  simp [below.go]
theorem below2 (p q j : Nat) : below #[p, q] j = if q < j then 2 else if p < j then 1 else 0 := by
  unfold below
  simp [below.go]
theorem below3 (p q r j : Nat) : below #[p, q, r] j = if q < j then (if r < j then 3 else 2) else if p < j then 1 else 0 := by
  unfold below
  simp [below.go]
theorem slot_in {t : SetTable} {ps : List Nat} {L : Bool} (s : Sm t ps L) (hn : ps.length ≤ 2) {j : Nat} (h : j ∈ ps) : ∃ i, t.slot j = .live i := by
  unfold slot
  rw [s.place]
  match ps, hn, s.up, h with
  | [p], _, _, h =>
    have : j = p := by simpa using h
    subst this
    exact ⟨0, by simp [below1]⟩
  | [p, q], _, u, h =>
    have hpq : p < q := by simpa using u
    rcases (by simpa using h : j = p ∨ j = q) with rfl | rfl
    · exact ⟨0, by have h1 : ¬ q < j := by omega
                   simp [below2, h1]⟩
    · exact ⟨1, by simp [below2, hpq]⟩
theorem slot_out {t : SetTable} {ps : List Nat} {L : Bool} (s : Sm t ps L) {j : Nat} (h : ¬ j ∈ ps) : t.slot j = .empty := by
  unfold slot has
  rw [s.place, s.dum]
  dsimp only
  have h1 : (ps.toArray[below ps.toArray j]? == some j) = false := by
    rw [Bool.eq_false_iff]
    intro e
    rw [beq_iff_eq] at e
    exact h (List.mem_of_getElem? (by simpa using e))
  rw [h1]
  simp
/-- where a search for an empty place ends -/
theorem go_free {t : SetTable} {ps : List Nat} {L : Bool} (s : Sm t ps L) (hn : ps.length ≤ 2) (h : Int) : ∀ (k fuel i : Nat) (pt : Nat), pt < 32 ^ k → i < 8 → k + 3 < fuel → ∃ j, probe.go t (fun _ => h + 1) h fuel { j := i, more := 0, i := i, perturb := pt, dummy := none } = some (.empty j none) ∧ ¬ j ∈ ps ∧ j ≤ 7 := by
  have adv : ∀ i pt, i < 8 → t.advance { j := i, more := 0, i := i, perturb := pt, dummy := none } = { j := (i * 5 + 1 + pt / 32) % 8, more := 0, i := (i * 5 + 1 + pt / 32) % 8, perturb := pt / 32, dummy := none } := fun i pt hi => by
    unfold advance leap runEnd
    rw [s.mask]
    have : ¬ (i * 5 + 1 + pt / 32) % 8 + 9 ≤ 7 := by omega
    simp [this]
  have step : ∀ fuel i pt, i < 8 → i ∈ ps → probe.go t (fun _ => h + 1) h (fuel + 1) { j := i, more := 0, i := i, perturb := pt, dummy := none } = probe.go t (fun _ => h + 1) h fuel { j := (i * 5 + 1 + pt / 32) % 8, more := 0, i := (i * 5 + 1 + pt / 32) % 8, perturb := pt / 32, dummy := none } := fun fuel i pt hi hm => by
    obtain ⟨x, hx⟩ := slot_in s hn hm
    rw [probe.go]
    dsimp only
    rw [hx]
    dsimp only
    rw [if_neg (by simp; omega), adv i pt hi]
  have stop : ∀ fuel i pt, i < 8 → ¬ i ∈ ps → ∃ j, probe.go t (fun _ => h + 1) h (fuel + 1) { j := i, more := 0, i := i, perturb := pt, dummy := none } = some (.empty j none) ∧ ¬ j ∈ ps ∧ j ≤ 7 := fun fuel i pt hi hm => ⟨i, by rw [probe.go]; dsimp only; rw [slot_out s hm], hm, by omega⟩
  intro k
  induction k with
  | zero =>
    intro fuel i pt hp hi hf
    have hp0 : pt = 0 := by omega
    subst hp0
    obtain ⟨fuel, rfl⟩ : ∃ n, fuel = n + 3 := ⟨fuel - 3, by omega⟩
    by_cases a : i ∈ ps
    · rw [step _ _ _ hi a]
      by_cases b : (i * 5 + 1 + 0 / 32) % 8 ∈ ps
      · rw [step _ _ _ (by omega) b]
        refine stop _ _ _ (by omega) fun c => ?_
        have d1 : i ≠ (i * 5 + 1 + 0 / 32) % 8 := by omega
        have d2 : i ≠ ((i * 5 + 1 + 0 / 32) % 8 * 5 + 1 + 0 / 32 / 32) % 8 := by omega
        have d3 : (i * 5 + 1 + 0 / 32) % 8 ≠ ((i * 5 + 1 + 0 / 32) % 8 * 5 + 1 + 0 / 32 / 32) % 8 := by omega
        match ps, hn, a, b, c with
        | [], _, a, _, _ => cases a
        | [p], _, a, b, c => rw [List.mem_singleton] at a b; omega
        | [p, q], _, a, b, c =>
          simp only [List.mem_cons, List.not_mem_nil, or_false] at a b c
          omega
      · exact stop _ _ _ (by omega) b
    · exact stop _ _ _ hi a
  | succ k ih =>
    intro fuel i pt hp hi hf
    obtain ⟨fuel, rfl⟩ : ∃ n, fuel = n + 1 := ⟨fuel - 1, by omega⟩
    by_cases a : i ∈ ps
    · rw [step _ _ _ hi a]
      exact ih _ _ _ (by rw [Nat.pow_succ] at hp; omega) (by omega) (by omega)
    · exact stop _ _ _ hi a
theorem free {t : SetTable} {ps : List Nat} {L : Bool} (s : Sm t ps L) (hn : ps.length ≤ 2) (h : Int) : ∃ j, t.freeSlot h = some (j, false) ∧ ¬ j ∈ ps ∧ j ≤ 7 := by
  have hb : bits h < 2 ^ 64 := by unfold bits; omega
  have e : t.probeStart h = { j := bits h % 8, more := 0, i := bits h % 8, perturb := bits h, dummy := none } := by
    unfold probeStart runEnd
    rw [s.mask]
    have : ¬ bits h % 8 + 9 ≤ 7 := by omega
    simp [this]
  obtain ⟨j, h1, h2, h3⟩ := go_free s hn h 13 (10 * turns t.mask) (bits h % 8) (bits h) (Nat.lt_trans hb (by decide)) (by omega) (by unfold turns; rw [s.mask]; decide)
  refine ⟨j, ?_, h2, h3⟩
  unfold freeSlot probe
  rw [e, h1]
  rfl
theorem put_sm {t : SetTable} {ps : List Nat} {L : Bool} (s : Sm t ps L) (hn : ps.length ≤ 2) {j : Nat} (h : ¬ j ∈ ps) (hj : j ≤ 7) : ∃ qs, Sm (t.put j).1 qs L ∧ qs.length = ps.length + 1 := by
  have hd : (if has #[] j = true then eraseAt #[] (below #[] j) else (#[] : Array Nat)) = #[] := by simp [has]
  have mk : ∀ qs : List Nat, insertAt t.place (below t.place j) j = qs.toArray → qs.Pairwise (· < ·) → (∀ p ∈ qs, p ≤ 7) → qs.length = ps.length + 1 → ∃ qs, Sm (t.put j).1 qs L ∧ qs.length = ps.length + 1 := fun qs e u l hl =>
    ⟨qs, ⟨s.mask, by unfold put; dsimp only; rw [s.dum]; exact hd, e, u, l, s.plain, s.led⟩, hl⟩
  rw [s.place] at mk
  match ps, hn, s.up, s.le, h with
  | [], _, _, _, _ => exact mk [j] rfl (by simp) (by simp [hj]) rfl
  | [p], _, _, l, h =>
    have hp : p ≤ 7 := l p (by simp)
    have hne : j ≠ p := by simpa using h
    by_cases c : p < j
    · exact mk [p, j] (by rw [show below [p].toArray j = 1 from by rw [below1, if_pos c]]; rfl) (by simp [c]) (by simp [hp, hj]) rfl
    · exact mk [j, p] (by rw [show below [p].toArray j = 0 from by rw [below1, if_neg c]]; rfl) (by simp; omega) (by simp [hp, hj]) rfl
  | [p, q], _, u, l, h =>
    have hp : p ≤ 7 := l p (by simp)
    have hq : q ≤ 7 := l q (by simp)
    have hpq : p < q := by simpa using u
    have hne : j ≠ p ∧ j ≠ q := by simpa using h
    by_cases c : q < j
    · exact mk [p, q, j] (by rw [show below [p, q].toArray j = 2 from by rw [below2, if_pos c]]; rfl) (by simp; omega) (by simp [hp, hj, hq]) rfl
    · by_cases c2 : p < j
      · exact mk [p, j, q] (by rw [show below [p, q].toArray j = 1 from by rw [below2, if_neg c, if_pos c2]]; rfl) (by simp; omega) (by simp [hp, hj, hq]) rfl
      · exact mk [j, p, q] (by rw [show below [p, q].toArray j = 0 from by rw [below2, if_neg c, if_neg c2]]; rfl) (by simp; omega) (by simp [hp, hj, hq]) rfl
/-- a new member of a small set -/
theorem lay_sm {t : SetTable} {ps : List Nat} {L : Bool} {es : Array (Int × Value)} (s : Sm t ps L) (hn : ps.length ≤ 2) (he : es.size = ps.length) (h : Int) (x : Value) :
    ∃ qs, Sm (layNew t es h x).2.1 qs L ∧ qs.length = ps.length + 1 ∧ (layNew t es h x).2.2.1 = false ∧ (layNew t es h x).2.2.2 = false := by
  obtain ⟨j, hj, hm, h7⟩ := free s hn h
  obtain ⟨qs, q, hq⟩ := put_sm s hn hm h7
  have hsz : (insertAt es (t.put j).2 (h, x)).size = qs.length := by
    have := (insertAt_perm es (t.put j).2 (h, x)).length_eq
    simp at this
    omega
  have hf : (t.put j).1.fits (insertAt es (t.put j).2 (h, x)).size = true := by
    unfold fits fill
    rw [q.place, q.dum, q.mask, hsz]
    simp
    omega
  have e : layNew t es h x = (insertAt es (t.put j).2 (h, x), (t.put j).1, false, false) := by
    unfold layNew
    rw [hj]
    dsimp only
    unfold orStandIn
    rw [hf]
    rfl
  rw [e]
  exact ⟨qs, q, hq, rfl, rfl⟩
theorem sm_fill {t : SetTable} {ps : List Nat} {L : Bool} (s : Sm t ps L) (hn : ps.length ≤ 3) : t.tooFull = false ∧ t.fits ps.length = true := by
  unfold tooFull fits fill
  rw [s.place, s.dum, s.mask]
  simp
  omega
theorem sm_new (L : Bool) : Sm (SetTable.fresh 0 0 L) [] L := ⟨rfl, rfl, rfl, .nil, (fun _ h => by cases h), rfl, rfl⟩
/-- the walk by places -/
theorem below_at {ps : List Nat} (u : ps.Pairwise (· < ·)) (hn : ps.length ≤ 3) : ∀ i, (h : i < ps.length) → below ps.toArray (ps[i] + 1) = i + 1 := by
  match ps, hn, u with
  | [p], _, _ => intro i h; obtain rfl : i = 0 := by simp at h; omega
                 simp [below1]
  | [p, q], _, u =>
    have hpq : p < q := by simpa using u
    intro i h
    match i, h with
    | 0, _ => simp [below2]; omega
    | 1, _ => simp [below2]
  | [p, q, r], _, u =>
    have h3 : p < q ∧ p < r ∧ q < r := by simp at u; omega
    intro i h
    match i, h with
    | 0, _ => simp [below3]; omega
    | 1, _ => simp [below3]; omega
    | 2, _ => simp [below3]; omega
  | [], _, _ => intro i h; simp at h
theorem below_first {ps : List Nat} (hn : ps.length ≤ 3) : below ps.toArray 0 = 0 := by
  match ps, hn with
  | [], _ => rfl
  | [p], _ => simp [below1]
  | [p, q], _ => simp [below2]
  | [p, q, r], _ => simp [below3]
/-- the order of a text -/
theorem pick_perm {α : Type} (next : Nat → Nat) : ∀ (fuel k : Nat) (left : List α) (out : Array α), fuel = left.length → (pickOrder.go next fuel k left out).toList.Perm (out.toList ++ left)
  | 0, k, left, out, h => by
    have : left = [] := List.length_eq_zero_iff.mp h.symm
    subst this
    simp [pickOrder.go]
  | fuel + 1, k, left, out, h => by
    have hlt : next k % left.length < left.length := Nat.mod_lt _ (by omega)
    rw [pickOrder.go, List.getElem?_eq_getElem hlt]
    dsimp only
    refine (pick_perm next fuel (k + 1) _ _ (by rw [List.length_eraseIdx]; simp [hlt]; omega)).trans ?_
    rw [Array.toList_push, List.append_assoc]
    refine List.Perm.append_left _ ?_
    rw [List.eraseIdx_eq_take_drop_succ]
    show (left[next k % left.length] :: (left.take (next k % left.length) ++ left.drop (next k % left.length + 1))).Perm left
    refine (List.perm_middle (a := left[next k % left.length]) (l₁ := left.take (next k % left.length)) (l₂ := left.drop (next k % left.length + 1))).symm.trans ?_
    rw [List.getElem_cons_drop hlt, List.take_append_drop]
theorem pick_all {α : Type} (next : Nat → Nat) (xs : Array α) : (pickOrder next xs).toList.Perm xs.toList := by
  have := pick_perm next xs.size 0 xs.toList #[] (by simp)
  simpa [pickOrder] using this
end ST
set_option Elab.async false
set_option linter.all false
set_option maxRecDepth 100000
namespace ST
open PySem PySem.Spec PyProof.Rows
def nOf : Value → Int
  | .int n _ => n
  | _ => 0
abbrev ledOf (w : World) : Bool := !w.params.followText "set-order"
def setObj (es : Array (Int × Value)) (ep : Nat) (t : SetTable) : Obj := { cls := .type "set", dict := none, data := .set es ep t }
/-- a small set of ints: its members are those of ns -/
structure SetIs (prog : Program) (w : World) (ns : List Int) (es : Array (Int × Value)) (t : SetTable) (ps : List Nat) : Prop where
  sm : Sm t ps (ledOf w)
  sz : es.size = ps.length
  le : ps.length ≤ 3
  el : ElemsOf (intKind prog w) es.toList
  nd : (es.toList.map fun e => nOf e.2).Nodup
  mem : ∀ n, n ∈ es.toList.map (fun e => nOf e.2) ↔ n ∈ ns
section
variable {prog : Program} {w : World} {A : Around} {E : Value → Shared → Prop} {s : Shared} {ns : List Int} {es : Array (Int × Value)} {t : SetTable} {ps : List Nat} {a : Addr} {ep : Nat}
theorem SetIs.fits (S : SetIs prog w ns es t ps) : t.fits es.size = true := by rw [S.sz]; exact (sm_fill S.sm S.le).2
theorem SetIs.bnd (S : SetIs prog w ns es t ps) : es.size < scanBound := by rw [S.sz]; exact Nat.lt_of_le_of_lt S.le (by decide)
theorem int_of {v : Value} {k : Int} (h : (intKind prog w).is k v = true) : ∃ tk, v = .int k tk := Value.isInt_shape h
theorem SetIs.ints (S : SetIs prog w ns es t ps) {e : Int × Value} (h : e ∈ es.toList) : ∃ n tk, e.2 = .int n tk := by
  obtain ⟨⟨k, hk, _⟩, _⟩ := S.el e h
  obtain ⟨tk, e⟩ := int_of hk
  exact ⟨k, tk, e⟩
theorem set_add {k : Int} {tk : Tok} {Q : Bool → Shared → Prop} (S : SetIs prog w ns es t ps) (hn : ps.length ≤ 2) (ho : s.heap.get? a = some (setObj es ep t))
    (h0 : k ∈ ns → Q false s) (h1 : ¬ k ∈ ns → ∀ es' t' ps', SetIs prog w (ns ++ [k]) es' t' ps' → ps'.length = ps.length + 1 → Q true { s with heap := s.heap.update a (Obj.putSet es' t') }) :
    wpAny (model prog w) A (setAddHashed a (.int k tk) (hashInt k)) Q E s := by
  have hk : (intKind prog w).is k (.int k tk) = true := intKind_is _ _ _ _
  have hd : (setObj es ep t).data = .set es ep t := rfl
  unfold setAddHashed setAddHashedIn
  refine wpAny_holding (wpAny_bind (wpAny_setState_of ho hd S.fits ?_))
  dsimp only
  rw [byScan_of (x := .int k tk) rfl S.bnd S.el, if_pos rfl]
  unfold setAddByScan
  refine wpAny_bind (wpAny_bind (wpAny_rule (wpAny_bind (wpAny_setScan_of (knd := intKind prog w) hk ho hd S.fits S.el ?_))))
  have hfi : (∃ j, es.toList.findIdx? (fun e => (intKind prog w).is k e.2) = some j) ↔ k ∈ ns := by
    rw [← S.mem k, List.mem_map]
    constructor
    · rintro ⟨j, hj⟩
      obtain ⟨hlt, hp, _⟩ := List.findIdx?_eq_some_iff_getElem.mp hj
      obtain ⟨tk', e⟩ := int_of hp
      exact ⟨_, List.getElem_mem hlt, by rw [e]; rfl⟩
    · rintro ⟨e, he, rfl⟩
      cases hj : es.toList.findIdx? (fun e' => (intKind prog w).is (nOf e.2) e'.2) with
      | some j => exact ⟨j, rfl⟩
      | none =>
        have := List.findIdx?_eq_none_iff.mp hj e he
        obtain ⟨n, tk', e2⟩ := S.ints he
        rw [e2] at this
        rw [show nOf (.int n tk') = n from rfl, intKind_is] at this
        cases this
  cases hr : es.toList.findIdx? (fun e => (intKind prog w).is k e.2) with
  | some j => exact wpAny_pure (wpAny_pure (h0 (hfi.mp ⟨j, hr⟩)))
  | none =>
    have hk' : ¬ k ∈ ns := fun q => by obtain ⟨j, hj⟩ := hfi.mpr q; rw [hr] at hj; cases hj
    dsimp only
    obtain ⟨qs, sq, hql, hw, hg⟩ := lay_sm S.sm hn S.sz (hashInt k) (.int k tk)
    have hperm := layNew_perm t es (hashInt k) (.int k tk)
    generalize layNew t es (hashInt k) (.int k tk) = L at hperm sq hw hg ⊢
    obtain ⟨es1, t1, wd, gv⟩ := L
    dsimp only at hperm sq hw hg ⊢
    subst hw hg
    rw [Array.toList_push] at hperm
    have hmap : (es1.toList.map fun e => nOf e.2).Perm ((es.toList.map fun e => nOf e.2) ++ [k]) := by
      have := hperm.map (fun e : Int × Value => nOf e.2)
      rw [List.map_append] at this
      exact this
    have S1 : SetIs prog w (ns ++ [k]) es1 t1 qs := by
      refine ⟨sq, ?_, by omega, (S.el.push hk rfl).perm hperm, ?_, fun n => ?_⟩
      · rw [← Array.length_toList, hperm.length_eq, List.length_append, Array.length_toList, S.sz, hql]; rfl
      · rw [hmap.nodup_iff]
        refine List.nodup_append.mpr ⟨S.nd, by simp, fun x hx y hy => ?_⟩
        rw [List.mem_singleton] at hy
        subst hy
        exact fun q => hk' (by rw [← S.mem, ← q]; exact hx)
      · rw [hmap.mem_iff, List.mem_append, List.mem_append, S.mem]
    refine wpAny_bind (wpAny_pure ?_)
    rw [sq.plain, if_pos rfl]
    refine wpAny_bind ?_
    rw [hashByValue_scannable 8 (x := .int k tk) rfl]
    refine wpAny_pure ?_
    rw [show plainKind (.int k tk) = true from rfl, if_pos rfl]
    refine wpAny_bind (wpAny_storeSet_of ho hd ?_ (fits_of_scanBound S1.bnd))
    rw [(sm_fill sq S1.le).1]
    exact wpAny_pure (wpAny_pure (h1 hk' es1 t1 qs S1 hql))
end
section
variable {prog : Program} {w : World} {A : Around} {R : Result → Shared → Prop} {I : Addr} {fp wr : List Addr} {G : Array GenState → Array GenState → Prop} {n : Nat} {P : Nat → Value → Prop} {St : Nat → Shared → Prop}
def Holds (prog : Program) (w : World) (ns : List Int) (h : Heap) (a : Addr) : Prop := ∃ es ep t ps, h.get? a = some (setObj es ep t) ∧ SetIs prog w ns es t ps ∧ ps.length ≤ ns.length
theorem Holds.kept {ns : List Int} {h h' : Heap} {a : Addr} (S : Holds prog w ns h a) (k : ∀ o, h.get? a = some o → h'.get? a = some o) : Holds prog w ns h' a := by
  obtain ⟨es, ep, t, ps, ho, S⟩ := S
  exact ⟨es, ep, t, ps, k _ ho, S⟩
theorem set_loop (W : WalksS prog w A.in1 I fp wr G n P St) (S : Addr) (hSf : S ∉ fp) (val : Nat → Int) (hval : ∀ i v, P i v → ∃ t, v = .int (val i) t) (hn : n ≤ 3) :
    ∀ (k i : Nat) (s : Shared), n - i = k → i ≤ n → St i s → Holds prog w ((List.range i).map val) s.heap S →
      (∀ s', Moved (S :: wr) G s s' → Holds prog w ((List.range n).map val) s'.heap S → R (.ok (.ret .none)) s') →
      codeAny (model prog w) A (.builtin "set.update.loop" ⟨[.ref S, .ref I], []⟩) R s := by
  have hSw : S ∉ wr := fun h => hSf (W.sub _ h)
  have hsub : ∀ b ∈ wr, b ∈ S :: wr := fun b hb => .tail _ hb
  intro k
  induction k with
  | zero =>
    intro i s hk hi hst hS hR
    obtain rfl : i = n := by omega
    refine codeAny_builtin PyProof.Rows.F.entry_set_update_loop (by
      rw [Around.under_plainId PyProof.Rows.F.plain_set_update_loop _]
      refine (wpAny_bind (m := pyNext (.ref I)) (W.done s _ _ hst fun s' hm => ?_))
      exact wpAny_pure (hR s' (hm.mono hsub) (hS.kept fun o e => hm.heap S _ hSw e)))
  | succ k ih =>
    intro i s hk hi hst hS hR
    have hlt : i < n := by omega
    refine codeAny_builtin PyProof.Rows.F.entry_set_update_loop (by
      rw [Around.under_plainId PyProof.Rows.F.plain_set_update_loop _]
      refine (wpAny_bind (m := pyNext (.ref I)) (W.item i s _ _ hlt hst fun v s' hP hst' hm => ?_))
      obtain ⟨t, rfl⟩ := hval i v hP
      have hS' := hS.kept (h' := s'.heap) fun o e => hm.heap S _ hSw e
      obtain ⟨es, ep, tb, ps, ho, S0, hpl⟩ := id hS'
      rw [List.length_map, List.length_range] at hpl
      refine wpAny_bind (m := holding [Value.int (val i) t] (setAdd S (.int (val i) t))) (wpAny_holding ?_)
      unfold setAdd
      refine wpAny_holding (wpAny_bind ((intKind prog w).pyHash (k := val i) (intKind_is _ _ _ _) ?_))
      have hnext : (List.range (i + 1)).map val = (List.range i).map val ++ [val i] := by rw [List.range_succ, List.map_append]; rfl
      refine set_add (s := { s' with toks := s'.toks + 1 }) (ep := ep) S0 (by omega) ho (fun hin => ?_) (fun hin es' t' ps' S1 hps => ?_)
      · refine wpAny_pure ⟨plainId_quiet PyProof.Rows.F.plain_set_update_loop _, ih (i + 1) _ (by omega) hlt (W.frame _ s' _ _ hst' (Nat.le_succ _) fun b hb o e => e) ?_ fun s'' hm'' hS'' => ?_⟩
        · refine ⟨es, ep, tb, ps, ho, ⟨S0.sm, S0.sz, S0.le, S0.el, S0.nd, fun x => ?_⟩, by rw [List.length_map, List.length_range]; omega⟩
          rw [S0.mem, hnext, List.mem_append, List.mem_singleton]
          exact ⟨.inl, fun q => q.elim id fun q => q ▸ hin⟩
        · exact hR s'' (Moved.trans W.gtrans ((hm.mono hsub).then_heap (Nat.le_succ _) fun b o hb e => e) hm'') hS''
      · have hg : (s'.heap.update S (Obj.putSet es' t')).get? S = some (setObj es' (ep + 1) t') := by
          have := Heap.get?_update_self (Obj.putSet es' t') ho (by rw [putSet_of es' t' rfl]; rfl)
          rw [putSet_of es' t' rfl] at this; exact this
        have hoth : ∀ b o, b ≠ S → s'.heap.get? b = some o → (s'.heap.update S (Obj.putSet es' t')).get? b = some o := fun b o hb e => (Heap.get?_update_other _ _ (Ne.symm hb)).trans e
        refine wpAny_pure ⟨plainId_quiet PyProof.Rows.F.plain_set_update_loop _, ih (i + 1) _ (by omega) hlt (W.frame _ s' _ _ hst' (Nat.le_succ _) fun b hb o e => hoth b o (fun q => hSf (q ▸ hb)) e) ?_ fun s'' hm'' hS'' => ?_⟩
        · rw [hnext]
          exact ⟨es', ep + 1, t', ps', hg, S1, by rw [List.length_append, List.length_map, List.length_range, List.length_singleton]; omega⟩
        · exact hR s'' (Moved.trans W.gtrans ((hm.mono hsub).then_heap (Nat.le_succ _) fun b o hb e => hoth b o (fun q => hb (q ▸ List.mem_cons_self)) e) hm'') hS'')
end
end ST
set_option Elab.async false
set_option linter.all false
set_option maxRecDepth 100000
set_option maxHeartbeats 3200000
namespace ST
open PySem PySem.Spec PyProof.Rows
section
variable {prog : Program} {w : World} {A : Around} {E : Value → Shared → Prop} {s : Shared}
theorem holds_new (h : Heap) : Holds prog w [] (h.push (setObj #[] 0 (.fresh 0 0 (ledOf w)))) h.objs.size :=
  ⟨#[], 0, _, [], Heap.get?_push_size _ rfl, ⟨sm_new _, rfl, by decide, (fun e he => by simp at he), by simp, fun n => by simp⟩, Nat.le_refl _⟩
theorem set_new (v : Value) {Q₁ : Value → Shared → Prop} (h : Q₁ (.ref s.heap.objs.size) { s with heap := s.heap.push (setObj #[] 0 (.fresh 0 0 (ledOf w))) }) :
    codeAny (model prog w) A (.call (.builtin "set.__new__") ⟨[.type "set", v], []⟩) (wants Q₁ E) s := by
  refine codeAny_of_tree (wpAny_bind (m := checkBuiltinCall "set.__new__" ⟨[.type "set", v], []⟩) (wpAny_of_eq (PySem.F.newCall_set_1 v) (wpAny_pure ⟨plainId_quiet PySem.F.plain_set_new _, codeAny_builtin PySem.F.entry_set_new ?_⟩)))
  rw [Around.under_plainId PySem.F.plain_set_new _]; unfold Builtin.«set.__new__» Builtin.Frozenset.newClass
  have hs := PySem.sub_set_self
  obtain ⟨hp, g, d, tk, os⟩ := s
  dsimp only
  wp_walk
  refine wpAny_askSetting (wpAny_pure ?_)
  simp only [newObj]
  exact wpAny_bind (wpAny_alloc (wpAny_pure (wpAny_pure h)))
theorem call_set3 {l : Addr} {its : Array Value} {ns : List Int} {Q : Value → Shared → Prop} (hh : A.handled = none) (hl : s.heap.IsList l its) (hi : IntsAre its.toList ns) (hb : its.size ≤ 3)
    (h : ∀ (h' : Heap) (tk : Nat), Holds prog w ((List.range its.size).map fun i => ns.getD i 0) h' s.heap.objs.size → (∀ b o, b < s.heap.objs.size → s.heap.get? b = some o → h'.get? b = some o) → Q (.ref s.heap.objs.size) { s with heap := h', toks := tk }) :
    wpAny (model prog w) A (call (.type "set") [.ref l]) Q E s := by
  obtain ⟨c, tl, hmro⟩ := PySem.F.called_set.mro
  have hmade := PySem.F.called_set.made
  have hsub := PySem.F.called_set.sub
  refine wpAny_call (codeAny_of_tree (show wpAny _ _ (callAny (.type "set") _) _ _ _ from wpAny_pure ⟨Code.quiet_builtin _ (by decide +kernel), codeAny_builtin PySem.F.entry_type_call ?_⟩))
  rw [Around.under_plain (weight_type_call_type "set" [.ref l] []) rfl]
  have h1 := PySem.F.called_set.notType
  have h2 := PySem.F.called_set.canCreate
  have h3 := PySem.F.typeCall_set_1 (.ref l)
  (repeat any_goals (first | assumption | wp_step))
  refine codeAny_mono (set_new (.ref l) (E := E) (Q₁ := fun obj s₁ => obj = .ref s.heap.objs.size ∧ s₁ = { s with heap := s.heap.push (setObj #[] 0 (.fresh 0 0 (ledOf w))) }) ⟨rfl, rfl⟩) fun r s₁ hr => ?_
  cases r with
  | error e => exact hr
  | ok fl =>
    cases fl with
    | ret obj =>
      obtain ⟨rfl, rfl⟩ := hr
      have hS : (s.heap.push (setObj #[] 0 (.fresh 0 0 (ledOf w)))).get? s.heap.objs.size = some (setObj #[] 0 (.fresh 0 0 (ledOf w))) := Heap.get?_push_size _ rfl
      have hT : Shared.TypeIs { s with heap := s.heap.push (setObj #[] 0 (.fresh 0 0 (ledOf w))) } (.ref s.heap.objs.size) "set" := ⟨_, hS, rfl⟩
      have hli := PySem.F.called_set.init.lookup
      have hbi := PySem.F.called_set.init.bind (.ref s.heap.objs.size)
      (repeat any_goals (first | assumption | wp_step))
      refine codeAny_mono (codeAny_call_builtin (R := wants (fun r s₂ => r = .none ∧ ∃ h' tk, s₂ = { s with heap := h', toks := tk } ∧ Holds prog w ((List.range its.size).map fun i => ns.getD i 0) h' s.heap.objs.size ∧ (∀ b o, b < s.heap.objs.size → s.heap.get? b = some o → h'.get? b = some o)) E) PySem.F.called_set.init.plain PySem.F.entry_set_init (PySem.check_set_init_1 hT ?_)) fun r₂ s₂ hr₂ => ?_
      · obtain ⟨ol, hol, hcl, nl, hdl⟩ := hl
        obtain ⟨ocls, odict, odata, oslots⟩ := ol
        dsimp only at hcl hdl
        subst hcl hdl
        have hS0 := holds_new (prog := prog) (w := w) s.heap
        have hol' := Heap.get?_push_of_some (setObj #[] 0 (.fresh 0 0 (ledOf w))) hol
        generalize hH : s.heap.push (setObj #[] 0 (.fresh 0 0 (ledOf w))) = h1' at *
        have hsz : h1'.objs.size = s.heap.objs.size + 1 := by rw [← hH, Heap.size_push]
        have hs1 := PySem.F.sub_list_set
        have hs2 := PySem.F.sub_list_frozenset
        have hs3 : (Value.type "list" == Value.type "dict") = false := by decide
        have hl1 : h1'.IsList l its := ⟨_, hol', rfl, nl, rfl⟩
        unfold setObj at hS
        unfold Builtin.«set.__init__» noKeywords Builtin.Frozenset.updateFrom
        generalize hPI : pyIter = PI
        wp_walk
        subst hPI
        refine wpAny_pyIter_list hl1 (wpAny_bind (wpAny_runValue ?_))
        have hlS : l < s.heap.objs.size := Heap.lt_size hol
        have hh3 : A.in1.in1.in1.handled = none := by simp [hh]
        have hval : ∀ (i : Nat) (v : Value), its[i]? = some v → ∃ t, v = .int ((fun i => ns.getD i 0) i) t := fun i v hv => IntsAre.int_at hi i v (by rw [Array.getElem?_toList]; exact hv)
        refine set_loop ((Walks.list hh3 _ l (by rw [hsz]; exact Nat.ne_of_lt (Nat.lt_succ_of_lt hlS)) its).toS) s.heap.objs.size (by rw [hsz]; simp only [List.mem_cons, List.not_mem_nil, or_false, not_or]; exact ⟨Nat.ne_of_lt (Nat.lt_succ_self _), Nat.ne_of_gt hlS⟩) (fun i => ns.getD i 0) hval hb (its.size - 0) 0 _ rfl (Nat.zero_le _)
          ⟨⟨_, Heap.get?_push_size _ rfl, rfl, rfl⟩, (hl1.push _)⟩ (hS0.kept fun o e => Heap.get?_push_of_some _ e) fun s' hm hS' => ?_
        obtain ⟨h', g', d', tk', os'⟩ := s'
        have eg : g' = s.gens := hm.gens
        have ed : d' = s.drawn := hm.drawn
        have eo : os' = s.os := hm.os
        subst eg ed eo
        refine wpAny_pure (wpAny_pure ⟨rfl, h', tk', rfl, hS', fun b o hb e => ?_⟩)
        refine hm.heap b o (by rw [hsz]; simp only [List.mem_cons, List.not_mem_nil, or_false, not_or]; exact ⟨Nat.ne_of_lt hb, Nat.ne_of_lt (Nat.lt_succ_of_lt hb)⟩) (Heap.get?_push_of_some _ ?_)
        rw [← hH]; exact Heap.get?_push_of_some _ e
      · cases r₂ with
        | error e => exact hr₂
        | ok fl₂ =>
          cases fl₂ with
          | ret r =>
            obtain ⟨rfl, h', tk, rfl, hS', hk'⟩ := hr₂
            (repeat any_goals (first | assumption | wp_step))
            exact h _ _ hS' hk'
          | next => exact hr₂.elim
          | brk => exact hr₂.elim
          | cont => exact hr₂.elim
    | next => exact hr.elim
    | brk => exact hr.elim
    | cont => exact hr.elim
end
end ST
set_option Elab.async false
set_option linter.all false
set_option maxRecDepth 100000
set_option maxHeartbeats 3200000
namespace ST
open PySem PySem.Spec PyProof.Rows
theorem ent_iter : entryFor table "set.__iter__" = some Builtin.«frozenset.__iter__» := entryFor_alias (id' := "frozenset.__iter__") (by kernel_rfl) rfl (by decide +kernel) (by kernel_rfl)
theorem ent_next : entryFor table "set_iterator.__next__" = some Builtin.«set_iterator.__next__» := entryFor_of_fast (by kernel_rfl)
theorem slot_next : Slot "set_iterator" "__next__" "set_iterator.__next__" := .of (owner := "set_iterator") (n := "__next__") (by rw [typeLookup_type, builtinLookup_eq_fast]; kernel_rfl) (by decide +kernel) (by decide +kernel) (by decide +kernel) (by first | exact .inl (by decide +kernel) | exact .inr (by decide +kernel)) (by rw [isSubtype_type]; kernel_rfl)
theorem slot_self : Slot "set_iterator" "__iter__" "set_iterator.__iter__" := .of (owner := "set_iterator") (n := "__iter__") (by rw [typeLookup_type, builtinLookup_eq_fast]; kernel_rfl) (by decide +kernel) (by decide +kernel) (by decide +kernel) (by first | exact .inl (by decide +kernel) | exact .inr (by decide +kernel)) (by rw [isSubtype_type]; kernel_rfl)
theorem args_next (a : Value) : argsOk "set_iterator.__next__" ⟨[a], []⟩ := by unfold argsOk; kernel_rfl
theorem args_self (a : Value) : argsOk "set_iterator.__iter__" ⟨[a], []⟩ := by unfold argsOk; kernel_rfl
/-- a set's iterator -/
def itObj (S : Addr) (n ep slot i : Nat) : Obj := { cls := .type "set_iterator", data := .fields #[.int slot 0, .int i 0, .ref S, .int n 0, .int ep 0] }
/-- the order in which a set is walked -/
def walkOf (w : World) (a : Addr) (ep : Nat) (es : Array (Int × Value)) : List (Int × Value) := if w.params.followText "set-order" = true then (pickOrder (w.params.setOrder a ep) es).toList else es.toList
def slotP (ps : List Nat) : Nat → Nat
  | 0 => 0
  | j + 1 => ps.getD j 0 + 1
def slotOf (w : World) (ps : List Nat) (i : Nat) : Nat := if w.params.followText "set-order" = true then 0 else slotP ps i
theorem walk_perm (w : World) (a : Addr) (ep : Nat) (es : Array (Int × Value)) : (walkOf w a ep es).Perm es.toList := by
  unfold walkOf
  split
  · exact pick_all _ _
  · exact .rfl
section
variable {prog : Program} {w : World} {A : Around} {E : Value → Shared → Prop} {s : Shared} {ns : List Int} {es : Array (Int × Value)} {t : SetTable} {ps : List Nat} {a : Addr} {ep : Nat}
theorem set_next (S : SetIs prog w ns es t ps) (ho : s.heap.get? a = some (setObj es ep t)) {i : Nat} (hi : i ≤ es.size) {Q : Option (Value × Nat) → Shared → Prop}
    (h : Q (((walkOf w a ep es)[i]?).map fun e => (e.2, slotOf w ps (i + 1))) s) : wpAny (model prog w) A (setNext a (slotOf w ps i) i ep) Q E s := by
  have hd : (setObj es ep t).data = .set es ep t := rfl
  unfold setNext
  refine wpAny_bind (wpAny_setState_of ho hd S.fits ?_)
  dsimp only
  unfold setsByText
  refine wpAny_bind (wpAny_bind (wpAny_askSetting (wpAny_pure ?_)))
  unfold walkOf slotOf at h
  unfold slotOf
  by_cases hT : w.params.followText "set-order" = true
  · have hT' : (model prog w).w.params.followText "set-order" = true := hT
    rw [if_pos hT, if_pos hT] at h
    simp only [hT', if_true, bne_self_eq_false, Bool.false_eq_true, if_false]
    refine wpAny_bind ?_
    unfold setWalk
    refine wpAny_bind (wpAny_setState_of ho hd S.fits ?_)
    dsimp only
    unfold setsByText
    refine wpAny_bind (wpAny_bind (wpAny_askSetting (wpAny_pure ?_)))
    simp only [hT', if_true]
    refine wpAny_bind (wpAny_askSetting (wpAny_pure (wpAny_pure ?_)))
    rw [Array.getElem?_toList] at h
    simp only [hT, if_true]
    exact h
  · have hT' : (model prog w).w.params.followText "set-order" = false := by rw [Bool.not_eq_true] at hT; exact hT
    rw [if_neg hT, if_neg hT] at h
    have hl : t.led = true := by rw [S.sm.led]; unfold ledOf; rw [Bool.not_eq_true] at hT; rw [hT]; rfl
    have hp := S.sm.plain
    have hpl := S.sm.place
    have hpsz := S.sz
    have hup := S.sm.up
    have hle := S.le
    obtain ⟨mask, place, dum, fin, led, mv, pl⟩ := t
    dsimp only at hl hp hpl
    subst hl hp hpl
    simp only [hT', Bool.false_eq_true, if_false]
    show wpAny _ _ (pure () >>= fun _ => _) _ _ _
    refine wpAny_bind (wpAny_pure (wpAny_pure ?_))
    have hb : ∀ i, i ≤ ps.length → SetTable.below ps.toArray (slotP ps i) = i := fun i hi => by
      cases i with
      | zero => exact below_first hle
      | succ j =>
        have := below_at hup hle j hi
        show SetTable.below ps.toArray (ps.getD j 0 + 1) = j + 1
        rw [List.getD_eq_getElem?_getD, List.getElem?_eq_getElem (show j < ps.length from hi)]
        exact this
    rw [if_neg hT, hb i (by omega)]
    by_cases hi2 : i < es.size
    · have e1 : es[i]? = some es[i] := by simp [hi2]
      have e2 : ps.toArray[i]? = some ps[i] := by simp
      rw [e1, e2]
      rw [Array.getElem?_toList, e1] at h
      dsimp only [Option.map] at h
      rw [show slotP ps (i + 1) = ps.getD i 0 + 1 from rfl, List.getD_eq_getElem?_getD, List.getElem?_eq_getElem (by omega)] at h
      exact h
    · have e1 : es[i]? = none := by simp; omega
      rw [e1]
      rw [Array.getElem?_toList, e1] at h
      exact h
end
end ST
set_option Elab.async false
set_option linter.all false
set_option maxRecDepth 100000
set_option maxHeartbeats 3200000
namespace ST
open PySem PySem.Spec PyProof.Rows
section
variable {prog : Program} {w : World} {A : Around} {E : Value → Shared → Prop} {s : Shared} {ns : List Int} {es : Array (Int × Value)} {t : SetTable} {ps : List Nat} {a I : Addr} {ep : Nat}
theorem ent_self : entryFor table "set_iterator.__iter__" = some Builtin.«dict_keyiterator.__iter__» := entryFor_alias (id' := "dict_keyiterator.__iter__") (by kernel_rfl) rfl (by decide +kernel) (by kernel_rfl)
/-- one turn of a set's iterator -/
theorem it_turn (S : SetIs prog w ns es t ps) {i : Nat} (hi : i ≤ es.size) (ho : s.heap.get? a = some (setObj es ep t)) (hI : s.heap.get? I = some (itObj a es.size ep (slotOf w ps i) i)) (hh : A.handled = none) {Q : Option Value → Shared → Prop}
    (h1 : ∀ e h', (walkOf w a ep es)[i]? = some e → h'.get? I = some (itObj a es.size ep (slotOf w ps (i + 1)) (i + 1)) → Heap.SameBut I s.heap h' → Q (some e.2) { s with heap := h' })
    (h2 : (walkOf w a ep es)[i]? = none → ∀ h', Heap.ExtBut I s.heap h' → Q none { s with heap := h' }) : wpAny (model prog w) A (pyNext (.ref I)) Q E s := by
  have hT : s.TypeIs (.ref I) "set_iterator" := ⟨_, hI, rfl⟩
  unfold pyNext
  refine wpAny_bind (wpAny_attempt (wpAny_callSpecial?_slot (name := Str.ofString "__next__") hT slot_next (wpAny_call_entry slot_next hT ent_next ?_ (args_next _))))
  unfold Builtin.«set_iterator.__next__»
  refine wpAny_bind (m := slotArgs _ _ _) (wpAny_pure ?_)
  refine wpAny_bind (wpAny_fieldsOf hI rfl ?_)
  dsimp only
  refine wpAny_bind ?_
  unfold setEntries
  refine wpAny_bind (wpAny_setState_of ho rfl S.fits (wpAny_pure ?_))
  rw [if_neg (by simp)]
  simp only [Int.toNat_natCast]
  refine wpAny_bind (set_next S ho hi ?_)
  cases hx : (walkOf w a ep es)[i]? with
  | some e =>
    dsimp only [Option.map]
    refine wpAny_bind (wpAny_setField_rec hI (by simp) fun g1 hg1 k1 => wpAny_bind (wpAny_setField_rec (s := { s with heap := g1 }) hg1 (by simp) fun g2 hg2 k2 => wpAny_pure ⟨_, rfl, wpAny_pure (h1 e g2 hx hg2 (k1.trans k2))⟩))
  | none =>
    dsimp only [Option.map]
    refine wpAny_bind (wpAny_setField_rec hI (by simp) fun g1 hg1 k1 => wpAny_bind ?_)
    simp only [newExc, newTuple]
    refine wpAny_bind (wpAny_newObj_type ?_ (by size_fits))
    refine wpAny_bind (m := firstArgMember _ _) (wpAny_of_eq (a := Value.none) (by simp only [firstArgMember]; rfl) (wpAny_newObj_type ?_ (by size_fits)))
    simp only [raiseNew]
    refine wpAny_bind (wpAny_handled ?_)
    rw [show A.in1.handled = none from hh]
    refine wpAny_bind (wpAny_pure (wpAny_throw ?_))
    refine wpAny_bind (wpAny_isInstance (b := true) (T := "StopIteration") ⟨_, Heap.get?_push_size _ rfl, rfl⟩ isSubtype_stop (wpAny_pure ?_))
    exact h2 hx _ ((k1.extBut.push _).push _)
/-- what holds ahead of the turn i -/
def ItSt (prog : Program) (w : World) (a I : Addr) (es : Array (Int × Value)) (t : SetTable) (ep : Nat) (ps : List Nat) (i : Nat) (s : Shared) : Prop := s.heap.get? a = some (setObj es ep t) ∧ s.heap.get? I = some (itObj a es.size ep (slotOf w ps i) i)
theorem it_walks (S : SetIs prog w ns es t ps) (hne : a ≠ I) (hh : A.handled = none) : WalksS prog w A I [I, a] [I] (fun x y => x = y) es.size (fun i v => ∃ e, (walkOf w a ep es)[i]? = some e ∧ v = e.2) (ItSt prog w a I es t ep ps) where
  sub := fun b hb => by rw [List.mem_singleton] at hb; subst hb; exact List.mem_cons_self
  grefl := fun _ => rfl
  gtrans := fun _ _ _ h1 h2 => h1.trans h2
  frame := fun i s h' tk st _ k => ⟨k a (by simp) _ st.1, k I (by simp) _ st.2⟩
  item := fun i s Q E hi st h => by
    have hlen : (walkOf w a ep es).length = es.size := by rw [(walk_perm w a ep es).length_eq, Array.length_toList]
    refine it_turn S (Nat.le_of_lt hi) st.1 st.2 hh (fun e h' hx hg k => ?_) (fun hx => ?_)
    · refine h _ _ ⟨e, hx, rfl⟩ ⟨k.2 a hne ▸ st.1, hg⟩ ⟨fun b o hb e => ?_, rfl, rfl, rfl, Nat.le_refl _⟩
      rw [List.mem_singleton] at hb
      exact (k.2 b hb).trans e
    · rw [List.getElem?_eq_none_iff] at hx; omega
  done := fun s Q E st h => by
    have hlen : (walkOf w a ep es).length = es.size := by rw [(walk_perm w a ep es).length_eq, Array.length_toList]
    refine it_turn S (Nat.le_refl _) st.1 st.2 hh (fun e h' hx hg k => ?_) (fun hx h' k => ?_)
    · have := (List.getElem?_eq_some_iff.mp hx).1; omega
    · refine h _ ⟨fun b o hb e => ?_, rfl, rfl, rfl, Nat.le_refl _⟩
      rw [List.mem_singleton] at hb
      exact k b o hb e
  self := fun i s Q E st h => by
    have hT : s.TypeIs (.ref I) "set_iterator" := ⟨_, st.2, rfl⟩
    refine wpAny_pyIter_slot hT slot_self (wpAny_call_entry slot_self hT ent_self ?_ (args_self _))
    exact wpAny_pure ⟨_, rfl, "set_iterator", _, hT, slot_next.lookup, h⟩
theorem set_iter (S : SetIs prog w ns es t ps) (ho : s.heap.get? a = some (setObj es ep t)) {Q : Value → Shared → Prop} (h : Q (.ref s.heap.objs.size) { s with heap := s.heap.push (itObj a es.size ep 0 0) }) : wpAny (model prog w) A (pyIter (.ref a)) Q E s := by
  have hT : s.TypeIs (.ref a) "set" := ⟨_, ho, rfl⟩
  refine wpAny_pyIter_slot hT PySem.F.slot_set_iter (wpAny_call_entry PySem.F.slot_set_iter hT ent_iter ?_ (PySem.F.args_set_iter_1 _))
  unfold Builtin.«frozenset.__iter__» Builtin.Frozenset.slot0
  refine wpAny_bind (wpAny_bind (m := slotArgs _ _ _) (wpAny_pure (wpAny_pure ?_)))
  unfold Builtin.Frozenset.sizeOf setEntries
  refine wpAny_bind (wpAny_bind (wpAny_bind (wpAny_setState_of ho rfl S.fits (wpAny_pure (wpAny_pure ?_)))))
  unfold setDrawn
  refine wpAny_bind (wpAny_bind (wpAny_setState_of ho rfl S.fits ?_))
  unfold setsByText
  refine wpAny_bind (wpAny_bind (wpAny_askSetting (wpAny_pure (wpAny_pure ?_))))
  have hp := S.sm.plain
  obtain ⟨mask, place, dum, fin, led, mv, pl⟩ := t
  dsimp only at hp
  subst hp
  dsimp only
  split
  · rename_i hc
    rw [Bool.and_eq_true] at hc
    exact absurd (show false = true from hc.2) (by decide)
  · refine wpAny_bind (wpAny_pure (wpAny_bind (wpAny_setEpoch_of ho rfl S.fits (wpAny_bind (wpAny_newObj_type (wpAny_pure ⟨_, rfl, "set_iterator", _, ⟨_, Heap.get?_push_size _ rfl, rfl⟩, slot_next.lookup, h⟩))))))
theorem slot_zero (w : World) (ps : List Nat) : slotOf w ps 0 = 0 := by unfold slotOf; split <;> rfl
theorem set_nolen : typeLookup (.type "set") "__len__" = pure (some (.builtin "set.__len__")) := by rw [typeLookup_type, builtinLookup_eq_fast]; kernel_rfl
theorem wp_ite {M : Model} {α : Type} {c : Bool} {m1 m2 : Sem α} {Q : α → Shared → Prop} (h : c = true) (k : wpAny M A m1 Q E s) : wpAny M A (if c = true then m1 else m2) Q E s := by rw [if_pos h]; exact k
/-- all that a set holds, in some order -/
theorem set_collect (S : SetIs prog w ns es t ps) (ho : s.heap.get? a = some (setObj es ep t)) (hh : A.handled = none) {Q : List Value → Shared → Prop}
    (h : ∀ h' tk, (∀ b o, s.heap.get? b = some o → h'.get? b = some o) → s.heap.objs.size ≤ h'.objs.size → Q ((walkOf w a ep es).map (·.2)) { s with heap := h', toks := tk }) : wpAny (model prog w) A (collect (.ref a)) Q E s := by
  have ha : a < s.heap.objs.size := Heap.lt_size ho
  unfold collect
  refine wpAny_bind (wpAny_runValue (codeAny_builtin PySem.F.entry_proto_collect ?_)); rw [Around.under_plainId PySem.F.plain_proto_collect _]
  refine wpAny_bind (m := newList []) (wpAny_newObj_type (wpAny_pure ⟨plainId_quiet PySem.F.plain_list_iadd _, codeAny_builtin PySem.F.entry_list_iadd ?_⟩)); rw [Around.under_plainId PySem.F.plain_list_iadd _]
  show wpAny _ A.in1 (Builtin.List.listExtendWith (.ref s.heap.objs.size) (.ref a) (.ref s.heap.objs.size)) _ _ _
  have ho1 := Heap.get?_push_of_some { cls := .type "list", data := .seq ([] : List Value).toArray } ho
  have hL1 : (s.heap.push { cls := .type "list", data := .seq ([] : List Value).toArray }).get? s.heap.objs.size = some { cls := .type "list", data := .seq ([] : List Value).toArray } := Heap.get?_push_size _ rfl
  have hk1 : ∀ b o, s.heap.get? b = some o → (s.heap.push { cls := .type "list", data := .seq ([] : List Value).toArray }).get? b = some o := fun b o e => Heap.get?_push_of_some _ e
  have hs1 : (s.heap.push { cls := .type "list", data := .seq ([] : List Value).toArray }).objs.size = s.heap.objs.size + 1 := by rw [Heap.size_push]
  generalize s.heap.push { cls := .type "list", data := .seq ([] : List Value).toArray } = g1 at ho1 hL1 hk1 hs1
  have hT : Shared.TypeIs { s with heap := g1 } (.ref a) "set" := ⟨_, ho1, rfl⟩
  unfold Builtin.List.listExtendWith
  refine wpAny_bind (wpAny_typeOf hT ?_)
  have e1 : Builtin.List.listSameRef (.ref s.heap.objs.size) (.ref a) = false := by simp [Builtin.List.listSameRef]; exact Nat.ne_of_gt ha
  have e2 : (Value.type "set" == Value.type "list") = false := by decide
  have e3 : (Value.type "set" == Value.type "tuple") = false := by decide
  simp only [e1, e2, e3, Bool.or_false, Bool.false_eq_true, if_false]
  refine wpAny_bind (set_iter S ho1 ?_)
  refine wpAny_bind (wpAny_holding ?_)
  have hs2 : (g1.push (itObj a es.size ep 0 0)).objs.size = s.heap.objs.size + 2 := by rw [Heap.size_push, hs1]
  have ho2 : (g1.push (itObj a es.size ep 0 0)).get? a = some (setObj es ep t) := Heap.get?_push_of_some _ ho1
  have hL2 := Heap.get?_push_of_some (itObj a es.size ep 0 0) hL1
  have hI2 : (g1.push (itObj a es.size ep 0 0)).get? (s.heap.objs.size + 1) = some (itObj a es.size ep 0 0) := by rw [← hs1]; exact Heap.get?_push_size _ rfl
  have hk2 : ∀ b o, s.heap.get? b = some o → (g1.push (itObj a es.size ep 0 0)).get? b = some o := fun b o e => Heap.get?_push_of_some _ (hk1 b o e)
  show wpAny _ _ (Builtin.List.listLengthHint (.ref a)) _ _ { s with heap := g1.push (itObj a es.size ep 0 0) }
  rw [show ({ s with heap := g1 } : Shared).heap.objs.size = s.heap.objs.size + 1 from hs1]
  generalize g1.push (itObj a es.size ep 0 0) = g2 at hs2 ho2 hL2 hI2 hk2
  have hT2 : Shared.TypeIs { s with heap := g2 } (.ref a) "set" := ⟨_, ho2, rfl⟩
  unfold Builtin.List.listLengthHint
  refine wpAny_bind (wpAny_specialOf hT2 set_nolen ?_)
  have hsp : splitId "set.__len__" = some ("set", "__len__") := by decide +kernel
  dsimp only
  rw [hsp]
  refine wpAny_bind (m := isInstance (.ref a) (.type "set")) (wpAny_isInstance hT2 PySem.sub_set_self ?_)
  rw [if_neg (by decide)]
  refine wp_ite (by kernel_rfl) (wpAny_bind (wpAny_typeOf hT2 (wpAny_pure (wp_ite (by kernel_rfl) (wpAny_bind (wpAny_rule ?_))))))
  have hL3 := Heap.get?_update_self (Obj.mapSeq (·.push Value.none)) hL2 rfl
  have hL4 := Heap.get?_update_self (Obj.mapSeq (·.pop)) hL3 rfl
  have oth : ∀ b o, b ≠ s.heap.objs.size → g2.get? b = some o → ((g2.update s.heap.objs.size (Obj.mapSeq (·.push Value.none))).update s.heap.objs.size (Obj.mapSeq (·.pop))).get? b = some o := fun b o hb e => (Heap.get?_update_other _ _ (Ne.symm hb)).trans ((Heap.get?_update_other _ _ (Ne.symm hb)).trans e)
  have hlen : (walkOf w a ep es).length = es.size := by rw [(walk_perm w a ep es).length_eq, Array.length_toList]
  refine wpAny_bind (show wpAny _ _ (updateSeq s.heap.objs.size (·.push .none) >>= fun _ => updateSeq s.heap.objs.size (·.pop)) _ _ _ from wpAny_bind (wpAny_updateSeq hL2 rfl (wpAny_updateSeq hL3 rfl ?_)))
  have W := it_walks (A := A.in1) (I := s.heap.objs.size + 1) (ep := ep) S (Nat.ne_of_lt (Nat.lt_succ_of_lt ha)) (by simp [hh])
  refine wpAny_pure ⟨plainId_quiet PySem.F.plain_extend_loop _, codeAny_extend_loopS W (fits_of_scanBound S.bnd) s.heap.objs.size (by
      simp only [List.mem_cons, List.not_mem_nil, or_false, not_or]; exact ⟨Nat.ne_of_lt (Nat.lt_succ_self _), Nat.ne_of_gt ha⟩) _ es.size 0 _ _ _ rfl (Nat.zero_le _) ⟨oth _ _ (Nat.ne_of_lt ha) ho2, oth _ _ (Nat.ne_of_gt (Nat.lt_succ_self _)) (by rw [slot_zero]; exact hI2)⟩ hL4 (ItemsOf.nil _) fun s' acc c' hm hS' hacc => ?_⟩
  obtain ⟨h', g', d', tk', os'⟩ := s'
  have eg : s.gens = g' := hm.gens
  have ed : d' = s.drawn := hm.drawn
  have eo : os' = s.os := hm.os
  subst eg ed eo
  refine wpAny_bind (wpAny_load hS' (wpAny_pure ?_))
  have eacc : acc.toList = (walkOf w a ep es).map (·.2) := by
    refine List.ext_getElem? fun i => ?_
    rw [List.getElem?_map]
    by_cases hi : i < es.size
    · have hi' : i < acc.size := by rw [hacc.1]; exact hi
      obtain ⟨e, he, hv⟩ := hacc.2 i acc[i] (by simp [hi'])
      rw [he, Array.getElem?_toList]
      simp [hi', hv]
    · rw [List.getElem?_eq_none (by rw [Array.length_toList, hacc.1]; omega), List.getElem?_eq_none (by omega)]; rfl
  rw [eacc]
  refine h h' tk' (fun b o e => ?_) (Nat.le_of_lt (Heap.lt_size hS'))
  have hb : b < s.heap.objs.size := Heap.lt_size e
  exact hm.heap b o (by simp only [List.mem_cons, List.not_mem_nil, or_false, not_or]; exact ⟨Nat.ne_of_lt hb, Nat.ne_of_lt (Nat.lt_succ_of_lt hb)⟩) (oth b o (Nat.ne_of_lt hb) (hk2 b o e))
theorem ints_are : ∀ l : List (Int × Value), (∀ e ∈ l, ∃ n tk, e.2 = .int n tk) → IntsAre (l.map (·.2)) (l.map fun e => nOf e.2)
  | [], _ => .nil
  | e :: l, h => by
    obtain ⟨n, tk, q⟩ := h e (.head _)
    have := ints_are l fun x hx => h x (.tail _ hx)
    simp only [List.map_cons]
    rw [q]
    exact .cons n tk this
/-- sorted(a set of ints) -/
theorem sorted_set (S : SetIs prog w ns es t ps) (ho : s.heap.get? a = some (setObj es ep t)) (hh : A.handled = none) {Q : Value → Shared → Prop}
    (h : ∀ h' tk l (vs : List Value) (ms : List Int) c, (∀ b o, s.heap.get? b = some o → h'.get? b = some o) → s.heap.objs.size ≤ l → h'.get? l = some (seqObj "list" vs.toArray c) → IntsAre vs ms → ms.Pairwise (· < ·) → (∀ n, n ∈ ms ↔ n ∈ ns) → ms.length ≤ 3 → Q (.ref l) { s with heap := h', toks := tk }) :
    wpAny (model prog w) A (call (.builtin "sorted") [.ref a]) Q E s := by
  refine Calls.call_function_entry kind_sorted plain_sorted entry_sorted (args_sorted1 _) ?_; unfold Builtin.«sorted»
  have hlen : (walkOf w a ep es).length = es.size := by rw [(walk_perm w a ep es).length_eq, Array.length_toList]
  have hml : ((walkOf w a ep es).map (·.2)).length ≤ 3 := by rw [List.length_map, hlen, S.sz]; exact S.le
  refine wpAny_bind (m := checkCount "sorted" 1 1 _) (wpAny_pure (wpAny_bind (set_collect S ho (by simp [hh]) fun h1 tk hk1 hle => wpAny_bind (wpAny_newList ?_ (Nat.le_trans hml (by rw [sizeLine_eq]; decide))))))
  have hI : IntsAre ((walkOf w a ep es).map (·.2)) ((walkOf w a ep es).map fun e => nOf e.2) := ints_are _ fun e he => S.ints ((walk_perm w a ep es).mem_iff.mp he)
  have hperm : ((walkOf w a ep es).map fun e => nOf e.2).Perm (es.toList.map fun e => nOf e.2) := (walk_perm w a ep es).map _
  generalize (walkOf w a ep es).map (·.2) = vs at hml hI
  generalize ((walkOf w a ep es).map fun e => nOf e.2) = ks at hI hperm
  have hoL : (h1.push (seqObj "list" vs.toArray 0)).get? h1.objs.size = some (seqObj "list" vs.toArray 0) := Heap.get?_push_size _ rfl
  refine wpAny_bind (wpAny_holding (wpAny_call_entry slot_list_sort ⟨_, hoL, rfl⟩ entry_list_sort (list_sort_tree hoL hI (by omega) fun out ns' a1 a2 a3 => ⟨_, rfl, wpAny_pure ⟨_, rfl, ?_⟩⟩) (args_list_sort _)))
  obtain ⟨c, hc⟩ := sortedHeap_at (out := out) hoL
  refine h _ tk h1.objs.size out.toList ns' c (fun b o e => ?_) hle (by rw [Array.toArray_toList]; exact hc) a1 ?_ (fun n => ?_) ?_
  · have e1 := hk1 b o e
    have hlt := Heap.lt_size e1
    rw [sortedHeap_old (Nat.ne_of_lt hlt) (by rw [size_push']; exact Nat.lt_succ_of_lt hlt)]
    exact Heap.get?_push_of_some _ e1
  · have nd : ns'.Nodup := (a2.trans hperm).nodup_iff.mpr S.nd
    exact (a3.and nd).imp fun h => by omega
  · rw [(a2.trans hperm).mem_iff, S.mem]
  · rw [(a2.trans hperm).length_eq, List.length_map, Array.length_toList, S.sz]; exact S.le
end
end ST
namespace H5
/-- what a sign does to how many are open -/
def stp (c : Nat) : Int := if c = 40 then 1 else -1
/-- how many are open at place i -/
def dep (cs : List Nat) (i : Nat) : Int := ((cs.take i).map stp).sum
def deps (cs : List Nat) : List Int := (List.range (cs.length + 1)).map (dep cs)
/-- only signs -/
def Sg (cs : List Nat) : Prop := ∀ c ∈ cs, c = 40 ∨ c = 41
structure Clo (cs : List Nat) : Prop where
  sg : Sg cs
  nn : ∀ i, i ≤ cs.length → 0 ≤ dep cs i
  fin : dep cs cs.length = 0
theorem dep_zero (cs : List Nat) : dep cs 0 = 0 := rfl
theorem dep_succ {cs : List Nat} {i c : Nat} (h : cs[i]? = some c) : dep cs (i + 1) = dep cs i + stp c := by
  unfold dep
  obtain ⟨hi, rfl⟩ := List.getElem?_eq_some_iff.mp h
  rw [List.take_add_one, List.getElem?_eq_getElem hi, List.map_append, List.sum_append]
  simp only [Option.toList_some, List.map_cons, List.map_nil, List.sum_cons, List.sum_nil]
  omega
theorem dep_app (a b : List Nat) (i : Nat) : dep (a ++ b) i = if i ≤ a.length then dep a i else dep a a.length + dep b (i - a.length) := by
  unfold dep
  split
  · rename_i h
    rw [List.take_append_of_le_length h]
  · rename_i h
    rw [List.take_append, List.take_of_length_le (by omega), List.take_length, List.map_append, List.sum_append]
theorem dep_app_end (a b : List Nat) : dep (a ++ b) (a ++ b).length = dep a a.length + dep b b.length := by
  unfold dep
  rw [List.take_length, List.take_length, List.take_length, List.map_append, List.sum_append]
theorem Clo.app {a b : List Nat} (ha : Clo a) (hb : Clo b) : Clo (a ++ b) := by
  refine ⟨fun c hc => ?_, fun i hi => ?_, ?_⟩
  · rcases List.mem_append.mp hc with h | h
    · exact ha.sg c h
    · exact hb.sg c h
  · rw [dep_app]
    split
    · exact ha.nn i (by assumption)
    · have h2 := hb.nn (i - a.length) (by rw [List.length_append] at hi; omega)
      have h1 := ha.fin
      omega
  · rw [dep_app_end, ha.fin, hb.fin]; rfl
theorem Clo.nil : Clo [] := ⟨(fun _ h => nomatch h), fun i _ => by simp [dep], rfl⟩
/-- i opens and j is its partner -/
structure Mt (cs : List Nat) (i j : Nat) : Prop where
  lt : i < j
  ci : cs[i]? = some 40
  cj : cs[j]? = some 41
  eq : dep cs (j + 1) = dep cs i
  gt : ∀ m, i < m → m ≤ j → dep cs i < dep cs m
/-- the loop of partners behind k signs: the waiting places W, the table F -/
structure Inv (cs : List Nat) (k : Nat) (W F : List Nat) : Prop where
  wl : (W.length : Int) = dep cs k
  w : ∀ (d p : Nat), W[d]? = some p → p < k ∧ cs[p]? = some 40 ∧ dep cs p = (d : Int) ∧ ∀ m, p < m → m ≤ k → (d : Int) < dep cs m
  fl : F.length = cs.length
  f : ∀ i, i < k → (∃ d : Nat, W[d]? = some i) ∨ ∃ j, j < k ∧ (Mt cs i j ∨ Mt cs j i) ∧ F[i]? = some j ∧ F[j]? = some i
theorem Inv.start (cs : List Nat) : Inv cs 0 [] (List.replicate cs.length 0) :=
  ⟨rfl, fun d p h => by simp at h, by simp, fun i h => by omega⟩
theorem Inv.opn {cs : List Nat} {k : Nat} {W F : List Nat} (I : Inv cs k W F) (h : cs[k]? = some 40) : Inv cs (k + 1) (W ++ [k]) F := by
  have hd : dep cs (k + 1) = dep cs k + 1 := by rw [dep_succ h]; rfl
  have hwl := I.wl
  refine ⟨by rw [List.length_append, List.length_singleton, hd]; omega, fun d p e => ?_, I.fl, fun i hi => ?_⟩
  · by_cases c : d < W.length
    · rw [List.getElem?_append_left c] at e
      obtain ⟨h1, h2, h3, h4⟩ := I.w d p e
      refine ⟨by omega, h2, h3, fun m hm hm' => ?_⟩
      by_cases q : m = k + 1
      · subst q; omega
      · exact h4 m hm (by omega)
    · rw [List.getElem?_append_right (by omega)] at e
      have hdl : d = W.length := by
        by_cases q : d - W.length = 0
        · omega
        · rw [List.getElem?_eq_none (by simp; omega)] at e; cases e
      subst hdl
      simp at e
      subst e
      refine ⟨by omega, h, by omega, fun m hm hm' => ?_⟩
      have : m = k + 1 := by omega
      subst this
      omega
  · by_cases q : i = k
    · subst q
      exact .inl ⟨W.length, by simp⟩
    · rcases I.f i (by omega) with ⟨d, e⟩ | ⟨j, hj, r⟩
      · refine .inl ⟨d, ?_⟩
        rw [List.getElem?_append_left (List.getElem?_eq_some_iff.mp e).1]
        exact e
      · exact .inr ⟨j, by omega, r⟩
theorem Inv.cls {cs : List Nat} {k p : Nat} {W F : List Nat} (I : Inv cs k W F) (h : cs[k]? = some 41) (hp : W[W.length - 1]? = some p) (h0 : 0 < W.length) : Inv cs (k + 1) W.dropLast ((F.set p k).set k p) := by
  have hd : dep cs (k + 1) = dep cs k - 1 := by rw [dep_succ h]; rfl
  have hwl := I.wl
  obtain ⟨p1, p2, p3, p4⟩ := I.w _ _ hp
  have hk : k < cs.length := (List.getElem?_eq_some_iff.mp h).1
  have hfl := I.fl
  have M : Mt cs p k := ⟨p1, p2, h, by rw [hd, p3]; omega, fun m a b => by rw [p3]; exact p4 m a b⟩
  have hpk : p ≠ k := by omega
  have inj : ∀ (d : Nat), W[d]? = some p → d = W.length - 1 := fun d e => by
    have := (I.w d p e).2.2.1
    omega
  refine ⟨by rw [List.length_dropLast, hd]; omega, fun d q e => ?_, by simp [hfl], fun i hi => ?_⟩
  · have hdl : d < W.length - 1 := by
      have := (List.getElem?_eq_some_iff.mp e).1
      rw [List.length_dropLast] at this
      exact this
    rw [List.getElem?_dropLast, if_pos hdl] at e
    obtain ⟨q1, q2, q3, q4⟩ := I.w d q e
    refine ⟨by omega, q2, q3, fun m hm hm' => ?_⟩
    by_cases z : m = k + 1
    · subst z; omega
    · exact q4 m hm (by omega)
  · by_cases z : i = k
    · subst z
      refine .inr ⟨p, by omega, .inr M, ?_, ?_⟩
      · rw [List.getElem?_set_self (by simp; omega)]
      · rw [List.getElem?_set_ne (Ne.symm hpk), List.getElem?_set_self (by omega)]
    · rcases I.f i (by omega) with ⟨d, e⟩ | ⟨j, hj, hm, e1, e2⟩
      · by_cases zp : i = p
        · subst zp
          refine .inr ⟨k, by omega, .inl M, ?_, ?_⟩
          · rw [List.getElem?_set_ne (Ne.symm hpk), List.getElem?_set_self (by omega)]
          · rw [List.getElem?_set_self (by simp; omega)]
        · refine .inl ⟨d, ?_⟩
          have hd2 := (List.getElem?_eq_some_iff.mp e).1
          have : d ≠ W.length - 1 := fun q => by rw [q, hp] at e; exact zp (Option.some.inj e).symm
          rw [List.getElem?_dropLast, if_pos (by omega)]
          exact e
      · have nip : i ≠ p := fun q => by
          subst q
          rcases hm with m | m
          · have := p4 (j + 1) (by have := m.lt; omega) (by omega)
            have := m.eq
            omega
          · have := m.cj
            rw [p2] at this; cases this
        have njp : j ≠ p := fun q => by
          subst q
          rcases hm with m | m
          · have := m.cj
            rw [p2] at this; cases this
          · have := p4 (i + 1) (by have := m.lt; omega) (by omega)
            have := m.eq
            omega
        refine .inr ⟨j, by omega, hm, ?_, ?_⟩
        · rw [List.getElem?_set_ne (by omega), List.getElem?_set_ne (Ne.symm nip)]; exact e1
        · rw [List.getElem?_set_ne (by omega), List.getElem?_set_ne (Ne.symm njp)]; exact e2
/-- what the table tells at the end -/
structure Tab (cs : List Nat) (F : List Nat) : Prop where
  fl : F.length = cs.length
  f : ∀ i, i < cs.length → ∃ j, j < cs.length ∧ (Mt cs i j ∨ Mt cs j i) ∧ F[i]? = some j ∧ F[j]? = some i
theorem Mt.no {cs : List Nat} {i j : Nat} (m : Mt cs i j) : cs[i]? = some 40 := m.ci
/-- not closed: one sign turned -/
theorem sum_parity (cs : List Nat) (h : Sg cs) : ∃ k : Int, dep cs cs.length = (cs.length : Int) - 2 * k := by
  induction cs with
  | nil => exact ⟨0, rfl⟩
  | cons c r ih =>
    obtain ⟨k, hk⟩ := ih (fun x hx => h x (List.mem_cons_of_mem _ hx))
    have e : dep (c :: r) (c :: r).length = stp c + dep r r.length := by
      unfold dep
      rw [List.take_length, List.take_length, List.map_cons, List.sum_cons]
    rw [e, hk]
    rcases h c (List.mem_cons_self) with q | q <;> subst q
    · exact ⟨k, by simp [stp]; omega⟩
    · exact ⟨k + 1, by simp [stp]; omega⟩
theorem dep_le (cs : List Nat) : ∀ i : Nat, dep cs i ≤ (i : Int)
  | 0 => by rw [dep_zero]; exact Int.le_refl _
  | i + 1 => by
    have ih := dep_le cs i
    cases h : cs[i]? with
    | some c =>
      rw [dep_succ h]
      have : stp c ≤ 1 := by unfold stp; split <;> omega
      omega
    | none =>
      have e : dep cs (i + 1) = dep cs i := by
        unfold dep
        rw [List.take_add_one, h]
        simp
      omega
end H5
set_option Elab.async false
set_option linter.all false
set_option maxRecDepth 100000
namespace L2
open PySem PySem.Spec PyProof.Rows
structure Bl (mg : Str → Option Value) : Prop where
  isinstance : mg "isinstance" = none
  str : mg "str" = none
  all : mg "all" = none
  any : mg "any" = none
  min : mg "min" = none
  max : mg "max" = none
  len : mg "len" = none
  enumerate : mg "enumerate" = none
  sum : mg "sum" = none
  range : mg "range" = none
  list : mg "list" = none
  bool : mg "bool" = none
  int : mg "int" = none
  tuple : mg "tuple" = none
  zip : mg "zip" = none
  set : mg "set" = none
  sorted : mg "sorted" = none
  ValueError : mg "ValueError" = none
structure ExcC (K : PySem.W.Frag) (mg : Str → Option Value) (nm : Str) (C : Addr) : Prop where
  x : XC K C
  at_ : mg nm = some (.ref C)
structure ObjC (K : PySem.W.Frag) (mg : Str → Option Value) (nm : Str) (C : Addr) : Prop where
  k : Kind K C
  at_ : mg nm = some (.ref C)
  text : NoAttr K C "text"
  many : NoAttr K C "many"
  levels : NoAttr K C "levels"
theorem hu1 {A : Around} {k : Nat} (hr : Room k A) : A.units < cLine := Nat.lt_of_le_of_lt (Nat.le_add_right _ _) hr.units
theorem le_line {n : Nat} (h : n ≤ 1000) : n ≤ sizeLine := Nat.le_of_lt (small1000 h)
theorem same_upd {H H' : Hp} {l : Addr} {o : HO} (s : Same H H') (hl : H l = none) : Same H (upd H' l o) := fun b u e => by rw [upd_ne (ne_of_none e hl)]; exact s b u e
theorem same_new {H : Hp} {l : Addr} {o : HO} (hl : H l = none) : Same H (upd H l o) := same_upd (Same.refl H) hl
theorem cds_at {z : Str} {i c : Nat} (h : z.cps[i]? = some c) : (cds z)[i]? = some c := by rw [← h]; simp [cds]
theorem cds_lt {z : Str} {i c : Nat} (h : (cds z)[i]? = some c) : i < z.length := (List.getElem?_eq_some_iff.mp h).1
def iv (n : Nat) : V := .int n
def sg1 (c : Nat) : V := .str ⟨#[c]⟩
def okc (c : Nat) : Bool := c == 40 || c == 41 || c == 63
theorem okc_iff {c : Nat} : okc c = true ↔ c = 40 ∨ c = 41 ∨ c = 63 := by
  unfold okc
  simp only [Bool.or_eq_true, beq_iff_eq, or_assoc]
theorem in_three (c : Nat) : (!(Builtin.Str.occurrences (Str.ofString "()?") ⟨#[c]⟩ 0 (Str.ofString "()?").length 1).isEmpty) = okc c := by
  rw [StrLaws.found_one]
  have e : (Str.ofString "()?").cps.toList = [40, 41, 63] := by decide +kernel
  rw [e]
  unfold okc
  rw [Bool.eq_iff_iff]
  simp [or_assoc]
theorem in_q (z : Str) : (!(Builtin.Str.occurrences z (Str.ofString "?") 0 z.length 1).isEmpty) = (cds z).contains 63 := by
  rw [c_rub, StrLaws.found_one]
  rw [Bool.eq_iff_iff]
  simp [cds]
def depsTo (cs : List Nat) (i : Nat) : List Int := (List.range (i + 1)).map (H5.dep cs)
theorem depsTo_succ (cs : List Nat) (i : Nat) : depsTo cs (i + 1) = depsTo cs i ++ [H5.dep cs (i + 1)] := by
  unfold depsTo
  rw [List.range_succ, List.map_append]
  rfl
theorem depsTo_last (cs : List Nat) (i : Nat) : ∃ r, depsTo cs i = r ++ [H5.dep cs i] := by
  unfold depsTo
  rw [List.range_succ, List.map_append]
  exact ⟨_, rfl⟩
theorem depsTo_len (cs : List Nat) (i : Nat) : (depsTo cs i).length = i + 1 := by
  unfold depsTo
  rw [List.length_map, List.length_range]
theorem depsTo_all (cs : List Nat) : depsTo cs cs.length = H5.deps cs := rfl
theorem deps_len (cs : List Nat) : (H5.deps cs).length = cs.length + 1 := by
  unfold H5.deps
  rw [List.length_map, List.length_range]
def cloB (cs : List Nat) : Bool := !cs.contains 63 && (decide (H5.dep cs cs.length = 0) && (H5.deps cs).all fun d => decide (0 ≤ d))
theorem min_zero {cs : List Nat} {M : Int} (hM : M ∈ H5.deps cs) (hle : ∀ a ∈ H5.deps cs, M ≤ a) : decide (M = 0) = (H5.deps cs).all fun d => decide (0 ≤ d) := by
  have h0 : (0 : Int) ∈ H5.deps cs := List.mem_map.mpr ⟨0, List.mem_range.mpr (Nat.succ_pos _), H5.dep_zero cs⟩
  have h1 := hle 0 h0
  rw [Bool.eq_iff_iff, decide_eq_true_eq, List.all_eq_true]
  constructor
  · intro e d hd
    have := hle d hd
    exact decide_eq_true (by omega)
  · intro h
    have := of_decide_eq_true (h M hM)
    omega
theorem clo_of {cs : List Nat} (ok : cs.all okc = true) (h : cloB cs = true) : H5.Clo cs := by
  unfold cloB at h
  simp only [Bool.and_eq_true, Bool.not_eq_true', decide_eq_true_eq] at h
  obtain ⟨h1, h2, h3⟩ := h
  refine ⟨fun c hc => ?_, fun i hi => ?_, h2⟩
  · rcases okc_iff.mp (List.all_eq_true.mp ok c hc) with e | e | e
    · exact .inl e
    · exact .inr e
    · subst e
      rw [List.contains_iff_mem.mpr hc] at h1
      cases h1
  · have := List.all_eq_true.mp h3 (H5.dep cs i) (List.mem_map.mpr ⟨i, List.mem_range.mpr (by omega), rfl⟩)
    exact of_decide_eq_true this
theorem cloB_of {cs : List Nat} (h : H5.Clo cs) : cloB cs = true := by
  unfold cloB
  simp only [Bool.and_eq_true, Bool.not_eq_true', decide_eq_true_eq]
  refine ⟨?_, h.fin, List.all_eq_true.mpr fun d hd => ?_⟩
  · rw [Bool.eq_false_iff]
    intro e
    rcases h.sg 63 (List.contains_iff_mem.mp e) with q | q <;> cases q
  · obtain ⟨i, hi, rfl⟩ := List.mem_map.mp hd
    exact decide_eq_true (h.nn i (by have := List.mem_range.mp hi; omega))
theorem okc_of {cs : List Nat} (h : H5.Clo cs) : cs.all okc = true := List.all_eq_true.mpr fun c hc => by
  rcases h.sg c hc with q | q <;> subst q <;> rfl
def rLenS : List V → Hp → VK → Prop := fun xs H Q => ∃ z, xs = [.str z] ∧ z.length ≤ sizeLine ∧ Q (.int z.length) H
def rLenQ (K : PySem.W.Frag) : List V → Hp → VK → Prop := fun xs H Q => ∃ p ys, xs = [.ref p] ∧ (SqL K H p ys ∨ SqT K H p ys) ∧ Q (.int ys.length) H
def rAddS : R2 := fun x y H Q => ∃ i j, x = .str i ∧ y = .str j ∧ i.length + j.length ≤ sizeLine ∧ Q (.str (i ++ j)) H
def rInS : R2 := fun x y H Q => ∃ i j, x = .str i ∧ y = .str j ∧ Q (.bl (!(Builtin.Str.occurrences j i 0 j.length 1).isEmpty)) H
def rSumL (K : PySem.W.Frag) : List V → Hp → VK → Prop := fun xs H Q => ∃ (l : Addr) (ns : List Int), xs = [.ref l] ∧ SqL K H l (ns.map V.int) ∧ Q (.int ns.sum) H
def rMinL (K : PySem.W.Frag) : List V → Hp → VK → Prop := fun xs H Q => ∃ (l : Addr) (ns : List Int), xs = [.ref l] ∧ SqL K H l (ns.map V.int) ∧ ns ≠ [] ∧ ∀ M, M ∈ ns → (∀ a ∈ ns, M ≤ a) → Q (.int M) H
def rAllL (K : PySem.W.Frag) : List V → Hp → VK → Prop := fun xs H Q => ∃ (l : Addr) (bs : List Bool), xs = [.ref l] ∧ SqL K H l (bs.map V.bl) ∧ Q (.bl (bs.all id)) H
def rAnyL (K : PySem.W.Frag) : List V → Hp → VK → Prop := fun xs H Q => ∃ (l : Addr) (bs : List Bool), xs = [.ref l] ∧ SqL K H l (bs.map V.bl) ∧ Q (.bl (bs.any id)) H
def rIsN : R2 := fun x y H Q => y = .non ∧ Q (.bl (decide (x = .non))) H
def rNotN : R2 := fun x y H Q => y = .non ∧ Q (.bl (!decide (x = .non))) H
def rIsNotB : R2 := fun x y H Q => ∃ b c, x = .bl b ∧ y = .bl c ∧ Q (.bl (!(b == c))) H
def rGeS : R2 := fun x y H Q => ∃ i j, x = .str i ∧ y = .str j ∧ Q (.bl (!decide (cds i < cds j))) H
def rListOf (K : PySem.W.Frag) : List V → Hp → VK → Prop := fun xs H Q => ∃ p ys, xs = [.ref p] ∧ (SqL K H p ys ∨ SqT K H p ys) ∧ ∀ l, H l = none → Q (.ref l) (upd H l (.lst ys))
def rListS : List V → Hp → VK → Prop := fun xs H Q => ∃ z, xs = [.str z] ∧ z.length ≤ sizeLine ∧ ∀ l, H l = none → Q (.ref l) (upd H l (.lst ((cds z).map fun c => V.str ⟨#[c]⟩)))
section
variable {X : Cx}
theorem call_lenS : CallR X (.builtin "len") rLenS := call_len_str
theorem call_lenQ : CallR X (.builtin "len") (rLenQ X.K) := call_len_seq
theorem op_inS : OpR X (compareOp .In) rInS := op_in_str
theorem call_sumQ (hc : X.calm = true) : CallR X (.builtin "sum") (rSumL X.K) := call_sumL hc
theorem call_minQ (hc : X.calm = true) : CallR X (.builtin "min") (rMinL X.K) := call_minL hc
theorem call_allQ (hc : X.calm = true) : CallR X (.builtin "all") (rAllL X.K) := call_allL hc
theorem call_anyQ (hc : X.calm = true) : CallR X (.builtin "any") (rAnyL X.K) := call_anyL hc
theorem op_notQ : OpR X (compareOp .IsNot) rNotN := op_notN
theorem op_geS : OpR X (compareOp .GtE) rGeS := op_ge_str
theorem call_listS (hc : X.calm = true) : CallR X (.type "list") rListS := call_list_strL hc
end
section
variable {K : PySem.W.Frag} {σ : St} {H : Hp} {Q : VK} {a : Addr} {xs : List V} {z p q : Str}
theorem rd_lenZ (hz : z.length ≤ 1000) (h : Q (.int z.length) H) : rLenS [.str z] H Q := ⟨z, rfl, Nat.le_of_lt (small1000 hz), h⟩
theorem rd_lenQ (e : SqL K H a xs) (h : Q (.int xs.length) H) : rLenQ K [.ref a] H Q := ⟨a, xs, rfl, .inl e, h⟩
theorem rd_addZ (hz : p.length + q.length ≤ 1000) (h : Q (.str (p ++ q)) H) : rAddS (.str p) (.str q) H Q := ⟨p, q, rfl, rfl, Nat.le_of_lt (small1000 hz), h⟩
theorem rd_inS3 {c : Nat} (h : Q (.bl (okc c)) H) : rInS (.str ⟨#[c]⟩) (.str (Str.ofString "()?")) H Q := ⟨_, _, rfl, rfl, by rw [in_three]; exact h⟩
theorem rd_inSq (h : Q (.bl ((cds z).contains 63)) H) : rInS (.str (Str.ofString "?")) (.str z) H Q := ⟨_, _, rfl, rfl, by rw [in_q]; exact h⟩
theorem rd_sum {ns : List Int} (e : SqL K H a (ns.map V.int)) (h : Q (.int ns.sum) H) : rSumL K [.ref a] H Q := ⟨a, ns, rfl, e, h⟩
theorem rd_all {bs : List Bool} (e : SqL K H a (bs.map V.bl)) (h : Q (.bl (bs.all id)) H) : rAllL K [.ref a] H Q := ⟨a, bs, rfl, e, h⟩
theorem rd_any {bs : List Bool} (e : SqL K H a (bs.map V.bl)) (h : Q (.bl (bs.any id)) H) : rAnyL K [.ref a] H Q := ⟨a, bs, rfl, e, h⟩
theorem rd_isN {x : V} (h : Q (.bl (decide (x = .non))) H) : rIsN x .non H Q := ⟨rfl, h⟩
theorem rd_notN {x : V} (h : Q (.bl (!decide (x = .non))) H) : rNotN x .non H Q := ⟨rfl, h⟩
theorem rd_isNotB {b c : Bool} (h : Q (.bl (!(b == c))) H) : rIsNotB (.bl b) (.bl c) H Q := ⟨b, c, rfl, rfl, h⟩
theorem rd_geS (h : Q (.bl (!decide (cds p < cds q))) H) : rGeS (.str p) (.str q) H Q := ⟨p, q, rfl, rfl, h⟩
theorem rd_listOf (e : SqL K H a xs) (h : ∀ l, H l = none → Q (.ref l) (upd H l (.lst xs))) : rListOf K [.ref a] H Q := ⟨a, xs, rfl, .inl e, h⟩
theorem rd_listS (hz : z.length ≤ 1000) (h : ∀ l, H l = none → Q (.ref l) (upd H l (.lst ((cds z).map sg1)))) : rListS [.str z] H Q := ⟨z, rfl, Nat.le_of_lt (small1000 hz), h⟩
theorem rd_isi {x c : V} {t cv : Value} {b : Bool} (e1 : clsV c = some cv) (ty : TyOf K H x t) (k : PySem.W.kitOne K t cv = some b) (h : Q (.bl b) H) : rIsi K [x, c] H Q := ⟨x, c, t, cv, b, rfl, e1, ty, k, h⟩
theorem rd_lc {js : List (Option Nat)} {wi : TI} {g : TG} {te : TE} (h : wi σ H fun J H1 => ∀ l, H1 l = none → ∃ W : Nat → Nat → List V → St → Hp → Prop, (∃ m, W 0 m [] (blkSt js σ) (upd H1 l (.lst []))) ∧ ∀ i m acc σ' H', W i m acc σ' H' →
  ((J.stop i H' ∧ Q (.ref l) H') ∨ (J.go i H' ∧ ∀ x H2, J.yld i H' x H2 → g x σ' H2 fun σ2 H3 => te σ2 H3 fun v H4 => H4 l = some (.lst acc) ∧ acc.length < sizeLine ∧ ∃ m', m' < m ∧ W (i + 1) m' (acc ++ [v]) σ2 (upd H4 l (.lst (acc ++ [v])))))) : tLC js wi g te σ H Q := h
theorem rd_lcI {js : List (Option Nat)} {wi : TI} {g : TG} {tc : TT} {te : TE} (h : wi σ H fun J H1 => ∀ l, H1 l = none → ∃ W : Nat → Nat → List V → St → Hp → Prop, (∃ m, W 0 m [] (blkSt js σ) (upd H1 l (.lst []))) ∧ ∀ i m acc σ' H', W i m acc σ' H' →
  ((J.stop i H' ∧ Q (.ref l) H') ∨ (J.go i H' ∧ ∀ x H2, J.yld i H' x H2 → g x σ' H2 fun σ2 H3 => tc σ2 H3 fun b H3' => if b = true then te σ2 H3' fun v H4 => H4 l = some (.lst acc) ∧ acc.length < sizeLine ∧ ∃ m', m' < m ∧ W (i + 1) m' (acc ++ [v]) σ2 (upd H4 l (.lst (acc ++ [v])))
    else ∃ m', m' < m ∧ W (i + 1) m' acc σ2 H3'))) : tLCI js wi g tc te σ H Q := h
variable {RI : It → Hp → Prop} {t : TA} {te : TE} {i j : Int} {b : Addr} {ys : List V}
theorem rd_iList (h : te σ H fun x H1 => ∃ a, x = .ref a ∧ (∃ xs, SqL K H1 a xs) ∧ RI (Itl K a) H1) : iList K te σ H RI := h
theorem rd_refL {P : Addr → Prop} (e : SqL K H a xs) (h : P a) : ∃ k, V.ref a = .ref k ∧ (∃ xs, SqL K H k xs) ∧ P k := ⟨a, rfl, ⟨xs, e⟩, h⟩
theorem rd_iRng1 (h : t σ H fun vs H1 => ∃ j : Int, vs = [.int j] ∧ -(2 ^ 62) ≤ j ∧ j < 2 ^ 62 ∧ RI (Itr 0 j.toNat) H1) : iRng1 t σ H RI := h
theorem rd_iRng2 (h : t σ H fun vs H1 => ∃ i j : Int, vs = [.int i, .int j] ∧ (-(2 ^ 62) ≤ i ∧ i < 2 ^ 62 ∧ -(2 ^ 62) ≤ j ∧ j < 2 ^ 62) ∧ RI (Itr i (j - i).toNat) H1) : iRng2 t σ H RI := h
theorem rd_iRngD (h : t σ H fun vs H1 => ∃ i j : Int, vs = [.int i, .int j, .int (-1)] ∧ (-(2 ^ 62) ≤ i ∧ i < 2 ^ 62 ∧ -(2 ^ 62) ≤ j ∧ j < 2 ^ 62) ∧ RI (Itd i (i - j).toNat) H1) : iRngD t σ H RI := h
theorem rd_iZipS (h : t σ H fun vs H1 => ∃ x y, vs = [.str x, .str y] ∧ RI (ItzS x y) H1) : iZipS t σ H RI := h
theorem rd_str2 {P : Str → Str → Prop} (h : P p q) : ∃ x y, [V.str p, V.str q] = [.str x, .str y] ∧ P x y := ⟨p, q, rfl, h⟩
theorem rd_iZipL (h : t σ H fun vs H1 => ∃ a b, vs = [.ref a, .ref b] ∧ (∃ xs, SqL K H1 a xs) ∧ (∃ ys, SqL K H1 b ys) ∧ RI (ItzL K a b) H1) : iZipL K t σ H RI := h
theorem rd_refL2 {P : Addr → Addr → Prop} (e : SqL K H a xs) (e' : SqL K H b ys) (h : P a b) : ∃ k l, [V.ref a, V.ref b] = [.ref k, .ref l] ∧ (∃ xs, SqL K H k xs) ∧ (∃ ys, SqL K H l ys) ∧ P k l := ⟨a, b, rfl, ⟨xs, e⟩, ⟨ys, e'⟩, h⟩
theorem rd_iEnumL (h : t σ H fun vs H1 => ∃ a, vs = [.ref a] ∧ (∃ xs, SqL K H1 a xs) ∧ RI (Ite (Itl K a)) H1) : iEnumL K t σ H RI := h
theorem rd_refL1 {P : Addr → Prop} (e : SqL K H a xs) (h : P a) : ∃ k, [V.ref a] = [.ref k] ∧ (∃ xs, SqL K H k xs) ∧ P k := ⟨a, rfl, ⟨xs, e⟩, h⟩
theorem rd_ixLi {v : V} (e : SqL K H a xs) (hi : atI xs i = some v) (h : Q v H) : rIxL K (.ref a) (.int i) H Q := ⟨a, xs, i, v, rfl, rfl, e, hi, h⟩
end
section
variable {X : Cx} {K : PySem.W.Frag}
theorem pg_tupK (n : Nat) {es : List Expr} {k : Nat} {t : TGs} {pos : Pos} (hK : X.K = K) (hc : X.calm = true) (h : PGs X es t) (hn : (assignEach es X.env).length = n := by rfl) (hst : (assignEach es X.env).findIdx? (·.1) = none := by rfl) : PG X (.Tuple es k pos) (gTup K n t) := by
  subst hK
  exact pg_tup hc h hn hst
theorem ix_listK (hK : X.K = K) : IxR X (rIxL K) := by subst hK; exact ix_list
theorem ix_tupK (hK : X.K = K) : IxR X (rIxT K) := by subst hK; exact ix_tup
theorem op_in_seqK (hK : X.K = K) : OpR X (compareOp .In) (rIn K false) := by subst hK; exact op_in_seq
theorem call_isiK (hK : X.K = K) : CallR X (.builtin "isinstance") (rIsi K) := by subst hK; exact call_isi
theorem call_lenK (hK : X.K = K) : CallR X (.builtin "len") (rLenQ K) := by subst hK; exact call_lenQ
theorem call_sumK (hK : X.K = K) (hc : X.calm = true) : CallR X (.builtin "sum") (rSumL K) := by subst hK; exact call_sumQ hc
theorem call_minK (hK : X.K = K) (hc : X.calm = true) : CallR X (.builtin "min") (rMinL K) := by subst hK; exact call_minQ hc
theorem call_allK (hK : X.K = K) (hc : X.calm = true) : CallR X (.builtin "all") (rAllL K) := by subst hK; exact call_allQ hc
theorem call_anyK (hK : X.K = K) (hc : X.calm = true) : CallR X (.builtin "any") (rAnyL K) := by subst hK; exact call_anyQ hc
theorem sl_listK (hK : X.K = K) : SlR X (rSlL K) := by subst hK; exact sl_list
theorem mt_joinK (hK : X.K = K) : MtR X "str.join" (rJoin K) := by subst hK; exact mt_join
theorem op_cmpLK (hK : X.K = K) (hu : X.A.units < cLine) : OpR X (compareOp .Eq) (rCmpL K false) := by subst hK; exact op_cmpL hu
theorem op_cmpNeLK (hK : X.K = K) (hu : X.A.units < cLine) : OpR X (compareOp .NotEq) (rCmpL K true) := by subst hK; exact op_cmpNeL hu
theorem op_gtTK (hK : X.K = K) (hu : X.A.units < cLine) : OpR X (compareOp .Gt) (rGtT K) := by subst hK; exact op_gtT hu
section
variable {o e es : Expr} {es' : List Expr} {to te ts : TE} {t : TA} {name f : Str} {apos cpos pos p2 pos' : Pos} {T id : String} {r : V → List V → Hp → VK → Prop} {tg value : Expr} {tv : TE}
theorem pe_bm0K (hK : X.K = K) (pa : PlainAttrs T) (slot : Slot T name id) (hty : typeOf (.builtin id) = pure (.type "method_descriptor")) (hm : MtR X id r) (ho : PE X o to)
    (hbase : attributeBase o name X.env (eval o X.env) = eval o X.env := by rfl) (hline : (apos.endLine == cpos.line) = true := by rfl) : PE X (.Call (.Attribute o name apos) [] [] cpos) (tBM0 K T r to) := by
  subst hK
  exact pe_bm0 pa slot hty hm ho hbase hline
theorem pe_bmK (hK : X.K = K) (pa : PlainAttrs T) (slot : Slot T name id) (hty : typeOf (.builtin id) = pure (.type "method_descriptor")) (hm : MtR X id r) (ho : PE X o to) (ha : PA X (e :: es') t)
    (hbase : attributeBase o name X.env (eval o X.env) = eval o X.env := by rfl)
    (hfew : ((backTo cpos (starEach (e :: es') X.env)).all (fun x => !x.1) && (backToKw cpos (keywordEach [] X.env)).all (fun x => x.1.isSome)
      && decide ((e :: es').length + ([] : List Keyword).length + (if ([] : List Keyword).isEmpty then 0 else 1) < 30)) = true := by rfl)
    (hline : (apos.endLine == cpos.line) = true := by rfl) (hs : starEach (e :: es') X.env = (false, eval e X.env) :: starEach es' X.env := by rfl) (hplain : (backTo cpos (starEach es' X.env)).any (·.1) = false := by rfl) :
    PE X (.Call (.Attribute o name apos) (e :: es') [] cpos) (tBM K T r to t) := by
  subst hK
  exact pe_bm pa slot hty hm ho ha hbase hfew hline hs hplain
theorem ps_fldK (hK : X.K = K) (ha : PE X o to) (hv : PE X value tv) (hs : swapsWith value (some (.Attribute o f pos')) pos.line X.env = pure false) : PS X (.Assign [.Attribute o f pos'] value pos) (sFld K to tv f) := by
  subst hK
  exact ps_fld ha hv hs
theorem pi_listK (hK : X.K = K) (hl : PE X e te) : PI X tg e (iList K te) := by
  subst hK
  exact pi_list hl
theorem pi_enumLK (hK : X.K = K) {a : Expr} {p tp : Pos} {es : List Expr} {k1} (hg : Gl X "enumerate") (hm : X.mg "enumerate" = none) (ha : PA X [a] t) (hs : starEach [a] X.env = [(false, eval a X.env)] := by rfl) :
    PI X (.Tuple es k1 tp) (.Call (.Name "enumerate" p) [a] [] pos) (iEnumL K t) := by
  subst hK
  exact pi_enumL hg hm ha hs
theorem pi_zipLK (hK : X.K = K) {a b : Expr} {p tp : Pos} {es : List Expr} {k1} (hg : Gl X "zip") (hm : X.mg "zip" = none) (ha : PA X [a, b] t) (hs : starEach [a, b] X.env = (false, eval a X.env) :: starEach [b] X.env := by rfl) (hp : (backTo pos (starEach [b] X.env)).any (·.1) = false := by rfl) :
    PI X (.Tuple es k1 tp) (.Call (.Name "zip" p) [a, b] [] pos) (iZipL K t) := by
  subst hK
  exact pi_zipL hg hm ha hs hp
end
end
/-- a text that fills a row, as a test -/
def marks (r t : List Nat) : Bool := (r.zip t).all fun p => p.1 == 63 || p.1 == p.2
def filB (r t : List Nat) : Bool := t.all okc && (decide (t.length = r.length) && (cloB t && marks r t))
end L2
namespace L2
open PySem PySem.Spec PyProof.Rows
/-- a method of the text -/
structure DefM (K : PySem.W.Frag) (C : Addr) (x qual : Str) (st : Stmt) (ps : List Str) : Prop where
  ex : ∃ f fd, Fun K x qual st f fd ∧ Binds K fd ps [] ∧ PySem.W.findIn K (.ref C) x = some (some (.ref f)) ∧ PySem.W.isFn K (.ref f) = true
section
variable {P : Program} {w : World} {K : PySem.W.Frag} {mg : Str → Option Value} {base : Heap} {C : Addr} {x qual cn : Str} {st : Stmt} {N ps : List Str} {k : Nat} {sp : Sp}
theorem DefM.ok (D : DefM K C x qual st ps) (cl : Cls K C) (S : FnScope N ps (defScope st)) (len : ∀ vs H Q E, sp vs H Q E → vs.length = ps.length)
    (hbody : ∀ (f : Addr) (cdv : Value) (A : Around) (outer : List Env) (s : Shared) (H : Hp) (vs : List V) (Q : VK) (E : XK), Room k (A.deeper (PyProof.Rows.envOfC qual (defScope st) s.heap.objs.size f cdv)) → sp vs H Q E →
      ∃ t, PSs (cxOf CX0 P w K mg base N qual (defScope st) f cdv A outer s H E).nox (defBody st) t ∧ t { nx := fun _ H' => Q .non H', rt := Q } (start N vs) H) : CalM P w K mg base C (k + 1) x ps sp := by
  obtain ⟨f, fd, F, b, hf, hi⟩ := D
  exact ⟨⟨f, fd, ⟨hf, hi, F.kp⟩, F.ok S len (hbody f), b⟩, cl⟩
theorem DefM.init (D : DefM K C "__init__" qual st ps) (mk : PySem.W.makesIn K C = true) (kp : PySem.W.keepIn K (.ref C) = true) (at_ : mg cn = some (.ref C)) (S : FnScope N ps (defScope st)) (len : ∀ vs H Q E, sp vs H Q E → vs.length = ps.length)
    (hbody : ∀ (f : Addr) (cdv : Value) (A : Around) (outer : List Env) (s : Shared) (H : Hp) (vs : List V) (Q : VK) (E : XK), Room k (A.deeper (PyProof.Rows.envOfC qual (defScope st) s.heap.objs.size f cdv)) → sp vs H Q E →
      ∃ t, PSs (cxOf CX0 P w K mg base N qual (defScope st) f cdv A outer s H E).nox (defBody st) t ∧ t { nx := fun _ H' => Q .non H', rt := Q } (start N vs) H) : CalI P w K mg base cn C (k + 1) ps sp := by
  obtain ⟨f, fd, F, b, hf, hi⟩ := D
  exact ⟨⟨f, fd, ⟨mk, hf, hi, kp⟩, F.ok S len (hbody f), b⟩, at_⟩
end
/-- __init__ that sets one field -/
def spInit1 (C : Addr) (f : Str) : Sp := fun vs H Q _ => ∃ x dx v, vs = [.ref x, v] ∧ H x = some (.ins C dx []) ∧ Q .non (upd H x (.ins C dx [(f, v)]))
theorem len_spInit1 {C : Addr} {f a b : Str} : ∀ vs H Q E, spInit1 C f vs H Q E → vs.length = [a, b].length := fun vs H Q E h => by obtain ⟨x, dx, v, rfl, _⟩ := h; rfl
/-- a new object: what its making leaves -/
structure NewO (H H' : Hp) (x C dx : Addr) (fs : List (Str × V)) : Prop where
  same : Same H H'
  new : H x = none
  newd : H dx = none
  obj : H' x = some (.ins C dx fs)
theorem Same.newO {H H1 H2 : Hp} {x C dx : Addr} {fs : List (Str × V)} (s : Same H H1) (n : NewO H1 H2 x C dx fs) : NewO H H2 x C dx fs := ⟨s.trans n.same, s.free n.new, s.free n.newd, n.obj⟩
theorem newO_mk {H : Hp} {x dx C : Addr} {o1 o2 : HO} {fs : List (Str × V)} (hx : H x = none) (hdx : H dx = none) : NewO H (upd (upd (upd H dx o1) x o2) x (.ins C dx fs)) x C dx fs := ⟨same_upd (same_upd (same_new hdx) hx) hx, hx, hdx, upd_same⟩
theorem newO_mk0 {H : Hp} {x dx C : Addr} {o1 : HO} (hx : H x = none) (hdx : H dx = none) : NewO H (upd (upd H dx o1) x (.ins C dx [])) x C dx [] := ⟨same_upd (same_new hdx) hx, hx, hdx, upd_same⟩
section
variable {K : PySem.W.Frag} {σ : St} {H : Hp} {Q : VK} {C : Addr} {t : TA} {f : Str} {D : Ends} {ta tv : TE}
theorem rd_makeD {sp : Sp} (h : t σ H fun vs H1 => ∀ x dx, H1 x = none → H1 dx = none → dx ≠ x → sp (.ref x :: (vs ++ [])) (upd (upd H1 dx (.own x)) x (.ins C dx [])) (fun v H2 => v = .non ∧ Q (.ref x) H2) E0) : tMake C sp [] E0 t σ H Q := h
theorem rd_make0 (h : ∀ x dx H', NewO H H' x C dx [] → Q (.ref x) H') : tMake0 C σ H Q := fun x dx hx hdx _ => h x dx _ (newO_mk0 hx hdx)
theorem rd_init1 {v : V} {x dx : Addr} {H1 : Hp} {Q' : VK} (hx : H1 x = none) (hdx : H1 dx = none) (h : ∀ H', NewO H1 H' x C dx [(f, v)] → Q' (.ref x) H') : spInit1 C f ([V.ref x] ++ ([v] ++ [])) (upd (upd H1 dx (.own x)) x (.ins C dx [])) (fun w H2 => w = .non ∧ Q' (.ref x) H2) E0 :=
  ⟨x, dx, v, rfl, upd_same, rfl, h _ (newO_mk hx hdx)⟩
def rRevS : R2 := fun x y H2 Q => ∃ z, x = .str z ∧ y = .int (-1) ∧ z.length ≤ sizeLine ∧ Q (.str (revS z)) H2
theorem rd_revS {te ts : TE} (h : te σ H fun x H1 => ts σ H1 fun y H2 => rRevS x y H2 Q) : tRevS te ts σ H Q := h
theorem rd_rRevS {z : Str} (hz : z.length ≤ 1000) (h : Q (.str (revS z)) H) : rRevS (.str z) (.int (-1)) H Q := ⟨z, rfl, rfl, Nat.le_of_lt (small1000 hz), h⟩
def rRevL (K : PySem.W.Frag) : R2 := fun x y H2 Q => ∃ a xs, x = .ref a ∧ y = .int (-1) ∧ SqL K H2 a xs ∧ ∀ p, H2 p = none → Q (.ref p) (upd H2 p (.lst xs.reverse))
theorem rd_revL {te ts : TE} (h : te σ H fun x H1 => ts σ H1 fun y H2 => rRevL K x y H2 Q) : tRevL K te ts σ H Q := h
theorem rd_rRevL {a : Addr} {xs : List V} (e : SqL K H a xs) (h : ∀ p, H p = none → Q (.ref p) (upd H p (.lst xs.reverse))) : rRevL K (.ref a) (.int (-1)) H Q := ⟨a, xs, rfl, rfl, e, h⟩
end
end L2
namespace L2
open PySem PySem.Spec PyProof.Rows
def txt (cs : List Nat) : Str := ⟨cs.toArray⟩
theorem cds_txt (cs : List Nat) : cds (txt cs) = cs := rfl
theorem txt_len (cs : List Nat) : (txt cs).length = cs.length := by rw [← cds_len, cds_txt]
theorem catS_sg (cs : List Nat) : catS (cs.map fun c => ⟨#[c]⟩) = txt cs := by
  refine str_ext ?_
  show ((cs.map fun c => (⟨#[c]⟩ : Str)).map cds).flatten = cs
  induction cs with
  | nil => rfl
  | cons c r ih =>
    rw [List.map_cons, List.map_cons, List.flatten_cons, ih]
    rfl
theorem sum_ones (cs : List Nat) : ((cs.map fun c => (⟨#[c]⟩ : Str)).map (·.length)).sum = cs.length := by
  induction cs with
  | nil => rfl
  | cons c r ih =>
    rw [List.map_cons, List.map_cons, List.sum_cons, ih, List.length_cons]
    show 1 + r.length = _
    omega
theorem cut_to {xs : List V} {m : Nat} (h : m ≤ xs.length) : cutV xs none (some (m : Int)) = xs.take m := by
  unfold cutV
  rw [HT.sIx_none, HT.sIx_nat, Nat.min_eq_left h]
  simp
theorem cut_from (xs : List V) (m : Nat) : cutV xs (some (m : Int)) none = xs.drop m := by
  unfold cutV
  rw [HT.sIx_none, HT.sIx_nat]
  by_cases h : m ≤ xs.length
  · rw [Nat.min_eq_left h, List.take_of_length_le (by rw [List.length_drop]; omega)]
  · rw [Nat.min_eq_right (by omega), List.drop_length, List.drop_eq_nil_of_le (by omega)]
    simp
section
variable {K : PySem.W.Frag} {σ : St} {H : Hp} {Q : VK} {a : Addr}
theorem rd_join {cs : List Nat} (e : SqL K H a (cs.map sg1)) (hz : cs.length ≤ 1000) (h : Q (.str (txt cs)) H) : rJoin K (.str (Str.ofString "")) [.ref a] H Q := by
  refine ⟨a, cs.map fun c => ⟨#[c]⟩, congrArg V.str c_none, rfl, ?_, by rw [sum_ones]; omega, by rw [catS_sg]; exact h⟩
  rw [List.map_map]
  exact e
theorem mod_nat (n : Int) (k : Nat) (hk : 0 < k) : ∃ j : Nat, n % (k : Int) = (j : Int) ∧ j < k :=
  ⟨(n % (k : Int)).toNat, by have := Int.emod_nonneg n (show (k : Int) ≠ 0 by omega); omega, by have := Int.emod_lt_of_pos n (show 0 < (k : Int) by omega); have := Int.emod_nonneg n (show (k : Int) ≠ 0 by omega); omega⟩
theorem rd_cmpNe {b : Addr} {xs ys : List V} (e : SqL K H a xs) (e' : SqL K H b ys) (c : ∀ (i : Nat) u v, xs[i]? = some u → ys[i]? = some v → cmpOk u v = true) (h : Q (.bl (!eqs xs ys)) H) : rCmpL K true (.ref a) (.ref b) H Q := ⟨a, b, xs, ys, rfl, rfl, e, e', c, h⟩
theorem rd_cmpEq {b : Addr} {xs ys : List V} (e : SqL K H a xs) (e' : SqL K H b ys) (c : ∀ (i : Nat) u v, xs[i]? = some u → ys[i]? = some v → cmpOk u v = true) (h : Q (.bl (eqs xs ys)) H) : rCmpL K false (.ref a) (.ref b) H Q := ⟨a, b, xs, ys, rfl, rfl, e, e', c, h⟩
theorem eqs_nil (xs : List V) : eqs xs [] = xs.isEmpty := by cases xs <;> rfl
end
end L2
set_option Elab.async false
set_option linter.all false
set_option maxRecDepth 100000
namespace L2
open PySem PySem.Spec PyProof.Rows
def SetO (P : Program) (w : World) (ns : List Int) (a : Addr) : HO := .ext fun h => ∃ es ep t ps, h.get? a = some (ST.setObj es ep t) ∧ ST.SetIs P w ns es t ps
theorem ints_of_vals : ∀ {ns : List Int} {its : List Value}, Vals (ns.map V.int) its → IntsAre its ns
  | [], _, .nil => .nil
  | n :: ns, _, .cons r t => by
    obtain ⟨tk, rfl⟩ := r
    exact .cons n tk (ints_of_vals t)
theorem vals_of_ints : ∀ {ns : List Int} {its : List Value}, IntsAre its ns → Vals (ns.map V.int) its
  | _, _, .nil => .nil
  | _, _, .cons n t h => .cons ⟨t, rfl⟩ (vals_of_ints h)
theorem range_getD (ns : List Int) : (List.range ns.length).map (fun i => ns.getD i 0) = ns := by
  refine List.ext_getElem? fun i => ?_
  rw [List.getElem?_map]
  by_cases h : i < ns.length
  · rw [List.getElem?_range h, List.getElem?_eq_getElem h]
    simp [h]
  · rw [List.getElem?_eq_none (by rw [List.length_range]; omega), List.getElem?_eq_none (by omega)]; rfl
def rSet (P : Program) (w : World) : List V → Hp → VK → Prop := fun xs H Q => ∃ (a : Addr) (ns : List Int), xs = [.ref a] ∧ H a = some (.lst (ns.map V.int)) ∧ ns.length ≤ 3 ∧ ∀ p, H p = none → Q (.ref p) (upd H p (SetO P w ns p))
def rSorted (P : Program) (w : World) : List V → Hp → VK → Prop := fun xs H Q => ∃ (a : Addr) (ns : List Int), xs = [.ref a] ∧ H a = some (SetO P w ns a) ∧ ∀ (p : Addr) (ms : List Int), H p = none → ms.Pairwise (· < ·) → (∀ n, n ∈ ms ↔ n ∈ ns) → ms.length ≤ 3 → Q (.ref p) (upd H p (.lst (ms.map V.int)))
section
variable {X : Cx} {P : Program} {w : World}
theorem call_set (hc : X.calm = true) (hP : X.prog = P) (hw : X.w = w) : CallR X (.type "set") (rSet P w) := by
  subst hP hw
  intro pins s σ H xs us Q I r h
  obtain ⟨a, ns, rfl, hH, hn, q⟩ := h
  obtain ⟨u, rfl, rx⟩ := vals1 r
  cases rx
  obtain ⟨z, its, n, rv, hl, e⟩ := I.lstM hH
  have hlen : its.length = ns.length := by rw [← rv.length, List.length_map]
  refine ST.call_set3 (its := its.toArray) (ns := ns) (I.ok.hd hc) ⟨_, e, rfl, n, rfl⟩ (by simpa using ints_of_vals rv) (by simp; omega) fun h' tk hS kp => ?_
  rw [List.size_toArray, hlen, range_getD] at hS
  obtain ⟨es, ep, t, ps, ho, S, _⟩ := hS
  exact ⟨.ref s.heap.objs.size, _, I.laid (t' := tk) (fun b o e => kp b o (Heap.lt_size e) e) (Nat.le_refl _) (show ObjOk X.prog X.w _ h' _ (SetO _ _ _ _) from ⟨⟨es, ep, t, ps, ho, S⟩, ⟨_, ho⟩, fun h1 h2 ⟨es, ep, t, ps, ho, S⟩ k => ⟨es, ep, t, ps, k _ ho, S⟩⟩), rfl, q _ (I.hok.fresh (Nat.le_refl _))⟩
theorem call_sorted (hc : X.calm = true) (hP : X.prog = P) (hw : X.w = w) : CallR X (.builtin "sorted") (rSorted P w) := by
  subst hP hw
  intro pins s σ H xs us Q I r h
  obtain ⟨a, ns, rfl, hH, q⟩ := h
  obtain ⟨u, rfl, rx⟩ := vals1 r
  cases rx
  obtain ⟨⟨es, ep, t, ps, ho, S⟩, _⟩ := I.hok a _ hH
  refine ST.sorted_set S ho (I.ok.hd hc) fun h' tk l vs ms c kp hle hl hI hms hmem hlen => ?_
  exact ⟨.ref l, _, I.laid (t' := tk) kp hle (show ObjOk X.prog X.w _ h' _ (.lst _) from ⟨by rw [List.length_map]; exact Nat.le_trans hlen (by rw [sizeLine_eq]; decide), vs, c, vals_of_ints hI, hl⟩), rfl, q l ms (I.hok.fresh hle) hms hmem hlen⟩
end
section
variable {P : Program} {w : World} {H : Hp} {Q : VK} {a : Addr}
theorem rd_set {ns : List Int} (e : H a = some (.lst (ns.map V.int))) (hn : ns.length ≤ 3) (h : ∀ p, H p = none → Q (.ref p) (upd H p (SetO P w ns p))) : rSet P w [.ref a] H Q := ⟨a, ns, rfl, e, hn, h⟩
theorem rd_sorted {ns : List Int} (e : H a = some (SetO P w ns a)) (h : ∀ (p : Addr) (ms : List Int), H p = none → ms.Pairwise (· < ·) → (∀ n, n ∈ ms ↔ n ∈ ns) → ms.length ≤ 3 → Q (.ref p) (upd H p (.lst (ms.map V.int)))) : rSorted P w [.ref a] H Q := ⟨a, ns, rfl, e, h⟩
end
end L2
set_option Elab.async false
set_option linter.all false
namespace HM
open L2 H5
/-- nothing bars a filling -/
structure Fb (r : List Nat) : Prop where
  ev : r.length % 2 = 0
  pre : ∀ i, i ≤ r.length → 2 * (r.take i).count 41 ≤ i
  suf : ∀ i, i ≤ r.length → 2 * (r.drop i).count 40 + i ≤ r.length
/-- a filling -/
structure Fil (r t : List Nat) : Prop where
  len : t.length = r.length
  clo : Clo t
  put : ∀ (i c : Nat), r[i]? = some c → c = 63 ∨ t[i]? = some c
theorem dep_cons (x : Nat) (cs : List Nat) (i : Nat) : dep (x :: cs) (i + 1) = stp x + dep cs i := by
  simp [dep]
/-- the first k rubbed signs open, the others close -/
def early : Nat → List Nat → List Nat
  | _, [] => []
  | k, x :: r => if x = 63 then (if 0 < k then 40 :: early (k - 1) r else 41 :: early 0 r) else x :: early k r
theorem early_r0 (r : List Nat) : early 0 (63 :: r) = 41 :: early 0 r := rfl
theorem early_rs (k : Nat) (r : List Nat) : early (k + 1) (63 :: r) = 40 :: early k r := by
  conv => lhs; unfold early
  simp
theorem early_o {x : Nat} (k : Nat) (r : List Nat) (h : x ≠ 63) : early k (x :: r) = x :: early k r := by
  conv => lhs; unfold early
  rw [if_neg h]
theorem replN_y {a c n : Nat} (r : List Nat) : replN a c (n + 1) (a :: r) = c :: replN a c n r := by
  conv => lhs; unfold replN
  simp
theorem replN_z {a c : Nat} (r : List Nat) : replN a c 0 (a :: r) = a :: replN a c 0 r := by
  conv => lhs; unfold replN
  simp
theorem replN_o {a c n x : Nat} (r : List Nat) (h : x ≠ a) : replN a c n (x :: r) = x :: replN a c n r := by
  conv => lhs; unfold replN
  rw [if_neg (fun z => h z.1)]
theorem early_repl : ∀ (r : List Nat) (k m : Nat), r.length ≤ m → replN 63 41 m (replN 63 40 k r) = early k r
  | [], _, _, _ => rfl
  | x :: r, k, m, h => by
    simp only [List.length_cons] at h
    obtain ⟨m, rfl⟩ : ∃ m', m = m' + 1 := ⟨m - 1, by omega⟩
    by_cases e : x = 63
    · subst e
      cases k with
      | zero => rw [replN_z, replN_y, early_r0, early_repl r 0 m (by omega)]
      | succ k => rw [replN_y, replN_o _ (by decide), early_rs, early_repl r k (m + 1) (by omega)]
    · rw [replN_o _ e, replN_o _ e, early_o _ _ e, early_repl r k (m + 1) (by omega)]
theorem early_len : ∀ (k : Nat) (r : List Nat), (early k r).length = r.length
  | _, [] => rfl
  | k, x :: r => by
    unfold early
    split
    · split <;> simp [early_len]
    · simp [early_len]
theorem early_sg : ∀ (k : Nat) (r : List Nat), r.all okc = true → Sg (early k r)
  | _, [], _ => fun _ h => nomatch h
  | k, x :: r, h => by
    simp only [List.all_cons, Bool.and_eq_true] at h
    unfold early
    intro c hc
    split at hc
    · split at hc
      · rcases List.mem_cons.mp hc with e | e
        · exact .inl e
        · exact early_sg (k - 1) r h.2 c e
      · rcases List.mem_cons.mp hc with e | e
        · exact .inr e
        · exact early_sg 0 r h.2 c e
    · rename_i hx
      rcases List.mem_cons.mp hc with e | e
      · rcases okc_iff.mp h.1 with q | q | q
        · exact .inl (e.trans q)
        · exact .inr (e.trans q)
        · exact absurd q hx
      · exact early_sg k r h.2 c e
theorem early_mk : ∀ (k : Nat) (r : List Nat) (i c : Nat), r[i]? = some c → c = 63 ∨ (early k r)[i]? = some c
  | _, [], i, c, h => by simp at h
  | k, x :: r, 0, c, h => by
    simp at h
    subst h
    unfold early
    by_cases e : x = 63
    · exact .inl e
    · rw [if_neg e]; exact .inr rfl
  | k, x :: r, i + 1, c, h => by
    have h' : r[i]? = some c := by simpa using h
    unfold early
    split
    · split
      · simpa using early_mk (k - 1) r i c h'
      · simpa using early_mk 0 r i c h'
    · simpa using early_mk k r i c h'
theorem three (r : List Nat) (h : r.all okc = true) : r.count 40 + r.count 41 + r.count 63 = r.length := by
  induction r with
  | nil => rfl
  | cons x r ih =>
    simp only [List.all_cons, Bool.and_eq_true] at h
    have := ih h.2
    rcases okc_iff.mp h.1 with q | q | q <;> subst q <;> simp [List.count_cons] <;> omega
/-- all rubbed signs close: by what opens behind -/
theorem late_ok : ∀ (r : List Nat) (d : Int), r.all okc = true → (∀ i, i ≤ r.length → 2 * (r.drop i).count 40 + i ≤ r.length) → d + r.count 40 = r.count 41 + r.count 63 →
    (∀ i, i ≤ r.length → 0 ≤ d + dep (early 0 r) i) ∧ d + dep (early 0 r) r.length = 0
  | [], d, _, _, hf => by
    simp at hf
    subst hf
    exact ⟨fun i _ => by simp [early, dep], by simp [early, dep]⟩
  | x :: r, d, ho, hs, hf => by
    have ho' := ho
    simp only [List.all_cons, Bool.and_eq_true] at ho
    have h3 := three (x :: r) ho'
    have h0 := hs 0 (Nat.zero_le _)
    simp only [List.drop_zero, List.length_cons] at h0 h3
    have hs' : ∀ i, i ≤ r.length → 2 * (r.drop i).count 40 + i ≤ r.length := fun i hi => by
      have := hs (i + 1) (by simp; omega)
      simp only [List.drop_succ_cons, List.length_cons] at this
      omega
    have step : ∀ c : Nat, early 0 (x :: r) = c :: early 0 r → d + stp c + r.count 40 = r.count 41 + r.count 63 → (∀ i, i ≤ (x :: r).length → 0 ≤ d + dep (early 0 (x :: r)) i) ∧ d + dep (early 0 (x :: r)) (x :: r).length = 0 := fun c e hf' => by
      obtain ⟨h1, h2⟩ := late_ok r (d + stp c) ho.2 hs' hf'
      rw [e]
      refine ⟨fun i hi => ?_, ?_⟩
      · cases i with
        | zero => rw [dep_zero]; omega
        | succ i =>
          rw [dep_cons]
          have := h1 i (by simpa using hi)
          omega
      · rw [List.length_cons, dep_cons]; omega
    rcases okc_iff.mp ho.1 with q | q | q <;> subst q
    · exact step 40 (early_o _ _ (by decide)) (by simp [List.count_cons, stp] at hf ⊢; omega)
    · exact step 41 (early_o _ _ (by decide)) (by simp [List.count_cons, stp] at hf ⊢; omega)
    · exact step 41 (early_r0 _) (by simp [List.count_cons, stp] at hf ⊢; omega)
theorem early_ok : ∀ (r : List Nat) (k : Nat) (d : Int), r.all okc = true → 0 ≤ d → (∀ i, i ≤ r.length → 2 * ((r.take i).count 41 : Int) ≤ i + d) → (∀ i, i ≤ r.length → 2 * (r.drop i).count 40 + i ≤ r.length) → d + r.count 40 + 2 * k = r.count 41 + r.count 63 →
    (∀ i, i ≤ r.length → 0 ≤ d + dep (early k r) i) ∧ d + dep (early k r) r.length = 0
  | r, 0, d, ho, _, _, hs, hf => late_ok r d ho hs (by omega)
  | [], k + 1, d, _, h0, _, _, hf => by simp at hf; omega
  | x :: r, k + 1, d, ho, h0, hp, hs, hf => by
    have ho' := ho
    simp only [List.all_cons, Bool.and_eq_true] at ho
    have hs' : ∀ i, i ≤ r.length → 2 * (r.drop i).count 40 + i ≤ r.length := fun i hi => by
      have := hs (i + 1) (by simp; omega)
      simp only [List.drop_succ_cons, List.length_cons] at this
      omega
    have step : ∀ (c k' : Nat), early (k + 1) (x :: r) = c :: early k' r → 0 ≤ d + stp c → (∀ i, i ≤ r.length → 2 * ((r.take i).count 41 : Int) ≤ i + (d + stp c)) → d + stp c + r.count 40 + 2 * k' = r.count 41 + r.count 63 →
        (∀ i, i ≤ (x :: r).length → 0 ≤ d + dep (early (k + 1) (x :: r)) i) ∧ d + dep (early (k + 1) (x :: r)) (x :: r).length = 0 := fun c k' e hd hp' hf' => by
      obtain ⟨h1, h2⟩ := early_ok r k' (d + stp c) ho.2 hd hp' hs' hf'
      rw [e]
      refine ⟨fun i hi => ?_, ?_⟩
      · cases i with
        | zero => rw [dep_zero]; omega
        | succ i =>
          rw [dep_cons]
          have := h1 i (by simpa using hi)
          omega
      · rw [List.length_cons, dep_cons]; omega
    have pp : ∀ i, i ≤ r.length → 2 * (((x :: r).take (i + 1)).count 41 : Int) ≤ ((i + 1 : Nat) : Int) + d := fun i hi => hp (i + 1) (by simp; omega)
    rcases okc_iff.mp ho.1 with q | q | q <;> subst q
    · refine step 40 (k + 1) (early_o _ _ (by decide)) (by simp [stp]; omega) (fun i hi => ?_) (by simp [List.count_cons, stp] at hf ⊢; omega)
      have := pp i hi
      simp [List.count_cons, stp] at this ⊢
      omega
    · have h1 := pp 0 (Nat.zero_le _)
      refine step 41 (k + 1) (early_o _ _ (by decide)) (by simp [stp] at h1 ⊢; omega) (fun i hi => ?_) (by simp [List.count_cons, stp] at hf ⊢; omega)
      have := pp i hi
      simp [List.count_cons, stp] at this ⊢
      omega
    · refine step 40 k (early_rs _ _) (by simp [stp]; omega) (fun i hi => ?_) (by simp [List.count_cons, stp] at hf ⊢; omega)
      have := pp i hi
      simp [List.count_cons, stp] at this ⊢
      omega
theorem Fb.counts {r : List Nat} (F : Fb r) (ho : r.all okc = true) : r.count 40 ≤ r.length / 2 ∧ r.length / 2 ≤ r.count 40 + r.count 63 := by
  have h1 := F.suf 0 (Nat.zero_le _)
  have h2 := F.pre r.length (Nat.le_refl _)
  have h3 := three r ho
  have h4 := F.ev
  rw [List.drop_zero] at h1
  rw [List.take_length] at h2
  omega
theorem Fb.fil {r : List Nat} (F : Fb r) (ho : r.all okc = true) : Fil r (early (r.length / 2 - r.count 40) r) := by
  obtain ⟨h1, h2⟩ := F.counts ho
  have h3 := three r ho
  have h4 := F.ev
  obtain ⟨a, b⟩ := early_ok r (r.length / 2 - r.count 40) 0 ho (Int.le_refl _) (fun i hi => by have := F.pre i hi; omega) F.suf (by omega)
  refine ⟨early_len _ _, ⟨early_sg _ _ ho, fun i hi => ?_, ?_⟩, early_mk _ _⟩
  · rw [early_len] at hi
    have := a i hi
    omega
  · rw [early_len]; omega
theorem dep_count (t : List Nat) (h : Sg t) : ∀ i, i ≤ t.length → dep t i = (i : Int) - 2 * (t.take i).count 41 := by
  induction t with
  | nil => intro i hi; simp at hi; subst hi; simp [dep]
  | cons x t ih =>
    intro i hi
    cases i with
    | zero => simp [dep]
    | succ i =>
      rw [dep_cons, ih (fun c hc => h c (List.mem_cons_of_mem _ hc)) i (by simpa using hi)]
      rcases h x (List.mem_cons_self ..) with q | q <;> subst q <;> simp [List.count_cons, stp] <;> omega
theorem two (t : List Nat) (h : Sg t) : t.count 40 + t.count 41 = t.length := by
  induction t with
  | nil => rfl
  | cons x r ih =>
    have := ih fun c hc => h c (List.mem_cons_of_mem _ hc)
    rcases h x (List.mem_cons_self ..) with q | q <;> subst q <;> simp [List.count_cons] <;> omega
theorem count_mono {a : Nat} (ha : a ≠ 63) : ∀ {r t : List Nat}, (∀ (i : Nat) (c : Nat), r[i]? = some c → c = 63 ∨ t[i]? = some c) → r.count a ≤ t.count a
  | [], t, _ => Nat.zero_le _
  | x :: r, [], h => by
    have hx : ∀ c ∈ x :: r, c = 63 := fun c hc => by
      obtain ⟨i, hi⟩ := List.getElem?_of_mem hc
      rcases h i c hi with q | q
      · exact q
      · simp at q
    rw [List.count_eq_zero_of_not_mem (fun q => ha (hx a q))]
    exact Nat.zero_le _
  | x :: r, y :: t, h => by
    have ih : r.count a ≤ t.count a := count_mono ha fun i c hi => by simpa using h (i + 1) c (by simpa using hi)
    have h0 := h 0 x rfl
    simp at h0
    rw [List.count_cons, List.count_cons]
    rcases h0 with q | q
    · subst q
      have : (63 == a) = false := by simpa using Ne.symm ha
      rw [this]
      simp
      split <;> omega
    · subst q; omega
theorem Fil.fb {r t : List Nat} (F : Fil r t) : Fb r := by
  have C := F.clo
  obtain ⟨k, hk⟩ := sum_parity t C.sg
  have hl := F.len
  have hfin := C.fin
  refine ⟨by omega, fun i hi => ?_, fun i hi => ?_⟩
  · have h1 : (r.take i).count 41 ≤ (t.take i).count 41 := count_mono (by decide) fun j c hj => by
      have hji : j < i := by
        have := (List.getElem?_eq_some_iff.mp hj).1
        rw [List.length_take] at this
        omega
      rw [List.getElem?_take_of_lt hji] at hj ⊢
      exact F.put j c hj
    have h2 := C.nn i (by omega)
    rw [dep_count t C.sg i (by omega)] at h2
    omega
  · have h1 : (r.drop i).count 40 ≤ (t.drop i).count 40 := count_mono (by decide) fun j c hj => by
      rw [List.getElem?_drop] at hj ⊢
      exact F.put (i + j) c hj
    have h2 := C.nn i (by omega)
    rw [dep_count t C.sg i (by omega)] at h2
    have h3 := dep_count t C.sg t.length (Nat.le_refl _)
    rw [hfin, List.take_length] at h3
    have h4 := two t C.sg
    have h5 : t.count 40 = (t.take i).count 40 + (t.drop i).count 40 := by rw [← List.count_append, List.take_append_drop]
    have h6 := two (t.take i) fun c hc => C.sg c (List.mem_of_mem_take hc)
    rw [List.length_take, Nat.min_eq_left (by omega)] at h6
    omega
theorem marks_iff : ∀ (r t : List Nat), t.length = r.length → (marks r t = true ↔ ∀ (i : Nat) (c : Nat), r[i]? = some c → c = 63 ∨ t[i]? = some c)
  | [], [], _ => by simp [marks]
  | [], _ :: _, h => by simp at h
  | _ :: _, [], h => by simp at h
  | x :: r, y :: t, h => by
    have ih := marks_iff r t (by simpa using h)
    have e : marks (x :: r) (y :: t) = ((x == 63 || x == y) && marks r t) := rfl
    rw [e, Bool.and_eq_true, ih]
    constructor
    · rintro ⟨h1, h2⟩ i c hi
      cases i with
      | zero =>
        simp at hi
        subst hi
        simp only [Bool.or_eq_true, beq_iff_eq] at h1
        rcases h1 with q | q
        · exact .inl q
        · exact .inr (by simp [q])
      | succ i => simpa using h2 i c (by simpa using hi)
    · intro h1
      refine ⟨?_, fun i c hi => by simpa using h1 (i + 1) c (by simpa using hi)⟩
      rcases h1 0 x rfl with q | q
      · simp [q]
      · have : y = x := by simpa using q
        simp [this]
theorem fil_iff {r t : List Nat} : filB r t = true ↔ Fil r t := by
  unfold filB
  simp only [Bool.and_eq_true, decide_eq_true_eq]
  constructor
  · rintro ⟨h1, h2, h3, h4⟩
    exact ⟨h2, clo_of h1 h3, (marks_iff r t h2).mp h4⟩
  · intro F
    exact ⟨okc_of F.clo, F.len, cloB_of F.clo, (marks_iff r t F.len).mpr F.put⟩
end HM
set_option Elab.async false
set_option linter.all false
namespace HM
open L2 H5
theorem stp_two {c : Nat} (h : c = 40 ∨ c = 41) : stp c = 1 ∧ c = 40 ∨ stp c = -1 ∧ c = 41 := by
  rcases h with rfl | rfl
  · exact .inl ⟨rfl, rfl⟩
  · exact .inr ⟨rfl, rfl⟩
theorem sg_at {t : List Nat} (h : Sg t) {i : Nat} (hi : i < t.length) : ∃ c, t[i]? = some c ∧ (c = 40 ∨ c = 41) := ⟨t[i], List.getElem?_eq_getElem hi, h _ (List.getElem_mem hi)⟩
theorem dep_par {t : List Nat} (hs : Sg t) : ∀ i, i ≤ t.length → (dep t i - i) % 2 = 0
  | 0, _ => by rw [dep_zero]; rfl
  | i + 1, h => by
    obtain ⟨c, hc, sc⟩ := sg_at hs (show i < t.length by omega)
    have := dep_par hs i (by omega)
    rw [dep_succ hc]
    rcases stp_two sc with ⟨e, _⟩ | ⟨e, _⟩ <;> rw [e] <;> omega
/-- where one path leaves another upwards -/
theorem first_over {t e : List Nat} (ht : Sg t) (he : Sg e) (hl : t.length = e.length) : ∀ i, i ≤ t.length → dep e i < dep t i → ∃ j, j < i ∧ dep t j = dep e j ∧ t[j]? = some 40 ∧ e[j]? = some 41
  | 0, _, h => by rw [dep_zero, dep_zero] at h; omega
  | i + 1, hi, h => by
    by_cases q : dep e i < dep t i
    · obtain ⟨j, hj, r⟩ := first_over ht he hl i (by omega) q
      exact ⟨j, by omega, r⟩
    · obtain ⟨c, hc, sc⟩ := sg_at ht (show i < t.length by omega)
      obtain ⟨d, hd, sd⟩ := sg_at he (show i < e.length by omega)
      have p1 := dep_par ht i (by omega)
      have p2 := dep_par he i (by omega)
      rw [dep_succ hc, dep_succ hd] at h
      rcases stp_two sc with ⟨e1, rfl⟩ | ⟨e1, rfl⟩ <;> rcases stp_two sd with ⟨e2, rfl⟩ | ⟨e2, rfl⟩ <;> simp only [e1, e2] at h
      · omega
      · exact ⟨i, by omega, by omega, hc, hd⟩
      · omega
      · omega
structure Max (r f : List Nat) : Prop where
  fil : Fil r f
  top : ∀ t, Fil r t → ∀ i, i ≤ r.length → dep t i ≤ dep f i
structure Min (r f : List Nat) : Prop where
  fil : Fil r f
  bot : ∀ t, Fil r t → ∀ i, i ≤ r.length → dep f i ≤ dep t i
theorem Fil.at' {r t : List Nat} (F : Fil r t) {i c : Nat} (h : r[i]? = some c) : ∃ d, t[i]? = some d ∧ (d = 40 ∨ d = 41) ∧ (c = 63 ∨ c = d) := by
  obtain ⟨d, hd, sd⟩ := sg_at F.clo.sg (show i < t.length by rw [F.len]; exact (List.getElem?_eq_some_iff.mp h).1)
  refine ⟨d, hd, sd, ?_⟩
  rcases F.put i c h with q | q
  · exact .inl q
  · rw [hd] at q; exact .inr (Option.some.inj q).symm
theorem at_of_lt {r : List Nat} {i : Nat} (h : i < r.length) : ∃ c, r[i]? = some c := ⟨_, List.getElem?_eq_getElem h⟩
theorem early_after : ∀ (r : List Nat) (k i j : Nat), r[i]? = some 63 → (early k r)[i]? = some 41 → i ≤ j → r[j]? = some 63 → (early k r)[j]? = some 41
  | [], _, _, _, h, _, _, _ => by simp at h
  | x :: r, k, i, j, h1, h2, hij, h3 => by
    by_cases e : x = 63
    · subst e
      cases k with
      | zero =>
        rw [early_r0] at h2 ⊢
        cases j with
        | zero => rfl
        | succ j =>
          simp only [List.getElem?_cons_succ] at h3 ⊢
          cases i with
          | zero => exact early_zero r j h3
          | succ i =>
            simp only [List.getElem?_cons_succ] at h1 h2
            exact early_after r 0 i j h1 h2 (by omega) h3
      | succ k =>
        rw [early_rs] at h2 ⊢
        cases i with
        | zero => simp at h2
        | succ i =>
          cases j with
          | zero => omega
          | succ j =>
            simp only [List.getElem?_cons_succ] at h1 h2 h3 ⊢
            exact early_after r k i j h1 h2 (by omega) h3
    · rw [early_o _ _ e] at h2 ⊢
      cases i with
      | zero => simp at h1; exact absurd h1 e
      | succ i =>
        cases j with
        | zero => omega
        | succ j =>
          simp only [List.getElem?_cons_succ] at h1 h2 h3 ⊢
          exact early_after r k i j h1 h2 (by omega) h3
where
  early_zero : ∀ (r : List Nat) (j : Nat), r[j]? = some 63 → (early 0 r)[j]? = some 41
    | [], _, h => by simp at h
    | x :: r, j, h => by
      by_cases e : x = 63
      · subst e
        rw [early_r0]
        cases j with
        | zero => rfl
        | succ j => simp only [List.getElem?_cons_succ] at h ⊢; exact early_zero r j h
      · rw [early_o _ _ e]
        cases j with
        | zero => simp at h; exact absurd h e
        | succ j => simp only [List.getElem?_cons_succ] at h ⊢; exact early_zero r j h
/-- what is never lower from a place on -/
theorem dep_from {t e : List Nat} (ht : Sg t) (he : Sg e) (hl : t.length = e.length) {i : Nat} (h : ∀ j, i ≤ j → j < t.length → e[j]? = some 41 ∨ t[j]? = some 40 ∨ t[j]? = e[j]?) : ∀ j, i ≤ j → j ≤ t.length → dep e j - dep e i ≤ dep t j - dep t i := by
  intro j hij hj
  obtain ⟨k, rfl⟩ : ∃ k, j = i + k := ⟨j - i, by omega⟩
  induction k with
  | zero => simp
  | succ k ih =>
    have h1 := ih (by omega) (by omega)
    obtain ⟨c, hc, sc⟩ := sg_at ht (show i + k < t.length by omega)
    obtain ⟨d, hd, sd⟩ := sg_at he (show i + k < e.length by omega)
    have h2 := h (i + k) (by omega) (by omega)
    rw [← Nat.add_assoc, dep_succ hc, dep_succ hd]
    rcases stp_two sc with ⟨e1, rfl⟩ | ⟨e1, rfl⟩ <;> rcases stp_two sd with ⟨e2, rfl⟩ | ⟨e2, rfl⟩ <;> simp only [e1, e2]
    · omega
    · omega
    · rw [hc, hd] at h2; simp at h2
    · omega
theorem early_max {r : List Nat} (F : Fb r) (ho : r.all okc = true) : Max r (early (r.length / 2 - r.count 40) r) := by
  have E := F.fil ho
  generalize hk : r.length / 2 - r.count 40 = k at E
  refine ⟨E, fun t T i hi => ?_⟩
  refine Int.not_lt.mp fun q => ?_
  obtain ⟨j, hj, e0, e1, e2⟩ := first_over T.clo.sg E.clo.sg (by rw [T.len, E.len]) i (by rw [T.len]; exact hi) q
  obtain ⟨c, hc⟩ := at_of_lt (show j < r.length by omega)
  have c63 : c = 63 := by
    rcases T.put j c hc with q1 | q1
    · exact q1
    · rcases E.put j c hc with q2 | q2
      · exact q2
      · rw [e1] at q1; rw [e2] at q2
        cases q1; cases q2
  subst c63
  have h := dep_from (i := j) T.clo.sg E.clo.sg (by rw [T.len, E.len]) (fun m hm hmt => by
    rw [T.len] at hmt
    obtain ⟨x, hx⟩ := at_of_lt hmt
    rcases E.put m x hx with q1 | q1
    · subst q1
      exact .inl (early_after r k j m hc e2 hm hx)
    · rcases T.put m x hx with q2 | q2
      · subst q2
        exact .inl (early_after r k j m hc e2 hm hx)
      · exact .inr (.inr (by rw [q1, q2]))) r.length (by omega) (by rw [T.len]; exact Nat.le_refl _)
  have h0 := dep_from (i := j + 1) T.clo.sg E.clo.sg (by rw [T.len, E.len]) (fun m hm hmt => by
    rw [T.len] at hmt
    obtain ⟨x, hx⟩ := at_of_lt hmt
    rcases E.put m x hx with q1 | q1
    · subst q1
      exact .inl (early_after r k j m hc e2 (by omega) hx)
    · rcases T.put m x hx with q2 | q2
      · subst q2
        exact .inl (early_after r k j m hc e2 (by omega) hx)
      · exact .inr (.inr (by rw [q1, q2]))) r.length (by omega) (by rw [T.len]; exact Nat.le_refl _)
  have f1 : dep t r.length = 0 := by rw [← T.len]; exact T.clo.fin
  have f2 : dep (early k r) r.length = 0 := by rw [← E.len]; exact E.clo.fin
  rw [dep_succ e1, dep_succ e2, f1, f2, show stp 40 = 1 from rfl, show stp 41 = -1 from rfl] at h0
  omega
def rest : List Nat → Int → Bool
  | [], d => d == 0
  | c :: s, d => decide (0 ≤ d) && ((c != 41 && rest s (d + 1)) || (c != 40 && rest s (d - 1)))
theorem rest_nn {s : List Nat} {d : Int} (h : rest s d = true) : 0 ≤ d := by
  cases s with
  | nil => simp only [rest, beq_iff_eq] at h; omega
  | cons c s => simp only [rest, Bool.and_eq_true, decide_eq_true_eq] at h; exact h.1
theorem rest_cons {c : Nat} {s : List Nat} {d : Int} : rest (c :: s) d = true ↔ 0 ≤ d ∧ ((c ≠ 41 ∧ rest s (d + 1) = true) ∨ (c ≠ 40 ∧ rest s (d - 1) = true)) := by
  simp [rest]
theorem drop_at {r : List Nat} {i c : Nat} (h : r[i]? = some c) : r.drop i = c :: r.drop (i + 1) := by
  obtain ⟨hi, rfl⟩ := List.getElem?_eq_some_iff.mp h
  exact List.drop_eq_getElem_cons hi
theorem rest_step {r : List Nat} {i c x : Nat} {d : Int} (h : r[i]? = some c) (hx : x = 40 ∨ x = 41) (hc : c = 63 ∨ c = x) (h0 : 0 ≤ d) (hr : rest (r.drop (i + 1)) (d + stp x) = true) : rest (r.drop i) d = true := by
  rw [drop_at h, rest_cons]
  refine ⟨h0, ?_⟩
  rcases hx with rfl | rfl
  · refine .inl ⟨?_, hr⟩
    rcases hc with rfl | rfl <;> decide
  · refine .inr ⟨?_, hr⟩
    rcases hc with rfl | rfl <;> decide
theorem rest_next {r : List Nat} {i c : Nat} {d : Int} (h : r[i]? = some c) (ho : okc c = true) (hr : rest (r.drop i) d = true) : ∃ x, (x = 40 ∨ x = 41) ∧ (c = 63 ∨ c = x) ∧ rest (r.drop (i + 1)) (d + stp x) = true := by
  rw [drop_at h, rest_cons] at hr
  rcases hr.2 with ⟨q, hr⟩ | ⟨q, hr⟩
  · refine ⟨40, .inl rfl, ?_, hr⟩
    rcases okc_iff.mp ho with e | e | e
    · exact .inr e
    · exact absurd e q
    · exact .inl e
  · refine ⟨41, .inr rfl, ?_, hr⟩
    rcases okc_iff.mp ho with e | e | e
    · exact absurd e q
    · exact .inr e
    · exact .inl e
theorem rest_of_fil {r t : List Nat} (F : Fil r t) : ∀ i, i ≤ r.length → rest (r.drop i) (dep t i) = true := by
  intro i hi
  obtain ⟨k, hk⟩ : ∃ k, k = r.length - i := ⟨_, rfl⟩
  induction k generalizing i with
  | zero =>
    have : i = r.length := by omega
    subst this
    rw [List.drop_length, ← F.len, F.clo.fin]
    rfl
  | succ k ih =>
    obtain ⟨c, hc⟩ := at_of_lt (show i < r.length by omega)
    obtain ⟨d, hd, sd, hcd⟩ := F.at' hc
    have := ih (i + 1) (by omega) (by omega)
    rw [dep_succ hd] at this
    exact rest_step hc sd hcd (F.clo.nn i (by rw [F.len]; exact hi)) this
/-- the beginning of a filling -/
structure Pf (r u : List Nat) : Prop where
  len : u.length ≤ r.length
  sg : Sg u
  nn : ∀ i, i ≤ u.length → 0 ≤ dep u i
  put : ∀ (i c : Nat), i < u.length → r[i]? = some c → c = 63 ∨ u[i]? = some c
theorem Pf.nil {r : List Nat} : Pf r [] := ⟨Nat.zero_le _, (fun _ h => nomatch h), (fun i _ => by simp [dep]), (fun i c h => nomatch h)⟩
theorem dep_snoc_le {u : List Nat} {x i : Nat} (h : i ≤ u.length) : dep (u ++ [x]) i = dep u i := by rw [dep_app, if_pos h]
theorem dep_snoc {u : List Nat} {x : Nat} : dep (u ++ [x]) (u.length + 1) = dep u u.length + stp x := by
  have e : (u ++ [x])[u.length]? = some x := by simp
  rw [dep_succ e, dep_snoc_le (Nat.le_refl _)]
theorem Pf.snoc {r u : List Nat} {c x : Nat} (p : Pf r u) (h : r[u.length]? = some c) (hx : x = 40 ∨ x = 41) (hc : c = 63 ∨ c = x) (h0 : 0 ≤ dep u u.length + stp x) : Pf r (u ++ [x]) := by
  have hl := (List.getElem?_eq_some_iff.mp h).1
  refine ⟨by simp; omega, fun y hy => ?_, fun i hi => ?_, fun i d hi hd => ?_⟩
  · rcases List.mem_append.mp hy with q | q
    · exact p.sg y q
    · rw [List.mem_singleton.mp q]; exact hx
  · by_cases e : i ≤ u.length
    · rw [dep_snoc_le e]; exact p.nn i e
    · simp at hi
      rw [show i = u.length + 1 by omega, dep_snoc]; exact h0
  · by_cases e : i < u.length
    · rw [List.getElem?_append_left e]; exact p.put i d e hd
    · simp at hi
      have : i = u.length := by omega
      subst this
      rw [h] at hd
      cases hd
      rcases hc with q | q
      · exact .inl q
      · right; simp [q]
theorem Pf.fil {r u : List Nat} (p : Pf r u) (h : u.length = r.length) (h0 : dep u u.length = 0) : Fil r u := ⟨h, ⟨p.sg, p.nn, h0⟩, fun i c hc => p.put i c (by rw [h]; exact (List.getElem?_eq_some_iff.mp hc).1) hc⟩
theorem fil_of_rest {r : List Nat} (ho : r.all okc = true) : ∀ (k : Nat) (u : List Nat), r.length - u.length = k → Pf r u → rest (r.drop u.length) (dep u u.length) = true → ∃ t, Fil r t ∧ ∀ i, i < u.length → t[i]? = u[i]? := by
  intro k
  induction k with
  | zero =>
    intro u hk p hr
    have e : u.length = r.length := by have := p.len; omega
    rw [e, List.drop_length] at hr
    simp only [rest, beq_iff_eq] at hr
    rw [← e] at hr
    exact ⟨u, p.fil e hr, fun _ _ => rfl⟩
  | succ k ih =>
    intro u hk p hr
    obtain ⟨c, hc⟩ := at_of_lt (show u.length < r.length by omega)
    obtain ⟨x, hx, hcx, hr'⟩ := rest_next hc (List.all_eq_true.mp ho c (List.mem_of_getElem? hc)) hr
    have p' := p.snoc hc hx hcx (rest_nn hr')
    have el : (u ++ [x]).length = u.length + 1 := by simp
    obtain ⟨t, T, ht⟩ := ih (u ++ [x]) (by rw [el]; omega) p' (by rw [el, dep_snoc]; exact hr')
    refine ⟨t, T, fun i hi => ?_⟩
    rw [ht i (by rw [el]; omega), List.getElem?_append_left hi]
theorem Fil.pf {r t : List Nat} (F : Fil r t) {i : Nat} (hi : i ≤ r.length) : Pf r (t.take i) := by
  have hl : (t.take i).length = i := by rw [List.length_take, F.len]; omega
  have hd : ∀ j, j ≤ i → dep (t.take i) j = dep t j := fun j hj => by unfold dep; rw [List.take_take, Nat.min_eq_left hj]
  refine ⟨by rw [hl]; exact hi, fun y hy => F.clo.sg y (List.mem_of_mem_take hy), fun j hj => ?_, fun j c hj hc => ?_⟩
  · rw [hl] at hj
    rw [hd j hj]
    exact F.clo.nn j (by rw [F.len]; omega)
  · rw [hl] at hj
    rw [List.getElem?_take_of_lt hj]
    exact F.put j c hc
theorem dep_take {t : List Nat} {i j : Nat} (h : j ≤ i) : dep (t.take i) j = dep t j := by unfold dep; rw [List.take_take, Nat.min_eq_left h]
structure Led (r : List Nat) (o1 o2 : Nat) (u : List Nat) : Prop where
  len : u.length = r.length
  one : ∀ (i c : Nat), r[i]? = some c → c ≠ 63 → u[i]? = some c
  two : ∀ (i : Nat), r[i]? = some 63 → u[i]? = some (if rest (r.drop (i + 1)) (dep u i + stp o1) = true then o1 else if rest (r.drop (i + 1)) (dep u i + stp o2) = true then o2 else 63)
theorem Led.pf {r u : List Nat} {o1 o2 : Nat} (ho : r.all okc = true) (h0 : rest r 0 = true) (L : Led r o1 o2 u) (hs : (o1 = 40 ∧ o2 = 41) ∨ (o1 = 41 ∧ o2 = 40)) : ∀ i, i ≤ r.length → Pf r (u.take i) ∧ rest (r.drop i) (dep u i) = true
  | 0, _ => ⟨by rw [List.take_zero]; exact .nil, by rw [List.drop_zero, dep_zero]; exact h0⟩
  | i + 1, hi => by
    obtain ⟨p, hr⟩ := Led.pf ho h0 L hs i (by omega)
    obtain ⟨c, hc⟩ := at_of_lt (show i < r.length by omega)
    have oc := List.all_eq_true.mp ho c (List.mem_of_getElem? hc)
    obtain ⟨x, hx, hcx, hr'⟩ := rest_next hc oc hr
    have hl : (u.take i).length = i := by rw [List.length_take, L.len]; omega
    -- the sign that is taken
    obtain ⟨y, hy, sy, hcy, hry⟩ : ∃ y, u[i]? = some y ∧ (y = 40 ∨ y = 41) ∧ (c = 63 ∨ c = y) ∧ rest (r.drop (i + 1)) (dep u i + stp y) = true := by
      by_cases e : c = 63
      · subst e
        have h2 := L.two i hc
        have so1 : o1 = 40 ∨ o1 = 41 := by rcases hs with ⟨a, _⟩ | ⟨a, _⟩ <;> simp [a]
        have so2 : o2 = 40 ∨ o2 = 41 := by rcases hs with ⟨_, a⟩ | ⟨_, a⟩ <;> simp [a]
        by_cases q1 : rest (r.drop (i + 1)) (dep u i + stp o1) = true
        · rw [if_pos q1] at h2
          exact ⟨o1, h2, so1, .inl rfl, q1⟩
        · rw [if_neg q1] at h2
          have q2 : rest (r.drop (i + 1)) (dep u i + stp o2) = true := by
            rcases hs with ⟨rfl, rfl⟩ | ⟨rfl, rfl⟩ <;> rcases hx with rfl | rfl
            · exact absurd hr' q1
            · exact hr'
            · exact hr'
            · exact absurd hr' q1
          rw [if_pos q2] at h2
          exact ⟨o2, h2, so2, .inl rfl, q2⟩
      · have h1 := L.one i c hc e
        rcases hcx with q | q
        · exact absurd q e
        · subst q
          exact ⟨c, h1, hx, .inr rfl, hr'⟩
    have e1 : u.take (i + 1) = u.take i ++ [y] := by
      rw [List.take_add_one, hy]; rfl
    refine ⟨?_, by rw [dep_succ hy]; exact hry⟩
    rw [e1]
    exact p.snoc (by rw [hl]; exact hc) sy hcy (by rw [hl, dep_take (Nat.le_refl _)]; exact rest_nn hry)
theorem Led.fil {r u : List Nat} {o1 o2 : Nat} (ho : r.all okc = true) (h0 : rest r 0 = true) (L : Led r o1 o2 u) (hs : (o1 = 40 ∧ o2 = 41) ∨ (o1 = 41 ∧ o2 = 40)) : Fil r u := by
  obtain ⟨p, hr⟩ := L.pf ho h0 hs r.length (Nat.le_refl _)
  rw [List.take_of_length_le (by rw [L.len]; exact Nat.le_refl _)] at p
  refine p.fil L.len ?_
  rw [List.drop_length] at hr
  simp only [rest, beq_iff_eq] at hr
  rw [L.len]; exact hr
theorem Led.max {r u : List Nat} (ho : r.all okc = true) (h0 : rest r 0 = true) (L : Led r 40 41 u) : Max r u := by
  have U := L.fil ho h0 (.inl ⟨rfl, rfl⟩)
  refine ⟨U, fun t T i hi => Int.not_lt.mp fun q => ?_⟩
  obtain ⟨j, hj, e0, e1, e2⟩ := first_over T.clo.sg U.clo.sg (by rw [T.len, U.len]) i (by rw [T.len]; exact hi) q
  obtain ⟨c, hc⟩ := at_of_lt (show j < r.length by omega)
  obtain ⟨d, hd, sd, hcd⟩ := T.at' hc
  obtain ⟨d', hd', sd', hcd'⟩ := U.at' hc
  rw [e1] at hd; rw [e2] at hd'
  cases hd; cases hd'
  have c63 : c = 63 := by
    rcases hcd with q1 | q1 <;> rcases hcd' with q2 | q2 <;> omega
  subst c63
  have h2 := L.two j hc
  have h3 := rest_of_fil T (j + 1) (by omega)
  rw [dep_succ e1, e0] at h3
  rw [if_pos h3, e2] at h2
  cases h2
theorem Led.min {r u : List Nat} (ho : r.all okc = true) (h0 : rest r 0 = true) (L : Led r 41 40 u) : Min r u := by
  have U := L.fil ho h0 (.inr ⟨rfl, rfl⟩)
  refine ⟨U, fun t T i hi => Int.not_lt.mp fun q => ?_⟩
  obtain ⟨j, hj, e0, e1, e2⟩ := first_over U.clo.sg T.clo.sg (by rw [T.len, U.len]) i (by rw [U.len]; exact hi) q
  obtain ⟨c, hc⟩ := at_of_lt (show j < r.length by omega)
  obtain ⟨d, hd, sd, hcd⟩ := T.at' hc
  obtain ⟨d', hd', sd', hcd'⟩ := U.at' hc
  rw [e2] at hd; rw [e1] at hd'
  cases hd; cases hd'
  have c63 : c = 63 := by
    rcases hcd with q1 | q1 <;> rcases hcd' with q2 | q2 <;> omega
  subst c63
  have h2 := L.two j hc
  have h3 := rest_of_fil T (j + 1) (by omega)
  rw [dep_succ e2, ← e0] at h3
  rw [if_pos h3, e1] at h2
  cases h2
theorem rest_iff {r : List Nat} (ho : r.all okc = true) : rest r 0 = true ↔ ∃ t, Fil r t := by
  constructor
  · intro h
    obtain ⟨t, T, _⟩ := fil_of_rest ho _ [] rfl .nil (by simpa [dep] using h)
    exact ⟨t, T⟩
  · rintro ⟨t, T⟩
    have := rest_of_fil T 0 (Nat.zero_le _)
    rwa [List.drop_zero, dep_zero] at this
theorem fb_iff {r : List Nat} (ho : r.all okc = true) : Fb r ↔ rest r 0 = true := by
  rw [rest_iff ho]
  exact ⟨fun F => ⟨_, F.fil ho⟩, fun ⟨t, T⟩ => T.fb⟩
def Occ (r : List Nat) (i x : Nat) : Prop := ∃ t, Fil r t ∧ t[i]? = some x
structure Sett (r g : List Nat) : Prop where
  len : g.length = r.length
  at_ : ∀ (i c : Nat), g[i]? = some c → (c = 63 ∧ Occ r i 40 ∧ Occ r i 41) ∨ (c = 40 ∧ Occ r i 40 ∧ ¬ Occ r i 41) ∨ (c = 41 ∧ Occ r i 41 ∧ ¬ Occ r i 40)
theorem Sett.okc {r g : List Nat} (G : Sett r g) : g.all okc = true := List.all_eq_true.mpr fun c hc => by
  obtain ⟨i, hi⟩ := List.getElem?_of_mem hc
  rcases G.at_ i c hi with ⟨rfl, _⟩ | ⟨rfl, _⟩ | ⟨rfl, _⟩ <;> rfl
theorem Sett.same {r g : List Nat} (G : Sett r g) (hex : ∃ f, Fil r f) (t : List Nat) : Fil r t ↔ Fil g t := by
  constructor
  · intro T
    refine ⟨by rw [G.len]; exact T.len, T.clo, fun i c hc => ?_⟩
    obtain ⟨d, hd, sd⟩ := sg_at T.clo.sg (show i < t.length by rw [T.len, ← G.len]; exact (List.getElem?_eq_some_iff.mp hc).1)
    rcases G.at_ i c hc with ⟨rfl, _⟩ | ⟨rfl, a, b⟩ | ⟨rfl, a, b⟩
    · exact .inl rfl
    · right
      rcases sd with rfl | rfl
      · exact hd
      · exact absurd ⟨t, T, hd⟩ b
    · right
      rcases sd with rfl | rfl
      · exact absurd ⟨t, T, hd⟩ b
      · exact hd
  · intro T
    refine ⟨by rw [← G.len]; exact T.len, T.clo, fun i c hc => ?_⟩
    by_cases e : c = 63
    · exact .inl e
    right
    have hi := (List.getElem?_eq_some_iff.mp hc).1
    obtain ⟨d, hd⟩ := at_of_lt (show i < g.length by rw [G.len]; exact hi)
    -- every filling has c there
    have all : ∀ x, Occ r i x → x = c := fun x ⟨u, U, hu⟩ => by
      rcases U.put i c hc with q | q
      · exact absurd q e
      · rw [hu] at q; exact Option.some.inj q
    have hdc : d = c ∧ d ≠ 63 := by
      rcases G.at_ i d hd with ⟨rfl, a, b⟩ | ⟨rfl, a, b⟩ | ⟨rfl, a, b⟩
      · have := all _ a; have := all _ b; omega
      · exact ⟨all _ a, by decide⟩
      · exact ⟨all _ a, by decide⟩
    rcases T.put i d hd with q | q
    · exact absurd q hdc.2
    · rw [← hdc.1]; exact q
theorem Sett.occ {r g : List Nat} (G : Sett r g) (hex : ∃ f, Fil r f) (i x : Nat) : Occ r i x ↔ Occ g i x :=
  ⟨fun ⟨t, T, h⟩ => ⟨t, (G.same hex t).mp T, h⟩, fun ⟨t, T, h⟩ => ⟨t, (G.same hex t).mpr T, h⟩⟩
theorem Sett.again {r g : List Nat} (G : Sett r g) (hex : ∃ f, Fil r f) : Sett g g :=
  ⟨rfl, fun i c hc => by rw [← G.occ hex, ← G.occ hex]; exact G.at_ i c hc⟩
theorem Sett.max {r g f : List Nat} (G : Sett r g) (F : Max r f) : Max g f := ⟨(G.same ⟨f, F.fil⟩ f).mp F.fil, fun t T i hi => F.top t ((G.same ⟨f, F.fil⟩ t).mpr T) i (by rw [← G.len]; exact hi)⟩
theorem Sett.min {r g f : List Nat} (G : Sett r g) (F : Min r f) : Min g f := ⟨(G.same ⟨f, F.fil⟩ f).mp F.fil, fun t T i hi => F.bot t ((G.same ⟨f, F.fil⟩ t).mpr T) i (by rw [← G.len]; exact hi)⟩
theorem fil_self {f : List Nat} (C : Clo f) : Fil f f := ⟨rfl, C, fun i c h => .inr h⟩
theorem fil_closed {f t : List Nat} (C : Clo f) (T : Fil f t) : t = f := by
  refine List.ext_getElem? fun i => ?_
  by_cases hi : i < f.length
  · obtain ⟨c, hc, sc⟩ := sg_at C.sg hi
    rcases T.put i c hc with q | q
    · omega
    · rw [q, hc]
  · rw [List.getElem?_eq_none (by rw [T.len]; omega), List.getElem?_eq_none (by omega)]
theorem Sett.closed {f : List Nat} (C : Clo f) : Sett f f := by
  refine ⟨rfl, fun i c hc => ?_⟩
  have occ : ∀ x, Occ f i x → x = c := fun x ⟨t, T, h⟩ => by rw [fil_closed C T, hc] at h; exact (Option.some.inj h).symm
  rcases C.sg c (List.mem_of_getElem? hc) with rfl | rfl
  · exact .inr (.inl ⟨rfl, ⟨f, fil_self C, hc⟩, fun h => by have := occ _ h; omega⟩)
  · exact .inr (.inr ⟨rfl, ⟨f, fil_self C, hc⟩, fun h => by have := occ _ h; omega⟩)
end HM
set_option Elab.async false
set_option linter.all false
namespace HM
open L2 H5
def base (r : List Nat) : List Nat := r.map fun c => if c = 63 then 41 else c
theorem base_len (r : List Nat) : (base r).length = r.length := by simp [base]
theorem base_at {r : List Nat} {i c : Nat} (h : r[i]? = some c) : (base r)[i]? = some (if c = 63 then 41 else c) := by simp [base, h]
def lexle (a b : Int × Nat) : Prop := a.1 < b.1 ∨ (a.1 = b.1 ∧ a.2 ≤ b.2)
inductive Need (r : List Nat) (rk : Nat → Int) : Nat → List Nat → Prop where
  | start : Need r rk 0 (base r)
  | keep {i : Nat} {s : List Nat} : Need r rk i s → i < r.length → 0 ≤ dep s (i + 1) → Need r rk (i + 1) s
  | open_ {i p : Nat} {s : List Nat} : Need r rk i s → i < r.length → dep s (i + 1) < 0 → p ≤ i → r[p]? = some 63 → s[p]? = some 41 → (∀ q, q ≤ i → r[q]? = some 63 → s[q]? = some 41 → lexle (rk p, p) (rk q, q)) → Need r rk (i + 1) (s.set p 40)
theorem dep_set_le {s : List Nat} {p x j : Nat} (h : j ≤ p) : dep (s.set p x) j = dep s j := by
  unfold dep
  rw [List.take_set_of_le h]
theorem dep_set_gt {s : List Nat} {p j : Nat} (h : s[p]? = some 41) (hj : p < j) : j ≤ s.length → dep (s.set p 40) j = dep s j + 2 := by
  obtain ⟨k, rfl⟩ : ∃ k, j = p + 1 + k := ⟨j - (p + 1), by omega⟩
  have hp := (List.getElem?_eq_some_iff.mp h).1
  induction k with
  | zero =>
    intro _
    have e : (s.set p 40)[p]? = some 40 := by rw [List.getElem?_set_self hp]
    rw [Nat.add_zero, dep_succ e, dep_succ h, dep_set_le (Nat.le_refl _), show stp 40 = 1 from rfl, show stp 41 = -1 from rfl]
    omega
  | succ k ih =>
    intro hl
    obtain ⟨c, hc⟩ := at_of_lt (show p + 1 + k < s.length by omega)
    have e : (s.set p 40)[p + 1 + k]? = some c := by rw [List.getElem?_set_ne (by omega)]; exact hc
    have := ih (by omega) (by omega)
    rw [← Nat.add_assoc, dep_succ e, dep_succ hc, this]
    omega
structure Shp (r : List Nat) (i : Nat) (s : List Nat) : Prop where
  len : s.length = r.length
  fix : ∀ (j c : Nat), r[j]? = some c → c ≠ 63 → s[j]? = some c
  rub : ∀ j : Nat, r[j]? = some 63 → s[j]? = some 40 ∨ s[j]? = some 41
  late : ∀ j : Nat, i ≤ j → r[j]? = some 63 → s[j]? = some 41
  nn : ∀ j : Nat, j ≤ i → 0 ≤ dep s j
theorem Shp.sg {r s : List Nat} {i : Nat} (ho : r.all okc = true) (S : Shp r i s) : Sg s := fun x hx => by
  obtain ⟨j, hj⟩ := List.getElem?_of_mem hx
  obtain ⟨c, hc⟩ := at_of_lt (show j < r.length by rw [← S.len]; exact (List.getElem?_eq_some_iff.mp hj).1)
  by_cases e : c = 63
  · subst e
    rcases S.rub j hc with q | q
    · rw [hj] at q; exact .inl (Option.some.inj q)
    · rw [hj] at q; exact .inr (Option.some.inj q)
  · have := S.fix j c hc e
    rw [hj] at this
    have := Option.some.inj this
    subst this
    rcases okc_iff.mp (List.all_eq_true.mp ho _ (List.mem_of_getElem? hc)) with q | q | q
    · exact .inl q
    · exact .inr q
    · exact absurd q e
theorem Need.shp {r s : List Nat} {rk : Nat → Int} {i : Nat} (N : Need r rk i s) (ho : r.all okc = true) : Shp r i s := by
  induction N with
  | start =>
    refine ⟨base_len r, fun j c h e => ?_, fun j h => ?_, fun j _ h => ?_, fun j hj => ?_⟩
    · rw [base_at h, if_neg e]
    · rw [base_at h]; exact .inr rfl
    · rw [base_at h]; rfl
    · rw [show j = 0 by omega, dep_zero]; exact Int.le_refl _
  | @keep i s N hi h0 ih =>
    refine ⟨ih.len, ih.fix, ih.rub, fun j hj => ih.late j (by omega), fun j hj => ?_⟩
    by_cases e : j = i + 1
    · rw [e]; exact h0
    · exact ih.nn j (by omega)
  | @open_ i p s N hi h0 hp hr hs hl ih =>
    have hps := (List.getElem?_eq_some_iff.mp hs).1
    refine ⟨by rw [List.length_set]; exact ih.len, fun j c h e => ?_, fun j h => ?_, fun j hj h => ?_, fun j hj => ?_⟩
    · rw [List.getElem?_set_ne (by intro q; subst q; rw [hr] at h; cases h; exact e rfl)]
      exact ih.fix j c h e
    · by_cases e : p = j
      · subst e; rw [List.getElem?_set_self hps]; exact .inl rfl
      · rw [List.getElem?_set_ne e]; exact ih.rub j h
    · rw [List.getElem?_set_ne (by omega)]
      exact ih.late j (by omega) h
    · by_cases e : j ≤ p
      · rw [dep_set_le e]; exact ih.nn j (by omega)
      · rw [dep_set_gt hs (by omega) (by rw [ih.len]; omega)]
        by_cases e2 : j = i + 1
        · subst e2
          obtain ⟨c, hc⟩ := at_of_lt (show i < s.length by rw [ih.len]; exact hi)
          have := ih.nn i (Nat.le_refl _)
          rw [dep_succ hc]
          have : -1 ≤ stp c := by unfold stp; split <;> omega
          omega
        · have := ih.nn j (by omega)
          omega
/-- there is one to open -/
theorem Need.exists {r s t : List Nat} {rk : Nat → Int} {i : Nat} (N : Need r rk i s) (ho : r.all okc = true) (T : Fil r t) (hi : i < r.length) (h0 : dep s (i + 1) < 0) : ∃ p, p ≤ i ∧ r[p]? = some 63 ∧ s[p]? = some 41 := by
  refine Classical.byContradiction fun no => ?_
  have S := N.shp ho
  have h := dep_from (i := 0) (t := s.take (i + 1)) (e := t.take (i + 1)) (fun x hx => S.sg ho x (List.mem_of_mem_take hx)) (fun x hx => T.clo.sg x (List.mem_of_mem_take hx)) (by rw [List.length_take, List.length_take, S.len, T.len]) (fun m _ hm => by
    have hl : m < i + 1 := by rw [List.length_take] at hm; omega
    rw [List.getElem?_take_of_lt hl, List.getElem?_take_of_lt hl]
    obtain ⟨c, hc⟩ := at_of_lt (show m < r.length by omega)
    by_cases e : c = 63
    · subst e
      rcases S.rub m hc with q | q
      · exact .inr (.inl q)
      · exact absurd ⟨m, by omega, hc, q⟩ no
    · rcases T.put m c hc with q | q
      · exact absurd q e
      · exact .inr (.inr (by rw [q, S.fix m c hc e]))) (i + 1) (by omega) (by rw [List.length_take, S.len]; omega)
  rw [dep_take (Nat.le_refl _), dep_take (Nat.le_refl _), dep_take (by omega), dep_take (by omega), dep_zero, dep_zero] at h
  have := T.clo.nn (i + 1) (by rw [T.len]; omega)
  omega
/-- by the latest place: the lowest filling -/
theorem Need.low {r s : List Nat} {i : Nat} (N : Need r (fun p => -(p : Int)) i s) (ho : r.all okc = true) : ∀ t, Fil r t → ∀ j, j ≤ i → dep s j ≤ dep t j := by
  induction N with
  | start => intro t T j hj; rw [show j = 0 by omega, dep_zero, dep_zero]; exact Int.le_refl _
  | @keep i s N hi h0 ih =>
    intro t T j hj
    have S := N.shp ho
    by_cases e : j = i + 1
    · subst e
      have h1 := ih t T i (Nat.le_refl _)
      obtain ⟨c, hc⟩ := at_of_lt hi
      obtain ⟨d, hd, sd, hcd⟩ := T.at' hc
      rw [dep_succ hd]
      by_cases e : c = 63
      · subst e
        rw [dep_succ (S.late i (Nat.le_refl _) hc), show stp 41 = -1 from rfl]
        have : -1 ≤ stp d := by unfold stp; split <;> omega
        omega
      · rw [dep_succ (S.fix i c hc e)]
        have := hcd.resolve_left e
        subst this
        omega
    · exact ih t T j (by omega)
  | @open_ i p s N hi h0 hp hr hs hl ih =>
    intro t T j hj
    have S := N.shp ho
    by_cases e : j ≤ p
    · rw [dep_set_le e]; exact ih t T j (by omega)
    · rw [dep_set_gt hs (by omega) (by rw [S.len]; omega)]
      have h := dep_from (i := j) (t := s.take (i + 1)) (e := t.take (i + 1)) (fun x hx => S.sg ho x (List.mem_of_mem_take hx)) (fun x hx => T.clo.sg x (List.mem_of_mem_take hx)) (by rw [List.length_take, List.length_take, S.len, T.len]) (fun m hjm hm => by
        have hlm : m < i + 1 := by rw [List.length_take] at hm; omega
        rw [List.getElem?_take_of_lt hlm, List.getElem?_take_of_lt hlm]
        obtain ⟨c, hc⟩ := at_of_lt (show m < r.length by omega)
        by_cases e : c = 63
        · subst e
          rcases S.rub m hc with q | q
          · exact .inr (.inl q)
          · have := hl m (by omega) hc q
            unfold lexle at this
            simp only at this
            omega
        · rcases T.put m c hc with q | q
          · exact absurd q e
          · exact .inr (.inr (by rw [q, S.fix m c hc e]))) (i + 1) (by omega) (by rw [List.length_take, S.len]; omega)
      rw [dep_take (Nat.le_refl _), dep_take (Nat.le_refl _), dep_take (by omega), dep_take (by omega)] at h
      have h1 := T.clo.nn (i + 1) (by rw [T.len]; omega)
      have p1 := dep_par (S.sg ho) j (by rw [S.len]; omega)
      have p2 := dep_par T.clo.sg j (by rw [T.len]; omega)
      omega
theorem Need.congr {r s : List Nat} {rk rk' : Nat → Int} {i : Nat} (N : Need r rk i s) (h : ∀ p, p < r.length → rk p = rk' p) : Need r rk' i s := by
  induction N with
  | start => exact .start
  | keep N hi h0 ih => exact .keep ih hi h0
  | open_ N hi h0 hp hr hs hl ih =>
    refine .open_ ih hi h0 hp hr hs fun q a b c => ?_
    have := hl q a b c
    rw [← h _ (by omega), ← h _ (by omega)]
    exact this
theorem Need.fil {r s t : List Nat} {rk : Nat → Int} (N : Need r rk r.length s) (ho : r.all okc = true) (h0 : dep s r.length = 0) : Fil r s := by
  have S := N.shp ho
  refine ⟨S.len, ⟨S.sg ho, fun i hi => S.nn i (by rw [← S.len]; exact hi), by rw [S.len]; exact h0⟩, fun i c hc => ?_⟩
  by_cases e : c = 63
  · exact .inl e
  · exact .inr (S.fix i c hc e)
theorem Need.min {r s t : List Nat} (N : Need r (fun p => -(p : Int)) r.length s) (ho : r.all okc = true) (T : Fil r t) : Min r s := by
  have h0 : dep s r.length = 0 := by
    have h1 := N.low ho t T r.length (Nat.le_refl _)
    have h2 := (N.shp ho).nn r.length (Nat.le_refl _)
    have h3 : dep t r.length = 0 := by rw [← T.len]; exact T.clo.fin
    omega
  exact ⟨N.fil (t := t) ho h0, fun u U i hi => N.low ho u U i hi⟩
end HM
set_option Elab.async false
set_option linter.all false
namespace HM
open L2 H5
/-- how many ways there are to fill a row's end, so many being open -/
def ways : List Nat → Int → Nat
  | [], d => if d = 0 then 1 else 0
  | c :: r, d => if d < 0 then 0 else (if c ≠ 41 then ways r (d + 1) else 0) + (if c ≠ 40 then ways r (d - 1) else 0)
theorem ways_neg (r : List Nat) {d : Int} (h : d < 0) : ways r d = 0 := by
  cases r with
  | nil => simp [ways]; omega
  | cons c r => simp [ways, h]
theorem ways_big : ∀ (r : List Nat) {d : Int}, (r.length : Int) < d → ways r d = 0
  | [], d, h => by simp only [ways]; rw [if_neg]; simp at h; omega
  | c :: r, d, h => by
    simp only [List.length_cons] at h
    simp only [ways]
    rw [ways_big r (d := d + 1) (by omega), ways_big r (d := d - 1) (by omega)]
    simp
theorem ways_cons {c : Nat} (r : List Nat) {d : Int} (h : 0 ≤ d) : ways (c :: r) d = (if c ≠ 41 then ways r (d + 1) else 0) + (if c ≠ 40 then ways r (d - 1) else 0) := by
  conv => lhs; unfold ways
  rw [if_neg (by omega)]
theorem ways_rest : ∀ (r : List Nat) (d : Int), 0 < ways r d ↔ rest r d = true
  | [], d => by simp only [ways, rest]; by_cases h : d = 0 <;> simp [h]
  | c :: r, d => by
    rw [rest_cons, ← ways_rest r (d + 1), ← ways_rest r (d - 1)]
    by_cases h : d < 0
    · rw [ways_neg _ h]
      exact ⟨fun q => (nomatch q), fun q => by omega⟩
    · rw [ways_cons r (by omega)]
      by_cases h1 : c = 41
      · subst h1
        simp
        omega
      · by_cases h2 : c = 40
        · subst h2
          simp; omega
        · simp only [ne_eq, h1, h2, not_false_iff, if_true, true_and]
          omega
/-- the end of a filling -/
structure Suf (r : List Nat) (d : Int) (t : List Nat) : Prop where
  len : t.length = r.length
  sg : Sg t
  nn : ∀ i, i ≤ t.length → 0 ≤ d + dep t i
  fin : d + dep t t.length = 0
  put : ∀ (i c : Nat), r[i]? = some c → c = 63 ∨ t[i]? = some c
theorem Suf.of {r t : List Nat} (F : Fil r t) : Suf r 0 t := ⟨F.len, F.clo.sg, fun i h => by have := F.clo.nn i h; omega, by have := F.clo.fin; omega, F.put⟩
theorem Suf.d0 {r t : List Nat} {d : Int} (S : Suf r d t) : 0 ≤ d := by have := S.nn 0 (Nat.zero_le _); rw [dep_zero] at this; omega
theorem Suf.tl {c x : Nat} {r t : List Nat} {d : Int} (S : Suf (c :: r) d (x :: t)) : Suf r (d + stp x) t ∧ (x = 40 ∨ x = 41) ∧ (c = 63 ∨ c = x) := by
  refine ⟨⟨by have := S.len; simpa using this, fun y hy => S.sg y (List.mem_cons_of_mem _ hy), fun i hi => ?_, ?_, fun i e he => ?_⟩, S.sg x (by simp), ?_⟩
  · have := S.nn (i + 1) (by simpa using hi)
    rw [dep_cons] at this; omega
  · have := S.fin
    rw [List.length_cons, dep_cons] at this; omega
  · have := S.put (i + 1) e (by simpa using he)
    simpa using this
  · have := S.put 0 c rfl
    simp at this
    rcases this with q | q
    · exact .inl q
    · exact .inr q.symm
/-- a filling's count -/
def rk : List Nat → Int → List Nat → Nat
  | c :: r, d, x :: t => (if c = 63 ∧ x = 41 then ways r (d + 1) else 0) + rk r (d + stp x) t
  | _, _, _ => 0
theorem rk_lt_ways : ∀ (r t : List Nat) (d : Int), Suf r d t → rk r d t < ways r d
  | [], t, d, S => by
    have e : t = [] := List.length_eq_zero_iff.mp S.len
    subst e
    have := S.fin
    rw [List.length_nil, dep_zero] at this
    have e : d = 0 := by omega
    subst e
    decide
  | c :: r, [], d, S => by have := S.len; simp at this
  | c :: r, x :: t, d, S => by
    obtain ⟨S', hx, hc⟩ := S.tl
    have ih := rk_lt_ways r t _ S'
    have h0 := S.d0
    rw [ways_cons r h0]
    simp only [rk]
    rcases hx with rfl | rfl
    · have : stp 40 = 1 := rfl
      rw [this] at ih ⊢
      have n1 : c ≠ 41 := by rcases hc with q | q <;> subst q <;> decide
      rw [if_neg (by omega), if_pos n1]
      omega
    · have : stp 41 = -1 := rfl
      rw [this] at ih ⊢
      have n1 : c ≠ 40 := by rcases hc with q | q <;> subst q <;> decide
      rw [if_pos n1, show d - 1 = d + -1 by omega]
      rcases hc with q | q
      · subst q
        rw [if_pos ⟨rfl, rfl⟩, if_pos (by decide)]
        omega
      · subst q
        rw [if_neg (by decide), if_neg (by decide)]
        omega
/-- the order of the fillings: the one that opens at the first place where they differ comes first -/
def lx : List Nat → List Nat → Prop
  | x :: t, y :: u => (x = 40 ∧ y = 41) ∨ (x = y ∧ lx t u)
  | _, _ => False
theorem lx_rk : ∀ (r t u : List Nat) (d : Int), Suf r d t → Suf r d u → lx t u → rk r d t < rk r d u
  | [], t, u, d, S, U, h => by
    have e : t = [] := List.length_eq_zero_iff.mp S.len
    subst e
    exact h.elim
  | c :: r, [], u, d, S, U, h => by have := S.len; simp at this
  | c :: r, x :: t, [], d, S, U, h => by have := U.len; simp at this
  | c :: r, x :: t, y :: u, d, S, U, h => by
    obtain ⟨S', hx, hc⟩ := S.tl
    obtain ⟨U', hy, hc'⟩ := U.tl
    simp only [rk]
    rcases h with ⟨rfl, rfl⟩ | ⟨rfl, h⟩
    · have c63 : c = 63 := by rcases hc with q | q <;> rcases hc' with q' | q' <;> omega
      subst c63
      rw [if_neg (by decide), if_pos ⟨rfl, rfl⟩]
      have := rk_lt_ways r t _ S'
      have e : stp 40 = 1 := rfl
      rw [e] at this ⊢
      omega
    · have := lx_rk r t u _ S' U' h
      omega
theorem lx_tri : ∀ (t u : List Nat), t.length = u.length → Sg t → Sg u → t = u ∨ lx t u ∨ lx u t
  | [], u, hl, _, _ => .inl (List.length_eq_zero_iff.mp hl.symm).symm
  | x :: t, [], hl, _, _ => by simp at hl
  | x :: t, y :: u, hl, ht, hu => by
    have hx := ht x (by simp)
    have hy := hu y (by simp)
    have ih := lx_tri t u (by simpa using hl) (fun z hz => ht z (List.mem_cons_of_mem _ hz)) (fun z hz => hu z (List.mem_cons_of_mem _ hz))
    rcases hx with rfl | rfl <;> rcases hy with rfl | rfl
    · rcases ih with q | q | q
      · exact .inl (by rw [q])
      · exact .inr (.inl (.inr ⟨rfl, q⟩))
      · exact .inr (.inr (.inr ⟨rfl, q⟩))
    · exact .inr (.inl (.inl ⟨rfl, rfl⟩))
    · exact .inr (.inr (.inl ⟨rfl, rfl⟩))
    · rcases ih with q | q | q
      · exact .inl (by rw [q])
      · exact .inr (.inl (.inr ⟨rfl, q⟩))
      · exact .inr (.inr (.inr ⟨rfl, q⟩))
theorem rk_lx {r t u : List Nat} (T : Fil r t) (U : Fil r u) (h : rk r 0 t < rk r 0 u) : lx t u := by
  rcases lx_tri t u (by rw [T.len, U.len]) T.clo.sg U.clo.sg with q | q | q
  · subst q; omega
  · exact q
  · have := lx_rk r u t 0 (.of U) (.of T) q; omega
theorem lx_at : ∀ (t u : List Nat), lx t u → ∃ i, t[i]? = some 40 ∧ u[i]? = some 41 ∧ dep t i = dep u i
  | [], u, h => h.elim
  | x :: t, [], h => h.elim
  | x :: t, y :: u, h => by
    rcases h with ⟨rfl, rfl⟩ | ⟨rfl, h⟩
    · exact ⟨0, rfl, rfl, rfl⟩
    · obtain ⟨i, a, b, c⟩ := lx_at t u h
      exact ⟨i + 1, by simpa using a, by simpa using b, by rw [dep_cons, dep_cons, c]⟩
/-- the filling of count 0 is the highest one -/
theorem rk_max {r t f : List Nat} (T : Fil r t) (F : Max r f) (h : rk r 0 t = 0) : t = f := by
  rcases lx_tri t f (by rw [T.len, F.fil.len]) T.clo.sg F.fil.clo.sg with q | q | q
  · exact q
  · obtain ⟨i, a, b, c⟩ := lx_at t f q
    have hi := (List.getElem?_eq_some_iff.mp a).1
    have := F.top t T (i + 1) (by rw [T.len] at hi; omega)
    rw [dep_succ a, dep_succ b, c] at this
    simp [stp] at this
  · have := lx_rk r f t 0 (.of F.fil) (.of T) q
    omega
theorem rk_min {r t f : List Nat} (T : Fil r t) (F : Min r f) (h : rk r 0 t + 1 = ways r 0) : t = f := by
  rcases lx_tri t f (by rw [T.len, F.fil.len]) T.clo.sg F.fil.clo.sg with q | q | q
  · exact q
  · have h1 := lx_rk r t f 0 (.of T) (.of F.fil) q
    have h2 := rk_lt_ways r f 0 (.of F.fil)
    omega
  · obtain ⟨i, a, b, c⟩ := lx_at f t q
    have hi := (List.getElem?_eq_some_iff.mp a).1
    have := F.bot t T (i + 1) (by rw [F.fil.len] at hi; omega)
    rw [dep_succ a, dep_succ b, c] at this
    simp [stp] at this
/-- from place i on -/
theorem rk_drop {r t : List Nat} {i c x : Nat} (hc : r[i]? = some c) (hx : t[i]? = some x) : rk (r.drop i) (dep t i) (t.drop i) = (if c = 63 ∧ x = 41 then ways (r.drop (i + 1)) (dep t i + 1) else 0) + rk (r.drop (i + 1)) (dep t (i + 1)) (t.drop (i + 1)) := by
  rw [drop_at hc, drop_at hx, dep_succ hx]
  rfl
theorem rk_end {r t : List Nat} {d : Int} : rk (r.drop r.length) d (t.drop r.length) = 0 := by
  rw [List.drop_length]; rfl
/-- the filling of a count is told sign by sign -/
structure Tld (r : List Nat) (n : Nat) (i : Nat) (u : List Nat) (s : Nat) : Prop where
  pf : Pf r u
  len : u.length = i
  lo : s ≤ n
  hi : n < s + ways (r.drop i) (dep u i)
  sum : ∀ v, rk r 0 (u ++ v) = s + rk (r.drop i) (dep u i) v
theorem Tld.zero {r : List Nat} {n : Nat} (h : n < ways r 0) : Tld r n 0 [] 0 := ⟨.nil, rfl, Nat.zero_le _, by rw [dep_zero]; simpa using h, fun v => by rw [dep_zero]; simp⟩
theorem Tld.snoc {r u : List Nat} {n i s c x : Nat} (T : Tld r n i u s) (ho : okc c = true) (hc : r[i]? = some c) (hx : x = if c = 63 then (if n - s < ways (r.drop (i + 1)) (dep u i + 1) then 40 else 41) else c) :
    Tld r n (i + 1) (u ++ [x]) (s + if c = 63 ∧ x = 41 then ways (r.drop (i + 1)) (dep u i + 1) else 0) := by
  have hl := T.len
  have hd : dep (u ++ [x]) (i + 1) = dep u i + stp x := by have := dep_snoc (u := u) (x := x); rw [hl] at this; exact this
  have h0 : 0 ≤ dep u i := T.pf.nn i (by omega)
  have hw := T.hi
  have hlo := T.lo
  rw [drop_at hc, ways_cons _ h0] at hw
  have key : (x = 40 ∨ x = 41) ∧ (c = 63 ∨ c = x) ∧ s + (if c = 63 ∧ x = 41 then ways (r.drop (i + 1)) (dep u i + 1) else 0) ≤ n ∧ n < s + (if c = 63 ∧ x = 41 then ways (r.drop (i + 1)) (dep u i + 1) else 0) + ways (r.drop (i + 1)) (dep u i + stp x) := by
    by_cases e : c = 63
    · subst e
      rw [if_pos rfl] at hx
      rw [if_pos (by decide), if_pos (by decide)] at hw
      by_cases q : n - s < ways (r.drop (i + 1)) (dep u i + 1)
      · rw [if_pos q] at hx
        subst hx
        refine ⟨.inl rfl, .inl rfl, ?_⟩
        rw [if_neg (by decide), show stp 40 = 1 from rfl]
        omega
      · rw [if_neg q] at hx
        subst hx
        refine ⟨.inr rfl, .inl rfl, ?_⟩
        rw [if_pos ⟨rfl, rfl⟩, show stp 41 = -1 from rfl, show dep u i + -1 = dep u i - 1 by omega]
        omega
    · rw [if_neg e] at hx
      subst hx
      have : x = 40 ∨ x = 41 := by rcases okc_iff.mp ho with q | q | q; exact .inl q; exact .inr q; exact absurd q e
      refine ⟨this, .inr rfl, ?_⟩
      rw [if_neg (fun q => e q.1)]
      rcases this with q | q <;> subst q
      · rw [if_pos (by decide), if_neg (by decide)] at hw
        rw [show stp 40 = 1 from rfl]; omega
      · rw [if_neg (by decide), if_pos (by decide)] at hw
        rw [show stp 41 = -1 from rfl, show dep u i + -1 = dep u i - 1 by omega]; omega
  obtain ⟨k1, k2, k3, k4⟩ := key
  have hpos : 0 ≤ dep u i + stp x := by
    by_cases q : dep u i + stp x < 0
    · rw [ways_neg _ q] at k4; omega
    · omega
  refine ⟨T.pf.snoc (by rw [hl]; exact hc) k1 k2 (by rw [hl]; exact hpos), by rw [List.length_append, hl]; rfl, k3, by rw [hd]; exact k4, fun v => ?_⟩
  rw [List.append_assoc, T.sum, hd, drop_at hc]
  simp only [List.singleton_append, rk]
  omega
theorem Tld.fin {r u : List Nat} {n s : Nat} (T : Tld r n r.length u s) : Fil r u ∧ rk r 0 u = n := by
  have h := T.hi
  have hl := T.len
  rw [List.drop_length] at h
  have hw : ways [] (dep u r.length) = if dep u r.length = 0 then 1 else 0 := rfl
  rw [hw] at h
  have hlo := T.lo
  have e0 : dep u r.length = 0 := by
    by_cases q : dep u r.length = 0
    · exact q
    · rw [if_neg q] at h; omega
  refine ⟨T.pf.fil hl (by rw [hl]; exact e0), ?_⟩
  have := T.sum []
  rw [List.append_nil, List.drop_length] at this
  rw [if_pos e0] at h
  have z : rk [] (dep u r.length) [] = 0 := rfl
  omega
end HM
set_option Elab.async false
set_option linter.all false
namespace HM
open L2 H5
structure Tbl (r : List Nat) (p : Nat) (L : List Int) : Prop where
  le : p ≤ r.length
  len : L.length = min (r.length - p + 1) (p + 1)
  at_ : ∀ d : Nat, d < L.length → L[d]? = some (ways (r.drop p) d : Int)
theorem Tbl.end_ (r : List Nat) : Tbl r r.length [1] := by
  refine ⟨Nat.le_refl _, by simp, fun d hd => ?_⟩
  simp at hd
  subst hd
  rw [List.drop_length]
  rfl
theorem Tbl.open_at {r : List Nat} {p : Nat} {B : List Int} (T : Tbl r (p + 1) B) {d : Nat} (hd : d < min (r.length - p + 1) (p + 1)) : (B.drop 1 ++ [0, 0])[d]? = some (ways (r.drop (p + 1)) ((d : Int) + 1) : Int) := by
  have hl := T.len
  have hp := T.le
  by_cases h : d + 1 < B.length
  · rw [List.getElem?_append_left (by rw [List.length_drop]; omega), List.getElem?_drop, Nat.add_comm 1 d, T.at_ (d + 1) h]
    rfl
  · rw [ways_big _ (by rw [List.length_drop]; omega), List.getElem?_append_right (by rw [List.length_drop]; omega), List.length_drop]
    have : d - (B.length - 1) = 0 ∨ d - (B.length - 1) = 1 := by omega
    rcases this with q | q <;> rw [q] <;> rfl
theorem Tbl.close_at {r : List Nat} {p : Nat} {B : List Int} (T : Tbl r (p + 1) B) {d : Nat} (hd : d < min (r.length - p + 1) (p + 1)) : ((0 : Int) :: B)[d]? = some (ways (r.drop (p + 1)) ((d : Int) - 1) : Int) := by
  have hl := T.len
  have hp := T.le
  cases d with
  | zero => rw [ways_neg _ (by simp)]; rfl
  | succ d =>
    rw [List.getElem?_cons_succ, T.at_ d (by omega)]
    congr 3
    omega
theorem Tbl.olen {r : List Nat} {p : Nat} {B : List Int} (T : Tbl r (p + 1) B) : (B.drop 1 ++ [0, 0]).length = B.length + 1 := by
  have hl := T.len
  have := T.le
  rw [List.length_append, List.length_drop]
  simp; omega
theorem Tbl.opn {r : List Nat} {p : Nat} {B : List Int} (T : Tbl r (p + 1) B) (hc : r[p]? = some 40) : Tbl r p ((B.drop 1 ++ [0, 0]).take (p + 1)) := by
  have hl := T.len
  have hp := T.le
  refine ⟨by omega, by rw [List.length_take, T.olen]; omega, fun d hd => ?_⟩
  rw [List.length_take, T.olen] at hd
  rw [List.getElem?_take_of_lt (by omega), T.open_at (by omega), drop_at hc, ways_cons _ (by omega)]
  simp
theorem Tbl.cls {r : List Nat} {p : Nat} {B : List Int} (T : Tbl r (p + 1) B) (hc : r[p]? = some 41) : Tbl r p (((0 : Int) :: B).take (p + 1)) := by
  have hl := T.len
  have hp := T.le
  refine ⟨by omega, by rw [List.length_take, List.length_cons]; omega, fun d hd => ?_⟩
  rw [List.length_take, List.length_cons] at hd
  rw [List.getElem?_take_of_lt (by omega), T.close_at (by omega), drop_at hc, ways_cons _ (by omega)]
  simp
theorem Tbl.two {r : List Nat} {p c : Nat} {B : List Int} (T : Tbl r (p + 1) B) (hc : r[p]? = some c) (h1 : c ≠ 40) (h2 : c ≠ 41) {Z : List Int} (hz : Z.length = B.length + 1) (hZ : ∀ (d : Nat) (x y : Int), (B.drop 1 ++ [0, 0])[d]? = some x → ((0 : Int) :: B)[d]? = some y → Z[d]? = some (x + y)) : Tbl r p (Z.take (p + 1)) := by
  have hl := T.len
  have hp := T.le
  refine ⟨by omega, by rw [List.length_take, hz]; omega, fun d hd => ?_⟩
  rw [List.length_take, hz] at hd
  rw [List.getElem?_take_of_lt (by omega), hZ d _ _ (T.open_at (by omega)) (T.close_at (by omega)), drop_at hc, ways_cons _ (by omega), if_pos h2, if_pos h1]
  rfl
theorem Tbl.get {r : List Nat} {p : Nat} {L : List Int} (T : Tbl r p L) {d : Nat} (h : d < L.length) : L[d]? = some (ways (r.drop p) d : Int) := T.at_ d h
theorem Tbl.none {r : List Nat} {p : Nat} {L : List Int} (T : Tbl r p L) {d : Nat} (hd : d ≤ p) (h : ¬ d < L.length) : ways (r.drop p) d = 0 := by
  have hl := T.len
  have hp := T.le
  exact ways_big _ (by rw [List.length_drop]; omega)
theorem Tbl.zero {r : List Nat} {L : List Int} (T : Tbl r 0 L) : L[0]? = some (ways r 0 : Int) := by
  have := T.len
  have := T.at_ 0 (by omega)
  simpa using this
theorem dep_le_i {t : List Nat} (hs : Sg t) : ∀ i, i ≤ t.length → dep t i ≤ i
  | 0, _ => by rw [dep_zero]; simp
  | i + 1, h => by
    obtain ⟨c, hc, s⟩ := sg_at hs (show i < t.length by omega)
    have := dep_le_i hs i (by omega)
    rw [dep_succ hc]
    rcases s with q | q <;> subst q <;> simp [stp] <;> omega
def wsum (r : List Nat) (es : List (Int × Int)) : Int := (es.map fun e => e.2 * (ways r e.1 : Int)).sum
def getI (es : List (Int × Int)) (d : Int) : Int := ((es.find? fun e => decide (e.1 = d)).map (·.2)).getD 0
def putI (es : List (Int × Int)) (d v : Int) : List (Int × Int) := if (es.any fun e => decide (e.1 = d)) = true then es.map (fun e => if e.1 = d then (e.1, v) else e) else es ++ [(d, v)]
theorem wsum_nil (r : List Nat) : wsum r [] = 0 := rfl
theorem wsum_cons (r : List Nat) (e : Int × Int) (es : List (Int × Int)) : wsum r (e :: es) = e.2 * (ways r e.1 : Int) + wsum r es := by simp [wsum]
theorem wsum_app (r : List Nat) (a b : List (Int × Int)) : wsum r (a ++ b) = wsum r a + wsum r b := by simp [wsum]
theorem put_keys (es : List (Int × Int)) (d v : Int) : (putI es d v).map (·.1) = if d ∈ es.map (·.1) then es.map (·.1) else es.map (·.1) ++ [d] := by
  unfold putI
  have e : (es.any fun e => decide (e.1 = d)) = true ↔ d ∈ es.map (·.1) := by simp
  by_cases h : d ∈ es.map (·.1)
  · rw [if_pos h, if_pos (e.mpr h), List.map_map]
    refine List.map_congr_left fun x _ => ?_
    simp only [Function.comp]
    split <;> rfl
  · rw [if_neg h, if_neg (fun q => h (e.mp q)), List.map_append]
    rfl
theorem put_nodup {es : List (Int × Int)} {d v : Int} (h : (es.map (·.1)).Nodup) : ((putI es d v).map (·.1)).Nodup := by
  rw [put_keys]
  split
  · exact h
  · rename_i q
    rw [List.nodup_append]
    refine ⟨h, by simp, fun a ha b hb => ?_⟩
    rw [List.mem_singleton.mp hb]
    exact fun z => q (z ▸ ha)
theorem mem_put {es : List (Int × Int)} {d v x : Int} : x ∈ (putI es d v).map (·.1) ↔ x ∈ es.map (·.1) ∨ x = d := by
  rw [put_keys]
  split
  · rename_i h
    exact ⟨.inl, fun q => q.elim id fun z => z ▸ h⟩
  · simp
theorem get_none {es : List (Int × Int)} {d : Int} (h : ¬ d ∈ es.map (·.1)) : getI es d = 0 := by
  unfold getI
  rw [List.find?_eq_none.mpr]
  · rfl
  · intro x hx q
    exact h (List.mem_map.mpr ⟨x, hx, of_decide_eq_true q⟩)
theorem get_cons_pos {es : List (Int × Int)} {e : Int × Int} {d : Int} (h : e.1 = d) : getI (e :: es) d = e.2 := by simp [getI, h]
theorem get_cons_neg {es : List (Int × Int)} {e : Int × Int} {d : Int} (h : ¬ e.1 = d) : getI (e :: es) d = getI es d := by simp [getI, h]
theorem map_same {es : List (Int × Int)} {d v : Int} (h : ¬ d ∈ es.map (·.1)) : es.map (fun e => if e.1 = d then (e.1, v) else e) = es := by
  conv => rhs; rw [← List.map_id es]
  refine List.map_congr_left fun x hx => ?_
  rw [if_neg]
  · rfl
  · intro q
    exact h (List.mem_map.mpr ⟨x, hx, q⟩)
theorem wsum_put (r : List Nat) : ∀ (es : List (Int × Int)) (d v : Int), (es.map (·.1)).Nodup → wsum r (putI es d (getI es d + v)) = wsum r es + v * (ways r d : Int) := by
  intro es d v hn
  by_cases h : d ∈ es.map (·.1)
  · unfold putI
    rw [if_pos (by simpa using h)]
    generalize hg : getI es d = g
    induction es with
    | nil => simp at h
    | cons e es ih =>
      rw [List.map_cons, List.nodup_cons] at hn
      rw [List.map_cons, wsum_cons, wsum_cons]
      by_cases q : e.1 = d
      · rw [get_cons_pos q] at hg
        have hnd : ¬ d ∈ es.map (·.1) := by rw [← q]; exact hn.1
        rw [if_pos q, map_same hnd]
        simp only
        rw [q, hg, Int.add_mul]
        omega
      · rw [get_cons_neg q] at hg
        have h' : d ∈ es.map (·.1) := by
          rw [List.map_cons, List.mem_cons] at h
          rcases h with z | z
          · exact absurd z.symm q
          · exact z
        rw [if_neg q, ih hn.2 h' hg]
        omega
  · unfold putI
    rw [if_neg (by simpa using h), get_none h, wsum_app, wsum_cons, wsum_nil, Int.zero_add]
    simp only
    omega
theorem wsum_end (es : List (Int × Int)) (hn : (es.map (·.1)).Nodup) : wsum [] es = getI es 0 := by
  induction es with
  | nil => rfl
  | cons e es ih =>
    rw [List.map_cons, List.nodup_cons] at hn
    rw [wsum_cons, ih hn.2]
    by_cases q : e.1 = 0
    · rw [get_cons_pos q, get_none (by rw [← q]; exact hn.1), q]
      simp [ways]
    · rw [get_cons_neg q]
      simp [ways, q]
/-- one key's turn -/
theorem wsum_turn {c : Nat} (r : List Nat) {d v : Int} (h : 0 ≤ d) : v * (ways (c :: r) d : Int) = (if c ≠ 41 then v * (ways r (d + 1) : Int) else 0) + (if c ≠ 40 ∧ d > 0 then v * (ways r (d - 1) : Int) else 0) := by
  rw [ways_cons r h]
  by_cases q : d > 0
  · by_cases h1 : c = 41 <;> by_cases h2 : c = 40 <;> simp [h1, h2, q, Int.mul_add]
  · have e : d = 0 := by omega
    subst e
    rw [ways_neg r (d := 0 - 1) (by omega)]
    by_cases h1 : c = 41 <;> simp [h1]
end HM
set_option Elab.async false
set_option linter.all false
set_option maxRecDepth 100000
set_option maxHeartbeats 4000000
local macro_rules | `(tactic| walk_at "hp") => `(tactic| first | with_reducible assumption | with_reducible exact L2.upd_same)
local macro_rules | `(tactic| walk_at "sq") => `(tactic| first | with_reducible assumption | ((with_reducible apply L2.SqL.of); walk_at "hp") | ((with_reducible apply L2.SqT.of); walk_at "hp"))
local macro_rules | `(tactic| walk_at "sz") => `(tactic| first | with_reducible assumption | omega | (simp only [List.length_append, List.length_cons, List.length_nil, List.length_map]; omega))
local macro_rules | `(tactic| walk_at "rd1") => `(tactic| first
  | with_reducible refine L2.rd_seq ?_
  | with_reducible refine L2.rd_asg ?_
  | with_reducible refine L2.rd_name ?_
  | with_reducible refine L2.rd_nx ?_
  | with_reducible refine L2.rd_rt ?_
  | with_reducible refine L2.rd_op ?_
  | ((with_reducible apply L2.rd_var); exact rfl)
  | with_reducible refine L2.rd_C ?_
  | with_reducible refine L2.rd_I0 ?_
  | with_reducible refine L2.rd_U ?_
  | ((with_reducible refine L2.rd_I ?_ ?_); first | (show (0 : Int) < _; decide) | exact ⟨by decide, by decide⟩ | exact .inl ⟨by decide, by decide⟩ | exact .inr ⟨by decide, by decide⟩)
  | with_reducible refine L2.rd_un ?_
  | with_reducible refine L2.rd_if ?_
  | with_reducible refine L2.rd_test ?_
  | with_reducible refine L2.rd_B ?_
  | with_reducible refine L2.rd_bl ?_
  | with_reducible refine L2.rd_not ?_
  | with_reducible refine L2.rd_and ?_
  | with_reducible refine L2.rd_or ?_
  | with_reducible refine L2.rd_andV ?_
  | with_reducible refine L2.rd_orV ?_
  | with_reducible refine L2.rd_notV ?_
  | with_reducible refine L2.rd_ifE ?_
  | with_reducible refine L2.rd_eqI ?_
  | with_reducible refine L2.rd_eqC L2.c_open ?_
  | with_reducible refine L2.rd_eqC L2.c_close ?_
  | with_reducible refine L2.rd_eqC L2.c_rub ?_
  | with_reducible refine L2.rd_eqC rfl ?_
  | with_reducible refine L2.rd_eqB ?_
  | with_reducible refine L2.rd_eqS ?_
  | with_reducible refine L2.rd_neI ?_
  | with_reducible refine L2.rd_neC L2.c_open ?_
  | with_reducible refine L2.rd_neC L2.c_close ?_
  | with_reducible refine L2.rd_neC L2.c_rub ?_
  | with_reducible refine L2.rd_neB ?_
  | with_reducible refine L2.rd_neS ?_
  | with_reducible refine L2.rd_cb ?_
  | with_reducible refine L2.rd_cons ?_
  | with_reducible refine L2.rd_nil ?_
  | with_reducible refine L2.rd_call ?_
  | with_reducible refine L2.rd_lst ?_
  | with_reducible refine L2.rd_tup ?_
  | ((with_reducible refine L2.rd_small ?_ ?_); exact Nat.le_of_ble_eq_true rfl)
  | with_reducible refine L2.rd_ret ?_
  | with_reducible refine L2.rd_retN ?_
  | with_reducible refine L2.rd_next ?_
  | with_reducible refine L2.rd_drop ?_
  | ((with_reducible apply L2.rd_aug); exact rfl)
  | with_reducible refine L2.rd_ipI ?_
  | with_reducible refine L2.rd_bm ?_
  | with_reducible refine L2.rd_bm0 ?_
  | with_reducible refine L2.rd_tyS ?_
  | ((with_reducible apply L2.rd_tyL); walk_at "hp")
  | ((with_reducible apply L2.rd_append); walk_at "hp"; walk_at "sz")
  | ((with_reducible refine L2.rd_lenZ ?_ ?_); walk_at "sz")
  | ((with_reducible apply L2.rd_lenQ); walk_at "sq")
  | ((with_reducible apply L2.rd_ixL); walk_at "sq"; with_reducible assumption)
  | ((with_reducible apply L2.rd_ixLi); walk_at "sq"; with_reducible assumption)
  | ((with_reducible apply L2.rd_ixS); walk_at "sz"; with_reducible assumption)
  | ((with_reducible apply L2.rd_ixT); walk_at "sq"; first | with_reducible assumption | exact rfl)
  | ((with_reducible apply L2.rd_ixTi); walk_at "sq"; first | with_reducible assumption | exact rfl)
  | with_reducible refine L2.rd_sub ?_
  | ((with_reducible apply L2.rd_tupG); walk_at "sq"; exact rfl)
  | with_reducible refine L2.rd_gcons ?_
  | with_reducible refine L2.rd_gnil ?_
  | with_reducible refine L2.rd_sl ?_
  | with_reducible refine L2.rd_noPart ?_
  | with_reducible refine L2.rd_part ?_
  | with_reducible refine L2.rd_int ?_
  | with_reducible refine L2.rd_str ?_
  | with_reducible refine L2.rd_str1 ?_
  | ((with_reducible refine L2.rd_slS ?_ ?_); walk_at "sz")
  | ((with_reducible apply L2.rd_slL); walk_at "sq")
  | ((with_reducible refine L2.rd_addZ ?_ ?_); walk_at "sz")
  | with_reducible refine L2.rd_inS3 ?_
  | with_reducible refine L2.rd_inSq ?_
  | ((with_reducible apply L2.rd_sum); walk_at "sq")
  | ((with_reducible apply L2.rd_all); walk_at "sq")
  | ((with_reducible apply L2.rd_any); walk_at "sq")
  | with_reducible refine L2.rd_isN ?_
  | with_reducible refine L2.rd_notN ?_
  | with_reducible refine L2.rd_isNotB ?_
  | with_reducible refine L2.rd_geS ?_
  | ((with_reducible apply L2.rd_listOf); walk_at "sq")
  | ((with_reducible refine L2.rd_listS ?_ ?_); walk_at "sz")
  | with_reducible refine L2.rd_revS ?_
  | ((with_reducible refine L2.rd_rRevS ?_ ?_); walk_at "sz")
  | with_reducible refine L2.rd_revL ?_
  | ((with_reducible apply L2.rd_rRevL); walk_at "sq")
  | with_reducible refine L2.rd_lc ?_
  | with_reducible refine L2.rd_lcI ?_
  | with_reducible refine L2.rd_iList ?_
  | ((with_reducible apply L2.rd_refL); walk_at "sq")
  | with_reducible refine L2.rd_iRng1 ?_
  | with_reducible refine L2.rd_iRng2 ?_
  | with_reducible refine L2.rd_iRngD ?_
  | with_reducible refine L2.rd_iZipS ?_
  | with_reducible refine L2.rd_str2 ?_
  | with_reducible refine L2.rd_iZipL ?_
  | ((with_reducible apply L2.rd_refL2); walk_at "sq"; walk_at "sq")
  | with_reducible refine L2.rd_iEnumL ?_
  | ((with_reducible apply L2.rd_refL1); walk_at "sq")
  | with_reducible refine L2.rd_chain ?_
  | with_reducible refine L2.rd_for ?_
  | with_reducible refine L2.rd_iStr ?_
  | with_reducible refine L2.rd_iEnumS ?_)
local macro_rules | `(tactic| walk_at "rd") => `(tactic| repeat walk_at "rd1")
seal L2.PE L2.PA L2.PS L2.PSs L2.PT L2.PPs
namespace HF
open PySem L2
def top (i : Nat) : Stmt := PySem.Challenge.pw_halftold_k03_whole_counted.main.body.getD i (.Pass ⟨0, 0, 0, 0⟩)
section
variable {P : Program} {w : World} {K : PySem.W.Frag} {mg : Str → Option Value} {base : Heap} {C_BadRow : Addr}
abbrev s_is_row : Stmt := top 9
theorem sc_is_row : FnScope ["value"] ["value"] (defScope s_is_row) := ⟨rfl, rfl, rfl, by decide +kernel, rfl, by decide +kernel, by decide +kernel⟩
def sp_is_row : Sp := fun vs H Q _ => ∃ z, vs = [.str z] ∧ z.length ≤ 1000 ∧ ∀ H', Same H H' → Q (.bl ((cds z).all okc)) H'
theorem ok_is_row {f : Addr} (D : Def K mg "is_row" s_is_row f ["value"]) (B : Bl mg) : Cal P w K mg base CX0 1 "is_row" f ["value"] sp_is_row := by
  refine D.ok sc_is_row (fun vs H Q E h => by obtain ⟨z, rfl, _⟩ := h; rfl) (fun cdv A outer s H vs Q E hr h => ?_)
  obtain ⟨z, rfl, hz, k⟩ := h
  refine ⟨_, (pss_one (ps_ret (pe_and (pe_callB (call_isiK (K := K) rfl) rfl B.isinstance (by decide +kernel) (pa_cons (pv 0) (pa_cons (pe_bltn (v := .ty "str") rfl B.str (by decide +kernel) rfl) pa_nil))) (pe_one (pe_callB (call_allK (K := K) rfl rfl) rfl B.all (by decide +kernel) (pa_cons (pe_lcomp (N := ["sign"]) (js := [none]) rfl (pi_str (pv 0)) (fun _ _ _ _ => (pg_name (i := 0) (show (["sign"] : List Str).Nodup by decide +kernel) rfl (Or.inl rfl) (.inr rfl))) (fun _ _ _ _ => (pe_cmpR op_inS (pv 0) pe_str (by with_unfolding_all rfl)))) pa_nil)))))), ?_⟩
  walk_at "rd"
  refine rd_isi rfl (.str z) (by kernel_rfl) ⟨true, rfl, iteT ?_⟩
  walk_at "rd"
  refine (lc_fun (itOf_str z H) (le_line hz) (fun σ' => ∃ v, σ' = [v]) (fun i => .bl (okc ((cds z).getD i 0))) ⟨_, rfl⟩ (fun i x σ' H' hi hx hs hS R hR => ?_) fun l H' hS hl hL => ?_)
  · obtain ⟨v, rfl⟩ := hs
    obtain ⟨c, hc, rfl⟩ := hx
    walk_at "rd"
    have := hR [some (.str ⟨#[c]⟩)] H' ⟨_, rfl⟩ (Same.refl _)
    rw [List.getD_eq_getElem?_getD, hc] at this
    exact this
  · refine ⟨l, (cds z).map okc, rfl, SqL.of ?_, ?_⟩
    · rw [hL]
      congr 2
      refine List.ext_getElem (by simp [cds, Str.length]) fun i h1 h2 => ?_
      simp at h1 h2 ⊢
      simp [h1, h2]
    · rw [List.all_map]
      exact k H' hS
abbrev s_check_row : Stmt := top 11
theorem sc_check_row : FnScope ["row"] ["row"] (defScope s_check_row) := ⟨rfl, rfl, rfl, by decide +kernel, rfl, by decide +kernel, by decide +kernel⟩
def sp_check_row (C : Addr) : Sp := fun vs H Q E => ∃ z, vs = [.str z] ∧ z.length ≤ 1000 ∧ ((cds z).all okc = true → ∀ H', Same H H' → Q .non H') ∧ ((cds z).all okc = false → ∀ H', Same H H' → E (.ref C) none H')
theorem ok_check_row {f f_is_row : Addr} (D : Def K mg "check_row" s_check_row f ["row"]) (X_BadRow : ExcC K mg "BadRow" C_BadRow) (G_is_row : Cal P w K mg base CX0 1 "is_row" f_is_row ["value"] sp_is_row) :
    Cal P w K mg base (CXe P w) 2 "check_row" f ["row"] (sp_check_row C_BadRow) := by
  refine D.okX sc_check_row (fun vs H Q E h => by obtain ⟨z, rfl, _⟩ := h; rfl) (fun cdv A outer s H vs Q E hr h => ?_)
  obtain ⟨z, rfl, hz, k1, k2⟩ := h
  refine ⟨_, (pss_one (ps_if (pt_not (pt_val (pe_callC G_is_row (hr.mono (by decide)) rfl pass0 (pa_cons (pv 0) pa_nil)))) (pss_one (ps_raise raises_def rfl X_BadRow.x rfl X_BadRow.at_ (pa_cons pe_str pa_nil))) pss_nil)), ?_⟩
  walk_at "rd"
  refine ⟨z, rfl, hz, fun H' hS => ?_⟩
  walk_at "rd"
  refine rd_iteNB (fun e => ?_) (fun e => ?_)
  · exact ⟨by show 1 ≤ sizeLine; decide, k2 e H' hS⟩
  · exact k1 e H' hS
abbrev s_running_depths : Stmt := top 12
theorem sc_running_depths : FnScope ["text", "counts", "sign", "step"] ["text"] (defScope s_running_depths) := ⟨rfl, rfl, rfl, by decide +kernel, rfl, by decide +kernel, by decide +kernel⟩
def sp_running_depths : Sp := fun vs H Q _ => ∃ z, vs = [.str z] ∧ z.length ≤ 1000 ∧ ∀ l H', Same H H' → H l = none → H' l = some (.lst ((H5.deps (cds z)).map V.int)) → Q (.ref l) H'
theorem ok_running_depths {f : Addr} (D : Def K mg "running_depths" s_running_depths f ["text"]) : Cal P w K mg base CX0 1 "running_depths" f ["text"] sp_running_depths := by
  refine D.ok sc_running_depths (fun vs H Q E h => by obtain ⟨z, rfl, _⟩ := h; rfl) (fun cdv A outer s H vs Q E hr h => ?_)
  obtain ⟨z, rfl, hz, k⟩ := h
  refine ⟨_, (pss_cons (ps_set (i := 1) sc_running_depths.nd rfl (Or.inl rfl) (pe_lst (pa_cons pe_int pa_nil)))
    (pss_cons (ps_for PassesOwn.never rfl (pi_str (pv 0)) (pg_name (i := 2) sc_running_depths.nd rfl (Or.inl rfl))
      (pss_cons (ps_set (i := 3) sc_running_depths.nd rfl (Or.inl rfl) (pe_ifExp (pt_cmpR op_eq (pv 2) pe_str (nomark _)) pe_int (pe_un un_neg pe_int)))
    (pss_one (ps_expr (pe_bmK (K := K) rfl PySem.F.plainAttrs_list PySem.F.slot_list_append PySem.F.type_list_append mt_append (pv 1) (pa_cons (pe_op op_add (pe_ix (ix_listK (K := K) rfl) (pv 1) (pe_un un_neg pe_int) (fun _ _ => rfl)) (pv 3)) pa_nil))))))
    (pss_one (ps_ret (pv 1))))), ?_⟩
  walk_at "rd"
  intro l hl
  walk_at "rd"
  refine for_str (fun i σ H' => ∃ v u, σ = [some (.str z), some (.ref l), v, u] ∧ Same H H' ∧ H' l = some (.lst ((depsTo (cds z) i).map V.int))) ⟨none, none, rfl, same_new hl, upd_same⟩ (fun i c σ H' hc h => ?_) (fun σ H' h => ?_)
  · obtain ⟨v, u, rfl, hS, hL⟩ := h
    have hc' := cds_at hc
    have hi := cds_lt hc'
    obtain ⟨r, hr'⟩ := depsTo_last (cds z) i
    have hlen := depsTo_len (cds z) i
    rw [hr', List.length_append, List.length_singleton] at hlen
    have hL' : H' l = some (.lst (r.map V.int ++ [.int (H5.dep (cds z) i)])) := by rw [hL, hr', List.map_append]; rfl
    have fin : ∀ st : Int, st = H5.stp c → Same H (upd H' l (.lst ((r.map V.int ++ [.int (H5.dep (cds z) i)]) ++ [.int (H5.dep (cds z) i + st)]))) ∧ (upd H' l (.lst ((r.map V.int ++ [.int (H5.dep (cds z) i)]) ++ [.int (H5.dep (cds z) i + st)]))) l = some (.lst ((depsTo (cds z) (i + 1)).map V.int)) := fun st e => by
      refine ⟨same_upd hS hl, ?_⟩
      rw [upd_same, depsTo_succ, hr', List.map_append, List.map_append, H5.dep_succ hc', e]
      rfl
    clear hL
    walk_at "rd"
    refine rd_ite (fun e => ?_) (fun e => ?_)
    · obtain ⟨f1, f2⟩ := fin 1 (by rw [e]; rfl)
      walk_at "rd"
      refine ⟨l, _, _, _, rfl, rfl, SqL.of hL', atI_last _ _, ?_⟩
      walk_at "rd"
      exact ⟨_, _, rfl, f1, f2⟩
    · obtain ⟨f1, f2⟩ := fin (-1) (by unfold H5.stp; rw [if_neg e])
      walk_at "rd"
      refine ⟨l, _, _, _, rfl, rfl, SqL.of hL', atI_last _ _, ?_⟩
      walk_at "rd"
      exact ⟨_, _, rfl, f1, f2⟩
  · obtain ⟨v, u, rfl, hS, hL⟩ := h
    walk_at "rd"
    exact k l H' hS hl hL
abbrev s_is_closed : Stmt := top 13
theorem sc_is_closed : FnScope ["row", "counts"] ["row"] (defScope s_is_closed) := ⟨rfl, rfl, rfl, by decide +kernel, rfl, by decide +kernel, by decide +kernel⟩
def sp_is_closed : Sp := fun vs H Q _ => ∃ z, vs = [.str z] ∧ z.length ≤ 1000 ∧ ∀ H', Same H H' → Q (.bl (cloB (cds z))) H'
theorem ok_is_closed {f f_running_depths : Addr} (D : Def K mg "is_closed" s_is_closed f ["row"]) (B : Bl mg) (G_running_depths : Cal P w K mg base CX0 1 "running_depths" f_running_depths ["text"] sp_running_depths) :
    Cal P w K mg base CX0 2 "is_closed" f ["row"] sp_is_closed := by
  refine D.ok sc_is_closed (fun vs H Q E h => by obtain ⟨z, rfl, _⟩ := h; rfl) (fun cdv A outer s H vs Q E hr h => ?_)
  obtain ⟨z, rfl, hz, k⟩ := h
  refine ⟨_, (pss_cons (ps_if (pt_cmpR op_inS pe_str (pv 0) (by with_unfolding_all rfl)) (pss_one (ps_ret pe_bl)) pss_nil)
    (pss_cons (ps_set (i := 1) sc_is_closed.nd rfl (Or.inl rfl) (pe_callC G_running_depths (hr.mono (by decide)) rfl pass0 (pa_cons (pv 0) pa_nil)))
    (pss_one (ps_ret (pe_and (pe_cmpR op_eq (pe_ix (ix_listK (K := K) rfl) (pv 1) (pe_un un_neg pe_int) (fun _ _ => rfl)) pe_int (nomark _)) (pe_one (pe_cmpR op_eq (pe_callB (call_minK (K := K) rfl rfl) rfl B.min (by decide +kernel) (pa_cons (pv 1) pa_nil)) pe_int (nomark _)))))))), ?_⟩
  walk_at "rd"
  refine rd_iteB (fun e => ?_) (fun e => ?_)
  · walk_at "rd"
    have := k H (Same.refl H)
    unfold cloB at this
    rw [e] at this
    exact this
  · walk_at "rd"
    refine ⟨z, rfl, hz, fun l H' hS hl hL => ?_⟩
    obtain ⟨r, hr'⟩ := depsTo_last (cds z) (cds z).length
    have hL' : H' l = some (.lst (r.map V.int ++ [.int (H5.dep (cds z) (cds z).length)])) := by rw [hL, ← depsTo_all, hr', List.map_append]; rfl
    have kk := k H' hS
    unfold cloB at kk
    rw [e] at kk
    walk_at "rd"
    refine ⟨l, _, _, _, rfl, rfl, SqL.of hL', atI_last _ _, ?_⟩
    walk_at "rd"
    refine rd_iteB (fun e2 => ?_) (fun e2 => ?_)
    · rw [e2] at kk
      walk_at "rd"
      refine ⟨l, H5.deps (cds z), rfl, SqL.of hL, (fun q => by have := congrArg List.length q; rw [deps_len] at this; simp at this), fun M hM hle => ?_⟩
      walk_at "rd"
      rw [min_zero hM hle]
      exact kk
    · rw [e2] at kk
      walk_at "rd"
      exact kk
abbrev s_is_filling : Stmt := top 14
theorem sc_is_filling : FnScope ["row", "text"] ["row", "text"] (defScope s_is_filling) := ⟨rfl, rfl, rfl, by decide +kernel, rfl, by decide +kernel, by decide +kernel⟩
def sp_is_filling : Sp := fun vs H Q _ => ∃ r z, vs = [.str r, .str z] ∧ r.length ≤ 1000 ∧ z.length ≤ 1000 ∧ ∀ H', Same H H' → Q (.bl (filB (cds r) (cds z))) H'
theorem ok_is_filling {f f_is_row f_is_closed : Addr} (D : Def K mg "is_filling" s_is_filling f ["row", "text"]) (B : Bl mg) (G_is_row : Cal P w K mg base CX0 1 "is_row" f_is_row ["value"] sp_is_row)
    (G_is_closed : Cal P w K mg base CX0 2 "is_closed" f_is_closed ["row"] sp_is_closed) : Cal P w K mg base CX0 3 "is_filling" f ["row", "text"] sp_is_filling := by
  refine D.ok sc_is_filling (fun vs H Q E h => by obtain ⟨r, z, rfl, _⟩ := h; rfl) (fun cdv A outer s H vs Q E hr h => ?_)
  obtain ⟨r, z, rfl, hrl, hz, k⟩ := h
  refine ⟨_, (pss_cons (ps_if (PW.pt (pw_or (pt_not (pt_val (pe_callC G_is_row (hr.mono (by decide)) rfl pass0 (pa_cons (pv 1) pa_nil)))) (pw_or (pt_cmpR op_ne (pe_callB call_lenS rfl B.len PySem.boot_len (pa_cons (pv 1) pa_nil)) (pe_callB call_lenS rfl B.len PySem.boot_len (pa_cons (pv 0) pa_nil)) (nomark _)) (pw_or1 (pt_not (pt_val (pe_callC G_is_closed (hr.mono (by decide)) rfl pass0 (pa_cons (pv 1) pa_nil)))))))) (pss_one (ps_ret pe_bl)) pss_nil)
    (pss_one (ps_ret (pe_callB (call_allK (K := K) rfl rfl) rfl B.all (by decide +kernel) (pa_cons (pe_lcomp (N := ["mark", "sign"]) (js := [none, none]) rfl (pi_zipS rfl B.zip (pa_cons (pv 0) (pa_cons (pv 1) pa_nil))) (fun _ _ _ _ => (pg_tupK (K := K) 2 rfl rfl (pgs_cons (pg_name (i := 0) (show (["mark", "sign"] : List Str).Nodup by decide +kernel) rfl (Or.inl rfl) (.inr rfl)) (pgs_cons (pg_name (i := 1) (show (["mark", "sign"] : List Str).Nodup by decide +kernel) rfl (Or.inl rfl) (.inr rfl)) pgs_nil)))) (fun _ _ _ _ => (pe_or (pe_cmpR op_eq (pv 0) pe_str (nomark _)) (pe_one (pe_cmpR op_eq (pv 0) (pv 1) (nomark _)))))) pa_nil))))), ?_⟩
  walk_at "rd"
  refine ⟨z, rfl, hz, fun H1 hS1 => ?_⟩
  have kk : ∀ b, filB (cds r) (cds z) = b → ∀ H', Same H1 H' → Q (.bl b) H' := fun b e H' hS => by rw [← e]; exact k H' (hS1.trans hS)
  unfold filB at kk
  walk_at "rd"
  refine rd_iteNB (fun e => ?_) (fun e => ?_)
  · walk_at "rd"
    exact kk false (by rw [e]; rfl) H1 (Same.refl _)
  rw [e] at kk
  walk_at "rd"
  refine rd_iteN (fun e2 => ?_) (fun e2 => ?_)
  · walk_at "rd"
    exact kk false (by rw [decide_eq_false (by rw [cds_len, cds_len]; omega)]; rfl) H1 (Same.refl _)
  have hlen : z.length = r.length := by omega
  rw [decide_eq_true (show (cds z).length = (cds r).length from hlen)] at kk
  walk_at "rd"
  refine ⟨z, rfl, hz, fun H2 hS2 => ?_⟩
  walk_at "rd"
  refine rd_iteNB (fun e3 => ?_) (fun e3 => ?_)
  · walk_at "rd"
    exact kk false (by rw [e3]; rfl) H2 hS2
  rw [e3] at kk
  walk_at "rd"
  refine (lc_fun (itOf_zipS r z H2) (le_line (by omega)) (fun σ' => ∃ v u, σ' = [v, u]) (fun i => .bl ((cds r).getD i 0 == 63 || (cds r).getD i 0 == (cds z).getD i 0)) ⟨_, _, rfl⟩ (fun i x σ' H' hi hx hs hS R hR => ?_) fun l H' hS hl hL => ?_)
  · obtain ⟨v, u, rfl⟩ := hs
    obtain ⟨c, d, p, hc, hd, rfl, hp⟩ := hx
    rw [List.getD_eq_getElem?_getD, List.getD_eq_getElem?_getD, hc, hd] at hR
    have hR' : ∀ b, (c == 63 || c == d) = b → R [some (.str ⟨#[c]⟩), some (.str ⟨#[d]⟩)] (.bl b) H' := fun b e => by
      have := hR [some (.str ⟨#[c]⟩), some (.str ⟨#[d]⟩)] H' ⟨_, _, rfl⟩ (Same.refl _)
      rw [← e]; exact this
    walk_at "rd"
    refine rd_ite (fun e4 => ?_) (fun e4 => ?_)
    · exact hR' true (by simp [e4])
    · walk_at "rd"
      refine hR' _ ?_
      rw [beq_eq_false_iff_ne.mpr e4, Bool.false_or]
      by_cases q : c = d <;> simp [q]
  · refine ⟨l, (List.range (min r.length z.length)).map (fun i => (cds r).getD i 0 == 63 || (cds r).getD i 0 == (cds z).getD i 0), rfl, SqL.of (by rw [hL, List.map_map]; rfl), ?_⟩
    refine kk _ ?_ H' (hS2.trans hS)
    rw [List.all_map]
    show marks (cds r) (cds z) = _
    unfold marks
    have e : (cds r).zip (cds z) = (List.range (min r.length z.length)).map fun i => ((cds r).getD i 0, (cds z).getD i 0) := by
      refine List.ext_getElem (by simp [cds, Str.length]) fun i h1 h2 => ?_
      simp only [List.length_zip, cds_len] at h1
      have h3 : i < (cds r).length := by rw [cds_len]; omega
      have h4 : i < (cds z).length := by rw [cds_len]; omega
      simp only [List.getElem_zip, List.getElem_map, List.getElem_range, List.getD_eq_getElem?_getD, List.getElem?_eq_getElem h3, List.getElem?_eq_getElem h4, Option.getD_some]
    rw [e, List.all_map]
    rfl
end
end HF
set_option Elab.async false
set_option linter.all false
set_option maxRecDepth 100000
set_option maxHeartbeats 4000000
namespace HF
open PySem L2
section
variable {P : Program} {w : World} {K : PySem.W.Frag} {mg : Str → Option Value} {base : Heap} {C_Filled C_Uneven C_Early C_Late C_Cheapest C_BadRow C_NoFilling : Addr}
abbrev s_Early___init__ : Stmt := inClass (top 18) 0
theorem sc_Early___init__ : FnScope ["self", "many"] ["self", "many"] (defScope s_Early___init__) := ⟨rfl, rfl, rfl, by decide +kernel, rfl, by decide +kernel, by decide +kernel⟩
theorem ok_Early_init (D : DefM K C_Early "__init__" "Early.__init__" s_Early___init__ ["self", "many"]) (O : ObjC K mg "Early" C_Early) (mk : PySem.W.makesIn K C_Early = true) (kp : PySem.W.keepIn K (.ref C_Early) = true) :
    CalI P w K mg base "Early" C_Early 1 ["self", "many"] (spInit1 C_Early "many") := by
  refine D.init mk kp O.at_ sc_Early___init__ len_spInit1 (fun f cdv A outer s H vs Q E hr h => ?_)
  obtain ⟨x, dx, v, rfl, hx, k⟩ := h
  refine ⟨_, (pss_one (ps_fldK (K := K) rfl (pv 0) (pv 1) rfl)), ?_⟩
  exact ⟨_, rfl, _, rfl, x, C_Early, dx, [], rfl, hx, O.k.cl, O.many, by decide, k⟩
abbrev s_Late___init__ : Stmt := inClass (top 19) 0
theorem sc_Late___init__ : FnScope ["self", "many"] ["self", "many"] (defScope s_Late___init__) := ⟨rfl, rfl, rfl, by decide +kernel, rfl, by decide +kernel, by decide +kernel⟩
theorem ok_Late_init (D : DefM K C_Late "__init__" "Late.__init__" s_Late___init__ ["self", "many"]) (O : ObjC K mg "Late" C_Late) (mk : PySem.W.makesIn K C_Late = true) (kp : PySem.W.keepIn K (.ref C_Late) = true) :
    CalI P w K mg base "Late" C_Late 1 ["self", "many"] (spInit1 C_Late "many") := by
  refine D.init mk kp O.at_ sc_Late___init__ len_spInit1 (fun f cdv A outer s H vs Q E hr h => ?_)
  obtain ⟨x, dx, v, rfl, hx, k⟩ := h
  refine ⟨_, (pss_one (ps_fldK (K := K) rfl (pv 0) (pv 1) rfl)), ?_⟩
  exact ⟨_, rfl, _, rfl, x, C_Late, dx, [], rfl, hx, O.k.cl, O.many, by decide, k⟩
abbrev s_overfull : Stmt := top 21
theorem sc_overfull : FnScope ["row", "sign", "excess", "place", "found"] ["row", "sign"] (defScope s_overfull) := ⟨rfl, rfl, rfl, by decide +kernel, rfl, by decide +kernel, by decide +kernel⟩
def exc (d : Nat) (cs : List Nat) (i : Nat) : Int := 2 * ((cs.take i).count d : Int) - i
theorem exc_succ {d c : Nat} {cs : List Nat} {i : Nat} (h : cs[i]? = some c) : exc d cs (i + 1) = exc d cs i + (if c = d then 1 else -1) := by
  unfold exc
  rw [List.take_add_one, h, List.count_append]
  by_cases e : c = d
  · subst e; simp; omega
  · rw [if_neg e]
    have : [c].count d = 0 := List.count_eq_zero_of_not_mem (by simpa using Ne.symm e)
    simp [this]; omega
def sp_overfull : Sp := fun vs H Q _ => ∃ (z g : Str) (d : Nat), vs = [.str z, .str g] ∧ g = ⟨#[d]⟩ ∧ z.length ≤ 1000 ∧
  ((∀ i, i ≤ z.length → exc d (cds z) i ≤ 0) → ∀ H', Same H H' → Q (.int 0) H') ∧ (∀ r : Nat, 1 ≤ r → r ≤ z.length → 0 < exc d (cds z) r → ∀ H', Same H H' → Q (.int r) H')
theorem ok_overfull {f : Addr} (D : Def K mg "overfull" s_overfull f ["row", "sign"]) (B : Bl mg) : Cal P w K mg base CX0 1 "overfull" f ["row", "sign"] sp_overfull := by
  refine D.ok sc_overfull (fun vs H Q E h => by obtain ⟨z, g, d, rfl, _⟩ := h; rfl) (fun cdv A outer s H vs Q E hr h => ?_)
  obtain ⟨z, g, d, rfl, rfl, hz, k0, k1⟩ := h
  refine ⟨_, (pss_cons (ps_set (i := 2) sc_overfull.nd rfl (Or.inl rfl) pe_int)
    (pss_cons (ps_for PassesOwn.never rfl (pi_enumS rfl B.enumerate (pa_cons (pv 0) pa_nil)) (pg_tupK (K := K) 2 rfl rfl (pgs_cons (pg_name (i := 3) sc_overfull.nd rfl (Or.inl rfl)) (pgs_cons (pg_name (i := 4) sc_overfull.nd rfl (Or.inl rfl)) pgs_nil)))
      (pss_cons (ps_aug (i := 2) sc_overfull.nd rfl (Or.inl rfl) (pe_ifExp (pt_cmpR op_eq (pv 4) (pv 1) (nomark _)) pe_int (pe_un un_neg pe_int)) ip_add)
    (pss_one (ps_if (pt_cmpR op_gt (pv 2) pe_int (nomark _)) (pss_one (ps_ret (pe_op op_add (pv 3) pe_int))) pss_nil))))
    (pss_one (ps_ret pe_int)))), ?_⟩
  walk_at "rd"
  have h0 : exc d (cds z) 0 = 0 := rfl
  refine for_enumS (fun i σ H' => ∃ v3 v4, σ = [some (.str z), some (.str ⟨#[d]⟩), some (.int (exc d (cds z) i)), v3, v4] ∧ Same H H' ∧ ∀ j, j ≤ i → exc d (cds z) j ≤ 0) ⟨none, none, by rw [h0]; rfl, Same.refl _, fun j hj => by rw [show j = 0 by omega, h0]; exact Int.le_refl _⟩ (fun i c σ H' p hc h hp => ?_) (fun σ H' h => ?_)
  · obtain ⟨v3, v4, rfl, hS, hj⟩ := h
    have hc' := cds_at hc
    have hi := cds_lt hc'
    have hS2 : Same H (upd H' p (.tup [.int i, .str ⟨#[c]⟩])) := same_upd hS (hS.free hp)
    have ex := exc_succ (d := d) hc'
    walk_at "rd"
    refine rd_ite (fun e => ?_) (fun e => ?_)
    · rw [if_pos e] at ex
      walk_at "rd"
      refine rd_ite (fun e2 => ?_) (fun e2 => ?_)
      · walk_at "rd"
        exact k1 (i + 1) (by omega) (by omega) (by rw [ex]; exact e2) _ hS2
      · walk_at "rd"
        refine ⟨_, _, by rw [ex]; rfl, hS2, fun j hj' => ?_⟩
        by_cases q : j = i + 1
        · rw [q, ex]; omega
        · exact hj j (by omega)
    · rw [if_neg e] at ex
      walk_at "rd"
      refine rd_ite (fun e2 => ?_) (fun e2 => ?_)
      · walk_at "rd"
        exact k1 (i + 1) (by omega) (by omega) (by rw [ex]; exact e2) _ hS2
      · walk_at "rd"
        refine ⟨_, _, by rw [ex]; rfl, hS2, fun j hj' => ?_⟩
        by_cases q : j = i + 1
        · rw [q, ex]; omega
        · exact hj j (by omega)
  · obtain ⟨v3, v4, rfl, hS, hj⟩ := h
    walk_at "rd"
    exact k0 (fun i hi => hj i hi) H' hS
abbrev s_what_bars : Stmt := top 22
theorem sc_what_bars : FnScope ["row", "early", "late"] ["row"] (defScope s_what_bars) := ⟨rfl, rfl, rfl, by decide +kernel, rfl, by decide +kernel, by decide +kernel⟩
/-- what is told where something bars -/
inductive Bars (CU CE CL : Addr) (r : List Nat) : Addr → List (Str × V) → Prop where
  | uneven (h : r.length % 2 = 1) : Bars CU CE CL r CU []
  | early (n : Nat) (h : n ≤ r.length) (hc : n < 2 * (r.take n).count 41) : Bars CU CE CL r CE [("many", .int n)]
  | late (n : Nat) (h : n ≤ r.length) (hc : n < 2 * (r.drop (r.length - n)).count 40) : Bars CU CE CL r CL [("many", .int n)]
def sp_what_bars (CU CE CL : Addr) : Sp := fun vs H Q _ => ∃ z, vs = [.str z] ∧ z.length ≤ 1000 ∧ (HM.Fb (cds z) → ∀ H', Same H H' → Q .non H') ∧
  (¬ HM.Fb (cds z) → ∀ x C dx fs H', NewO H H' x C dx fs → Bars CU CE CL (cds z) C fs → Q (.ref x) H')
theorem ok_what_bars {f f_overfull : Addr} (D : Def K mg "what_bars" s_what_bars f ["row"]) (B : Bl mg) (O_Uneven : ObjC K mg "Uneven" C_Uneven) (M_Uneven : Mk0 K C_Uneven) (I_Early : CalI P w K mg base "Early" C_Early 1 ["self", "many"] (spInit1 C_Early "many"))
    (I_Late : CalI P w K mg base "Late" C_Late 1 ["self", "many"] (spInit1 C_Late "many")) (G_overfull : Cal P w K mg base CX0 1 "overfull" f_overfull ["row", "sign"] sp_overfull) :
    CalU P w K mg base CX0 3 "what_bars" f ["row"] (sp_what_bars C_Uneven C_Early C_Late) := by
  refine D.up sc_what_bars (fun vs H Q E h => by obtain ⟨z, rfl, _⟩ := h; rfl) (fun cdv A outer s H vs Q E hr h => ?_)
  obtain ⟨z, rfl, hz, k1, k2⟩ := h
  refine ⟨_, pssu_head (psu_if (ptu_cmpL op_eq (peu_opC op_mod (pe_callB call_lenS rfl B.len PySem.boot_len (pa_cons (pv 0) pa_nil))) pe_int (nomark _)) (pss_one (ps_ret (pe_makeN M_Uneven rfl O_Uneven.at_))) pss_nil)
    (pss_cons (ps_set (i := 1) sc_what_bars.nd rfl (Or.inl rfl) (pe_callC G_overfull (hr.mono (by decide)) rfl pass0 (pa_cons (pv 0) (pa_cons pe_str pa_nil))))
    (pss_cons (ps_if (pt_cmpR op_gt (pv 1) pe_int (nomark _)) (pss_one (ps_ret (pe_makeC I_Early (hr.mono (by decide)) rfl (pa_cons (pv 1) pa_nil)))) pss_nil)
    (pss_cons (ps_set (i := 2) sc_what_bars.nd rfl (Or.inl rfl) (pe_callC G_overfull (hr.mono (by decide)) rfl pass0 (pa_cons (pe_revS (pv 0) (pe_un un_neg pe_int)) (pa_cons pe_str pa_nil))))
    (pss_cons (ps_if (pt_cmpR op_gt (pv 2) pe_int (nomark _)) (pss_one (ps_ret (pe_makeC I_Late (hr.mono (by decide)) rfl (pa_cons (pv 2) pa_nil)))) pss_nil)
    (pss_one (ps_ret pe_non)))))), ?_⟩
  walk_at "rd"
  refine rd_ite (fun e => ?_) (fun e => ?_)
  · walk_at "rd"
    refine rd_make0 fun x dx H' N => ?_
    have hodd : (cds z).length % 2 = 1 := by rw [cds_len]; omega
    exact k2 (fun F => by have := F.ev; omega) x _ dx [] H' N (.uneven hodd)
  have hev : (cds z).length % 2 = 0 := by rw [cds_len]; omega
  walk_at "rd"
  refine ⟨z, _, 41, rfl, c_close, hz, fun hp H1 hS1 => ?_, fun r h1 h2 h3 H1 hS1 => ?_⟩
  · walk_at "rd"
    refine iteF ?_
    walk_at "rd"
    refine ⟨revS z, _, 40, rfl, c_open, by rw [revS_len]; exact hz, fun hs H2 hS2 => ?_, fun r h1 h2 h3 H2 hS2 => ?_⟩
    · walk_at "rd"
      refine iteF ?_
      walk_at "rd"
      refine k1 ⟨hev, fun i hi => ?_, fun i hi => ?_⟩ H2 (hS1.trans hS2)
      · have := hp i hi
        unfold exc at this
        omega
      · have := hs (z.length - i) (by rw [revS_len]; omega)
        unfold exc at this
        rw [cds_rev, List.take_reverse, List.count_reverse] at this
        rw [cds_len] at hi this ⊢
        rw [show z.length - (z.length - i) = i by omega] at this
        omega
    · walk_at "rd"
      refine rd_ite (fun _ => ?_) (fun q => absurd (show (0 : Int) < r by omega) q)
      walk_at "rd"
      refine rd_makeD ?_
      walk_at "rd"
      intro x dx hx hdx _
      rw [revS_len] at h2
      have hc : r < 2 * ((cds z).drop ((cds z).length - r)).count 40 := by
        unfold exc at h3
        rw [cds_rev, List.take_reverse, List.count_reverse] at h3
        omega
      exact rd_init1 hx hdx fun H' N => k2 (fun F => by
        have := F.suf ((cds z).length - r) (by omega)
        rw [cds_len] at this hc
        omega) x _ dx _ H' ((hS1.trans hS2).newO N) (.late r h2 hc)
  · walk_at "rd"
    refine rd_ite (fun _ => ?_) (fun q => absurd (show (0 : Int) < r by omega) q)
    walk_at "rd"
    refine rd_makeD ?_
    walk_at "rd"
    intro x dx hx hdx _
    have hc : r < 2 * ((cds z).take r).count 41 := by
      unfold exc at h3
      omega
    exact rd_init1 hx hdx fun H' N => k2 (fun F => by
      have := F.pre r h2
      omega) x _ dx _ H' (hS1.newO N) (.early r h2 hc)
abbrev s_opened_early : Stmt := top 24
theorem sc_opened_early : FnScope ["row", "missing"] ["row"] (defScope s_opened_early) := ⟨rfl, rfl, rfl, by decide +kernel, rfl, by decide +kernel, by decide +kernel⟩
def sp_opened_early : Sp := fun vs H Q _ => ∃ z, vs = [.str z] ∧ z.length ≤ 1000 ∧ (cds z).all okc = true ∧ HM.Fb (cds z) ∧ ∀ y H', Same H H' → cds y = HM.early ((cds z).length / 2 - (cds z).count 40) (cds z) → Q (.str y) H'
theorem ok_opened_early {f : Addr} (D : Def K mg "opened_early" s_opened_early f ["row"]) (B : Bl mg) : Cal P w K mg base CX0 1 "opened_early" f ["row"] sp_opened_early := by
  refine D.ok sc_opened_early (fun vs H Q E h => by obtain ⟨z, rfl, _⟩ := h; rfl) (fun cdv A outer s H vs Q E hr h => ?_)
  obtain ⟨z, rfl, hz, ho, F, k⟩ := h
  refine ⟨_, pss_up (psu_set (i := 1) sc_opened_early.nd rfl (Or.inl rfl) (peu_opL op_sub (peu_opC op_fdiv (pe_callB call_lenS rfl B.len PySem.boot_len (pa_cons (pv 0) pa_nil))) (pe_bmK (K := K) rfl PySem.F.plainAttrs_str PySem.F.slot_str_count PySem.F.type_str_count (mt_count 40) (pv 0) (pa_cons pe_str pa_nil))))
    (pssp_one (psp_ret (pep_rep2 63 41 (pep_rep3 63 40 (PE.p (pv 0)) c_rub c_open (by decide) (pv 1)) c_rub c_close (by decide)))), ?_⟩
  obtain ⟨h1, h2⟩ := F.counts ho
  rw [cds_len] at h1 h2
  walk_at "rd"
  refine ⟨z, _, rfl, rfl, c_open, ?_⟩
  walk_at "rd"
  refine ⟨_, rfl, z, rfl, _, rfl, _, rfl, by omega, by omega, by omega, _, rfl, by rw [replS_len]; omega, ?_⟩
  refine k _ H (Same.refl _) ?_
  rw [cds_repl, cds_repl, HM.early_repl _ _ _ (by rw [replS_len, cds_len]; omega)]
  congr 1
  rw [cds_len]
  omega
end
end HF
set_option Elab.async false
set_option linter.all false
set_option maxRecDepth 100000
set_option maxHeartbeats 4000000
namespace HF
open PySem L2
section
variable {P : Program} {w : World} {K : PySem.W.Frag} {mg : Str → Option Value} {base : Heap} {C_Filled C_Uneven C_Early C_Late C_Cheapest C_BadRow C_NoFilling : Addr}
abbrev s__law_row : Stmt := top 37
theorem sc__law_row : FnScope ["_law_script", "_law_kind", "_law_many_here", "_law_signs", "_law_depth", "_law_at", "_law_cell", "_law_opens", "_law_sign"] ["_law_script"] (defScope s__law_row) := ⟨rfl, rfl, rfl, by decide +kernel, rfl, by decide +kernel, by decide +kernel⟩
def sp_law_row (K : PySem.W.Frag) : Sp := fun vs H Q _ => ∃ (a : Addr) (ns : List Int), vs = [.ref a] ∧ SqL K H a (ns.map V.int) ∧ ns.length ≤ 63 ∧ ∀ z H', Same H H' → (cds z).all okc = true → z.length ≤ ns.length → Q (.str z) H'
end
end HF
set_option Elab.async false
set_option linter.all false
set_option maxRecDepth 100000
set_option maxHeartbeats 4000000
namespace HF
open PySem L2
section
variable {P : Program} {w : World} {K : PySem.W.Frag} {mg : Str → Option Value} {base : Heap}
theorem okc_snoc {cs : List Nat} {c : Nat} (h : cs.all okc = true) (hc : okc c = true) : (cs ++ [c]).all okc = true := by simp [h, hc]
theorem okc_set {cs : List Nat} {c i : Nat} (h : cs.all okc = true) (hc : okc c = true) : (cs.set i c).all okc = true := List.all_eq_true.mpr fun d hd => by
  rcases List.mem_or_eq_of_mem_set hd with q | q
  · exact List.all_eq_true.mp h d q
  · rw [q]; exact hc
def RowInv (a ls lc : Addr) (kd m : Nat) (H : Hp) (items : List V) (i : Nat) (σ : St) (H' : Hp) : Prop :=
  ∃ (cs : List Nat) (d : Int) (v5 v6 v7 v8 : Option V), σ = [some (.ref a), some (.int kd), some (.int m), some (.ref ls), some (.int d), v5, v6, v7, v8] ∧ Same H H' ∧ H' ls = some (.lst (cs.map sg1)) ∧ H' lc = some (.lst items) ∧ cs.all okc = true ∧ cs.length = i
theorem ok__law_row {f : Addr} (D : Def K mg "_law_row" s__law_row f ["_law_script"]) (B : Bl mg) : Cal P w K mg base CX0 1 "_law_row" f ["_law_script"] (sp_law_row K) := by
  refine D.ok sc__law_row (fun vs H Q E h => by obtain ⟨a, ns, rfl, _⟩ := h; rfl) (fun cdv A outer s H vs Q E hr h => ?_)
  obtain ⟨a, ns, rfl, ha, h63, k⟩ := h
  refine ⟨_, (pss_cons (ps_set (i := 1) sc__law_row.nd rfl (Or.inl rfl) (pe_op op_mod (pe_callB (call_sumK (K := K) rfl rfl) rfl B.sum (by decide +kernel) (pa_cons (pv 0) pa_nil)) pe_int))
    (pss_cons (ps_if (pt_cmpR op_eq (pv 1) pe_int (nomark _)) (pss_one (ps_ret (pe_bmK (K := K) rfl PySem.F.plainAttrs_str PySem.F.slot_str_join PySem.F.type_str_join (mt_joinK (K := K) rfl) pe_str (pa_cons (pe_lcomp (N := ["_law_cell"]) (js := [none]) rfl (pi_listK (K := K) rfl (pv 0)) (fun _ _ _ _ => (pg_name (i := 0) (show (["_law_cell"] : List Str).Nodup by decide +kernel) rfl (Or.inl rfl) (.inr rfl))) (fun _ _ _ _ => (pe_ix ix_str pe_str (pe_op op_mod (pv 0) pe_int) (fun _ _ => rfl)))) pa_nil)))) pss_nil)
    (pss_cons (ps_set (i := 2) sc__law_row.nd rfl (Or.inl rfl) (pe_op op_mul (pe_op op_fdiv (pe_callB (call_lenK (K := K) rfl) rfl B.len PySem.boot_len (pa_cons (pv 0) pa_nil)) pe_int) pe_int))
    (pss_cons (ps_set (i := 3) sc__law_row.nd rfl (Or.inl rfl) (pe_lst pa_nil))
    (pss_cons (ps_set (i := 4) sc__law_row.nd rfl (Or.inl rfl) pe_int)
    (pss_cons (ps_for PassesOwn.never rfl (pi_enumLK (K := K) rfl rfl B.enumerate (pa_cons (pe_slice (sl_listK (K := K) rfl) (pv 0) po_none (po_some (pv 2))) pa_nil)) (pg_tupK (K := K) 2 rfl rfl (pgs_cons (pg_name (i := 5) sc__law_row.nd rfl (Or.inl rfl)) (pgs_cons (pg_name (i := 6) sc__law_row.nd rfl (Or.inl rfl)) pgs_nil)))
      (pss_cons (ps_set (i := 7) sc__law_row.nd rfl (Or.inl rfl) (pe_or (pe_cmpR op_eq (pv 4) pe_int (nomark _)) (pe_one (pe_and (pe_cmpR op_lt (pv 4) (pe_op op_sub (pv 2) (pv 5)) (nomark _)) (pe_one (pe_cmpR op_eq (pe_op op_mod (pv 6) pe_int) pe_int (nomark _)))))))
    (pss_cons (ps_set (i := 4) sc__law_row.nd rfl (Or.inl rfl) (pe_ifExp (pt_val (pv 7)) (pe_op op_add (pv 4) pe_int) (pe_op op_sub (pv 4) pe_int)))
    (pss_cons (ps_set (i := 8) sc__law_row.nd rfl (Or.inl rfl) (pe_ifExp (pt_val (pv 7)) pe_str pe_str))
    (pss_one (ps_expr (pe_bmK (K := K) rfl PySem.F.plainAttrs_list PySem.F.slot_list_append PySem.F.type_list_append mt_append (pv 3) (pa_cons (pe_ifExp (pt_cmpR op_gt (pe_op op_mod (pe_op op_fdiv (pv 6) pe_int) (pe_ix (ix_tupK (K := K) rfl) (pe_tup (pa_cons pe_int (pa_cons pe_int (pa_cons pe_int (pa_cons pe_int (pa_cons pe_int pa_nil)))))) (pv 1) (fun _ _ => rfl))) pe_int (nomark _)) pe_str (pv 8)) pa_nil))))))))
    (pss_cons (ps_if (PW.pt (pw_and (pt_cmpR op_eq (pv 1) pe_int (nomark _)) (pw_and1 (pt_cmpR (op_cmpNeLK (K := K) rfl (hu1 hr)) (pv 3) (pe_lst pa_nil) (nomark _))))) (pss_one (ps_asg (pe_ix ix_str pe_str (pe_op op_mod (pe_ix (ix_listK (K := K) rfl) (pv 0) pe_int (fun _ _ => rfl)) pe_int) (fun _ _ => rfl)) (pg_sub (pv 3) (pe_op op_mod (pe_op op_fdiv (pe_callB (call_sumK (K := K) rfl rfl) rfl B.sum (by decide +kernel) (pa_cons (pv 0) pa_nil)) pe_int) (pv 2)) set_list))) pss_nil)
    (pss_one (ps_ret (pe_bmK (K := K) rfl PySem.F.plainAttrs_str PySem.F.slot_str_join PySem.F.type_str_join (mt_joinK (K := K) rfl) pe_str (pa_cons (pv 3) pa_nil))))))))))), ?_⟩
  walk_at "rd"
  obtain ⟨kd, hkd, hkd5⟩ := mod_nat ns.sum 5 (by decide)
  rw [show ns.sum % 5 = (kd : Int) from hkd]
  refine rd_ite (fun e => ?_) (fun e => ?_)
  · walk_at "rd"
    refine lc_fun (itOf_list ha) (le_line (by simp; omega)) (fun σ' => ∃ v, σ' = [v]) (fun i => sg1 ([40, 41, 63].getD ((ns.getD i 0) % 3).toNat 63)) ⟨_, rfl⟩ (fun i x σ' H' hi hx hs hS R hR => ?_) fun l H' hS hl hL => ?_
    · obtain ⟨v, rfl⟩ := hs
      rw [List.getElem?_map] at hx
      cases hn : ns[i]? with
      | none => rw [hn] at hx; cases hx
      | some n =>
        rw [hn] at hx
        cases hx
        have hR' := hR [some (.int n)] H' ⟨_, rfl⟩ (Same.refl _)
        rw [List.getD_eq_getElem?_getD (l := ns), hn, Option.getD_some] at hR'
        walk_at "rd"
        obtain ⟨j, hj, hj3⟩ := mod_nat n 3 (by decide)
        have e3 : cds (Str.ofString "()?") = [40, 41, 63] := by decide +kernel
        have hj' : n % 3 = (j : Int) := hj
        rw [hj'] at hR' ⊢
        refine rd_ixS (c := [40, 41, 63].getD j 63) (by decide +kernel) ?_ ?_
        · rw [e3, List.getD_eq_getElem?_getD, List.getElem?_eq_getElem (show j < [40, 41, 63].length from hj3)]
          rfl
        · exact hR'
    · walk_at "rd"
      have hL' : H' l = some (.lst (((List.range ns.length).map fun i => [40, 41, 63].getD ((ns.getD i 0) % 3).toNat 63).map sg1)) := by
        rw [hL, List.map_map, List.length_map]
        rfl
      refine rd_join (SqL.of hL') (by simp; omega) ?_
      walk_at "rd"
      refine k _ H' hS ?_ (by rw [txt_len]; simp)
      rw [cds_txt]
      refine List.all_eq_true.mpr fun c hc => ?_
      obtain ⟨i, _, rfl⟩ := List.mem_map.mp hc
      obtain ⟨j, hj, hj3⟩ := mod_nat (ns.getD i 0) 3 (by decide)
      rw [show (ns.getD i 0) % 3 = (j : Int) from hj]
      rcases j with _ | _ | _ | j
      · rfl
      · rfl
      · rfl
      · omega
  · walk_at "rd"
    intro ls hls
    walk_at "rd"
    have s1 : Same H (upd H ls (.lst [])) := same_new hls
    refine rd_slL (s1.seq ha) fun lc hlc => ?_
    obtain ⟨m, hm, hml⟩ : ∃ m : Nat, (((ns.map V.int).length : Nat) : Int) / 2 * 2 = ((m : Nat) : Int) ∧ m ≤ (ns.map V.int).length := ⟨(ns.map V.int).length / 2 * 2, by omega, by omega⟩
    have hlcs : lc ≠ ls := fun q => by rw [q, upd_same] at hlc; cases hlc
    have hHc : H lc = none := s1.free hlc
    have hm63 : m ≤ 63 := by rw [List.length_map] at hml; omega
    rw [hm, cut_to hml]
    walk_at "rd"
    refine for_enumL (xs := (ns.map V.int).take m) (RowInv a ls lc kd m H ((ns.map V.int).take m))
      ⟨[], 0, none, none, none, none, rfl, s1.trans (same_new hlc), by rw [upd_ne (Ne.symm hlcs), upd_same]; rfl, upd_same, rfl, rfl⟩ (fun i σ H' _ h => by obtain ⟨_, _, _, _, _, _, _, _, _, h, _⟩ := h; exact SqL.of h) (fun i x σ H' p hx h hp => ?_) (fun σ H' h => ?_)
    · obtain ⟨cs, d, v5, v6, v7, v8, rfl, hS, hL, hC, hok, rfl⟩ := h
      have him : cs.length < m := by
        have := (List.getElem?_eq_some_iff.mp hx).1
        rw [List.length_take] at this
        omega
      obtain ⟨n, rfl⟩ : ∃ n, x = V.int n := by
        rw [List.getElem?_take_of_lt him, List.getElem?_map] at hx
        cases e : ns[cs.length]? with
        | none => rw [e] at hx; cases hx
        | some n => rw [e] at hx; exact ⟨n, (Option.some.inj hx).symm⟩
      have nps : ls ≠ p := ne_of_none hL hp
      have npc : lc ≠ p := ne_of_none hC hp
      have hHp := hS.free hp
      have hS1 : Same H (upd H' p (.tup [.int (cs.length : Int), .int n])) := same_upd hS hHp
      have hL1 : (upd H' p (.tup [.int (cs.length : Int), .int n])) ls = some (.lst (cs.map sg1)) := by rw [upd_ne nps]; exact hL
      have hC1 : (upd H' p (.tup [.int (cs.length : Int), .int n])) lc = some (.lst ((ns.map V.int).take m)) := by rw [upd_ne npc]; exact hC
      generalize hH1 : upd H' p (.tup [.int (cs.length : Int), .int n]) = H1 at hS1 hL1 hC1
      have hT1 : H1 p = some (.tup [.int (cs.length : Int), .int n]) := by rw [← hH1, upd_same]
      -- the end of a turn
      have fin : ∀ (c : Nat) (d' : Int) (v5 v6 v7 v8 : Option V) (H2 : Hp), okc c = true → Same H1 H2 → RowInv a ls lc kd m H ((ns.map V.int).take m) (cs.length + 1) [some (V.ref a), some (.int kd), some (.int m), some (.ref ls), some (.int d'), v5, v6, v7, v8] (upd H2 ls (.lst (cs.map sg1 ++ [sg1 c]))) := fun c d' v5 v6 v7 v8 H2 hc hS2 => by
        refine ⟨cs ++ [c], d', v5, v6, v7, v8, rfl, same_upd (hS1.trans hS2) hls, ?_, ?_, okc_snoc hok hc, by simp⟩
        · rw [upd_same, List.map_append]; rfl
        · rw [upd_ne hlcs]; exact hS2 _ _ hC1
      -- the appended sign
      have app : ∀ (b : Bool) (d' : Int) (cc : Nat), okc cc = true → ∀ r bk ct,
          tDrop (tBM K "list" rAppend (tVar 3) (tCons (tIf (tTest (tOp (rI0 fun i j => .bl (decide (j < i))) (tOp (rI (fun _ j => 0 < j) fun i j => .int (i % j)) (tOp (rI CDiv fun i j => .int (i / j)) (tVar 6) (tC (.int 2))) (tOp (rIxT K) (tTup (tCons (tC (.int 3)) (tCons (tC (.int 2)) (tCons (tC (.int 2)) (tCons (tC (.int 9)) (tCons (tC (.int 4)) tNil)))))) (tVar 1))) (tC (.int 0)))) (tC (.str (Str.ofString "?"))) (tVar 8)) tNil)) (Ends.mk (RowInv a ls lc kd m H ((ns.map V.int).take m) (cs.length + 1)) r bk ct)
            [some (.ref a), some (.int kd), some (.int m), some (.ref ls), some (.int d'), some (.int (cs.length : Int)), some (.int n), some (.bl b), some (.str ⟨#[cc]⟩)] H1 := fun b d' cc hcc r bk ct => by
        walk_at "rd"
        intro pt hpt
        have hS2 : Same H1 (upd H1 pt (.tup [.int 3, .int 2, .int 2, .int 9, .int 4])) := same_new hpt
        have hk : ∃ q : Nat, [V.int 3, .int 2, .int 2, .int 9, .int 4][kd]? = some (.int q) ∧ 0 < q := by
          rcases kd with _ | _ | _ | _ | _ | kd
          · exact ⟨3, rfl, by decide⟩
          · exact ⟨2, rfl, by decide⟩
          · exact ⟨2, rfl, by decide⟩
          · exact ⟨9, rfl, by decide⟩
          · exact ⟨4, rfl, by decide⟩
          · omega
        obtain ⟨q, hq, hq0⟩ := hk
        refine ⟨_, rfl, ?_⟩
        refine rd_ixT (SqT.of upd_same) hq ?_
        refine rd_I (show (0 : Int) < q by omega) ?_
        walk_at "rd"
        have hL2 := hS2 _ _ hL1
        refine rd_ite (fun _ => ?_) (fun _ => ?_)
        · walk_at "rd"
          rw [c_rub]
          exact fin 63 d' _ _ _ _ _ rfl hS2
        · walk_at "rd"
          exact fin cc d' _ _ _ _ _ hcc hS2
      have e40 : okc 40 = true := rfl
      have e41 : okc 41 = true := rfl
      have hz : (cs.map sg1).length ≤ 1000 := by rw [List.length_map]; omega
      walk_at "rd"
      refine rd_ite (fun e1 => ?_) (fun e1 => ?_)
      · walk_at "rd"
        refine iteT ?_
        walk_at "rd"
        refine iteT (rd_C (rd_name (rd_nx ?_)))
        rw [c_open]
        exact app true (d + 1) 40 rfl _ _ _
      · walk_at "rd"
        refine rd_ite (fun e2 => ?_) (fun e2 => ?_)
        · walk_at "rd"
          refine rd_ite (fun e3 => ?_) (fun e3 => ?_)
          · walk_at "rd"
            refine rd_ite (fun _ => ?_) (fun z => absurd e3 z)
            refine rd_C (rd_name (rd_nx ?_))
            rw [c_open]
            exact app _ (d + 1) 40 rfl _ _ _
          · walk_at "rd"
            refine rd_ite (fun z => absurd z e3) (fun _ => ?_)
            refine rd_C (rd_name (rd_nx ?_))
            rw [c_close]
            exact app _ (d - 1) 41 rfl _ _ _
        · walk_at "rd"
          refine iteF ?_
          walk_at "rd"
          refine iteF (rd_C (rd_name (rd_nx ?_)))
          rw [c_close]
          exact app false (d - 1) 41 rfl _ _ _
    · obtain ⟨cs, d, v5, v6, v7, v8, rfl, hS, hL, hC, hok, hlen⟩ := h
      have hlm : cs.length = m := by rw [hlen, List.length_take]; omega
      have ha' := hS.seq ha
      have done : ∀ (cs' : List Nat) (H2 : Hp), Same H H2 → H2 ls = some (.lst (cs'.map sg1)) → cs'.all okc = true → cs'.length = m → rJoin K (.str (Str.ofString "")) [.ref ls] H2 Q := fun cs' H2 hS2 hL2 hok2 hl2 =>
        rd_join (SqL.of hL2) (by omega) (k _ H2 hS2 (by rw [cds_txt]; exact hok2) (by rw [txt_len]; rw [List.length_map] at hml; omega))
      walk_at "rd"
      refine rd_ite (fun e1 => ?_) (fun e1 => ?_)
      · walk_at "rd"
        intro le hle
        have hLe : (upd H' le (.lst [])) ls = some (.lst (cs.map sg1)) := by rw [upd_ne (ne_of_none hL hle)]; exact hL
        have hSe : Same H (upd H' le (.lst [])) := hS.trans (same_new hle)
        refine rd_cmpNe (SqL.of hLe) (SqL.of upd_same) (fun i u v h1 h2 => by simp at h2) ?_
        rw [eqs_nil]
        walk_at "rd"
        refine rd_iteNB (fun e2 => ?_) (fun e2 => ?_)
        · have hne : cs ≠ [] := fun q => by rw [q] at e2; simp at e2
          have hpos : 0 < cs.length := List.length_pos_iff.mpr hne
          have hna : SqL K (upd H' le (.lst [])) a (ns.map V.int) := hSe.seq ha
          obtain ⟨n0, hn0⟩ : ∃ n0, ns[0]? = some n0 := by
            rw [List.length_map] at hml
            exact ⟨ns[0], List.getElem?_eq_getElem (by omega)⟩
          have hi0 : (ns.map V.int)[0]? = some (.int n0) := by rw [List.getElem?_map, hn0]; rfl
          walk_at "rd"
          refine ⟨a, _, 0, _, rfl, rfl, hna, atI_nat (j := 0) hi0, ?_⟩
          walk_at "rd"
          obtain ⟨j, hj, hj2⟩ := mod_nat n0 2 (by decide)
          rw [show n0 % 2 = (j : Int) from hj]
          have e2' : cds (Str.ofString "()") = [40, 41] := by decide +kernel
          obtain ⟨c, hc, hcok⟩ : ∃ c, (cds (Str.ofString "()"))[j]? = some c ∧ okc c = true := by
            rw [e2']
            rcases j with _ | _ | j
            · exact ⟨40, rfl, rfl⟩
            · exact ⟨41, rfl, rfl⟩
            · omega
          refine rd_ixS (by decide +kernel) hc ?_
          walk_at "rd"
          refine rd_I (show (0 : Int) < m by omega) ?_
          obtain ⟨i, hi, him⟩ := mod_nat (ns.sum / 5) m (by omega)
          rw [hi]
          refine rd_setL hLe (by rw [List.length_map]; omega) ?_
          walk_at "rd"
          refine done (cs.set i c) _ (same_upd hSe hls) ?_ (okc_set hok hcok) (by rw [List.length_set]; exact hlm)
          rw [upd_same, List.map_set]
          rfl
        · walk_at "rd"
          exact done cs _ hSe hLe hok hlm
      · walk_at "rd"
        refine iteF ?_
        walk_at "rd"
        exact done cs H' hS hL hok hlm
abbrev s__law_closed : Stmt := top 38
theorem sc__law_closed : FnScope ["_law_text", "_law_depth", "_law_sign"] ["_law_text"] (defScope s__law_closed) := ⟨rfl, rfl, rfl, by decide +kernel, rfl, by decide +kernel, by decide +kernel⟩
theorem dict_step (c : Nat) (d : Int) : (valV (mergeK [] ([(Sum.inr (Str.ofString "("), V.int 1), (Sum.inr (Str.ofString ")"), V.int (-1))] : List (Key × V))) (Sum.inr ⟨#[c]⟩ : Key)).getD (.int d) = .int (if c = 40 then 1 else if c = 41 then -1 else d) := by
  rw [c_open, c_close]
  have e : mergeK [] [((Sum.inr ⟨#[40]⟩ : Key), V.int 1), (Sum.inr ⟨#[41]⟩, V.int (-1))] = [(Sum.inr ⟨#[40]⟩, V.int 1), (Sum.inr ⟨#[41]⟩, V.int (-1))] := rfl
  rw [e]
  by_cases h : c = 40
  · subst h; rfl
  · rw [if_neg h, valV_neg (fun q => h (by have := Sum.inr.inj q; have := congrArg cds this; simpa [cds] using this.symm))]
    by_cases h2 : c = 41
    · subst h2; rfl
    · rw [if_neg h2, valV_neg (fun q => h2 (by have := Sum.inr.inj q; have := congrArg cds this; simpa [cds] using this.symm))]
      rfl
def sp_law_closed : Sp := fun vs H Q _ => ∃ z, vs = [.str z] ∧ z.length ≤ 1000 ∧ ∀ H', Same H H' → Q (.bl ((cds z).all okc && cloB (cds z))) H'
theorem clo_no {cs : List Nat} (h : ¬ H5.Clo cs) : (cs.all okc && cloB cs) = false := by
  rw [Bool.eq_false_iff]
  intro q
  rw [Bool.and_eq_true] at q
  exact h (clo_of q.1 q.2)
theorem ok__law_closed {f : Addr} (D : Def K mg "_law_closed" s__law_closed f ["_law_text"]) (B : Bl mg) : Cal P w K mg base CX0 1 "_law_closed" f ["_law_text"] sp_law_closed := by
  refine D.ok sc__law_closed (fun vs H Q E h => by obtain ⟨z, rfl, _⟩ := h; rfl) (fun cdv A outer s H vs Q E hr h => ?_)
  obtain ⟨z, rfl, hz, k⟩ := h
  refine ⟨_, (pss_cons (ps_set (i := 1) sc__law_closed.nd rfl (Or.inl rfl) pe_int)
    (pss_cons (ps_for PassesOwn.never rfl (pi_str (pv 0)) (pg_name (i := 2) sc__law_closed.nd rfl (Or.inl rfl))
      (pss_cons (ps_set (i := 1) sc__law_closed.nd rfl (Or.inl rfl) (pe_op op_add (pv 1) (pe_dget2 (hu_of hr) (pe_disp (pps_cons pe_str pe_int (pps_cons pe_str (pe_un un_neg pe_int) pps_nil)) rfl rfl (fun h => nomatch h) (Nat.le_of_ble_eq_true rfl)) (pv 2) (pe_op op_sub (pe_un un_neg (pe_callB call_lenS rfl B.len PySem.boot_len (pa_cons (pv 0) pa_nil))) pe_int) ⟨rfl, rfl, rfl, rfl⟩)))
    (pss_one (ps_if (pt_cmpR op_lt (pv 1) pe_int (nomark _)) (pss_one (ps_ret pe_bl)) pss_nil))))
    (pss_one (ps_ret (pe_cmpR op_eq (pv 1) pe_int (nomark _)))))), ?_⟩
  walk_at "rd"
  refine for_str (fun i σ H' => ∃ v, σ = [some (.str z), some (.int (H5.dep (cds z) i)), v] ∧ Same H H' ∧ H5.Sg ((cds z).take i) ∧ ∀ j, j ≤ i → 0 ≤ H5.dep (cds z) j) ⟨none, rfl, Same.refl _, fun c hc => by simp at hc, fun j hj => by rw [show j = 0 by omega, H5.dep_zero]; exact Int.le_refl _⟩ (fun i c σ H' hc h => ?_) (fun σ H' h => ?_)
  · obtain ⟨v, rfl, hS, hsg, hnn⟩ := h
    have hc' := cds_at hc
    have hi := cds_lt hc'
    have hds := H5.dep_succ hc'
    have hle := H5.dep_le (cds z) i
    have no : ∀ H2, Same H H2 → (¬ H5.Clo (cds z)) → Q (.bl false) H2 := fun H2 hS2 nC => by have := k H2 hS2; rw [clo_no nC] at this; exact this
    walk_at "rd"
    intro pd hpd
    refine ⟨_, rfl, upd_same, [(Sum.inr (Str.ofString "("), V.int 1), (Sum.inr (Str.ofString ")"), V.int (-1))], rfl, by decide, pd, rfl, .inl ⟨_, .inl upd_same⟩, ?_⟩
    have hS3 : Same H (upd (upd H' pd (.dK [])) pd (.dK (mergeK [] [(Sum.inr (Str.ofString "("), V.int 1), (Sum.inr (Str.ofString ")"), V.int (-1))]))) := same_upd (same_upd hS (hS.free hpd)) (hS.free hpd)
    walk_at "rd"
    refine ⟨_, DGet.k (k := Sum.inr ⟨#[c]⟩) upd_same, ?_⟩
    rw [dict_step]
    walk_at "rd"
    refine rd_ite (fun e => ?_) (fun e => ?_)
    · walk_at "rd"
      refine no _ hS3 fun C => ?_
      rcases C.sg c (List.mem_of_getElem? hc') with q | q
      · have := C.nn (i + 1) (by rw [cds_len]; omega)
        rw [hds, q] at this
        rw [if_pos q] at e
        simp [H5.stp] at this
        omega
      · have := C.nn (i + 1) (by rw [cds_len]; omega)
        rw [hds, q] at this
        rw [q] at e
        simp [H5.stp] at this e
        omega
    · walk_at "rd"
      have hsig : c = 40 ∨ c = 41 := by
        by_cases h1 : c = 40
        · exact .inl h1
        · by_cases h2 : c = 41
          · exact .inr h2
          · rw [if_neg h1, if_neg h2] at e
            exfalso
            apply e
            omega
      have hst : (if c = 40 then (1 : Int) else if c = 41 then -1 else -(z.length : Int) - 1) = H5.stp c := by
        rcases hsig with q | q <;> subst q <;> rfl
      rw [hst] at e
      refine ⟨_, by rw [hst, hds]; rfl, hS3, fun d hd => ?_, fun j hj => ?_⟩
      · rw [List.take_add_one, hc'] at hd
        rcases List.mem_append.mp hd with q | q
        · exact hsg d q
        · have : d = c := by simpa using q
          rw [this]; exact hsig
      · by_cases q : j = i + 1
        · rw [q, hds]; omega
        · exact hnn j (by omega)
  · obtain ⟨v, rfl, hS, hsg, hnn⟩ := h
    walk_at "rd"
    have hsg' : H5.Sg (cds z) := by
      have : (cds z).take z.cps.size = cds z := List.take_of_length_le (Nat.le_of_eq rfl)
      rw [this] at hsg
      exact hsg
    have := k H' hS
    have e : ((cds z).all okc && cloB (cds z)) = decide (H5.dep (cds z) z.cps.size = 0) := by
      by_cases h0 : H5.dep (cds z) z.cps.size = 0
      · have C : H5.Clo (cds z) := ⟨hsg', hnn, h0⟩
        rw [okc_of C, cloB_of C, decide_eq_true h0]
        rfl
      · rw [decide_eq_false h0]
        exact clo_no fun C => h0 C.fin
    rw [e] at this
    exact this
abbrev s__law_filling : Stmt := top 39
theorem sc__law_filling : FnScope ["_law_row_here", "_law_text"] ["_law_row_here", "_law_text"] (defScope s__law_filling) := ⟨rfl, rfl, rfl, by decide +kernel, rfl, by decide +kernel, by decide +kernel⟩
def sp_law_filling : Sp := fun vs H Q _ => ∃ r z, vs = [.str r, .str z] ∧ r.length ≤ 1000 ∧ z.length ≤ 1000 ∧ ∀ H', Same H H' → Q (.bl (filB (cds r) (cds z))) H'
theorem ok__law_filling {f f__law_closed : Addr} (D : Def K mg "_law_filling" s__law_filling f ["_law_row_here", "_law_text"]) (B : Bl mg) (G__law_closed : Cal P w K mg base CX0 1 "_law_closed" f__law_closed ["_law_text"] sp_law_closed) :
    Cal P w K mg base CX0 2 "_law_filling" f ["_law_row_here", "_law_text"] sp_law_filling := by
  refine D.ok sc__law_filling (fun vs H Q E h => by obtain ⟨r, z, rfl, _⟩ := h; rfl) (fun cdv A outer s H vs Q E hr h => ?_)
  obtain ⟨r, z, rfl, hrl, hz, k⟩ := h
  refine ⟨_, (pss_cons (ps_if (PW.pt (pw_or (pt_not (pt_val (pe_callB (call_isiK (K := K) rfl) rfl B.isinstance (by decide +kernel) (pa_cons (pv 1) (pa_cons (pe_bltn (v := .ty "str") rfl B.str (by decide +kernel) rfl) pa_nil))))) (pw_or (pt_cmpR op_ne (pe_callB call_lenS rfl B.len PySem.boot_len (pa_cons (pv 1) pa_nil)) (pe_callB call_lenS rfl B.len PySem.boot_len (pa_cons (pv 0) pa_nil)) (nomark _)) (pw_or1 (pt_not (pt_val (pe_callC G__law_closed (hr.mono (by decide)) rfl pass0 (pa_cons (pv 1) pa_nil)))))))) (pss_one (ps_ret pe_bl)) pss_nil)
    (pss_one (ps_ret (pe_callB (call_allK (K := K) rfl rfl) rfl B.all (by decide +kernel) (pa_cons (pe_lcomp (N := ["_law_at", "_law_row_here", "_law_text"]) (js := [none, some 0, some 1]) rfl (pi_range1 rfl B.range (pa_cons (pe_callB call_lenS rfl B.len PySem.boot_len (pa_cons (pv 0) pa_nil)) pa_nil)) (fun _ _ _ _ => (pg_name (i := 0) (show (["_law_at", "_law_row_here", "_law_text"] : List Str).Nodup by decide +kernel) rfl (Or.inl rfl) (.inr rfl))) (fun _ _ _ _ => (pe_cmpR (op_in_seqK (K := K) rfl) (pe_ix ix_str (pv 1) (pv 0) (fun _ _ => rfl)) (pe_lst (pa_cons pe_str (pa_cons (pe_ix ix_str (pv 2) (pv 0) (fun _ _ => rfl)) pa_nil))) (by with_unfolding_all rfl)))) pa_nil))))), ?_⟩
  have kk : ∀ b, filB (cds r) (cds z) = b → ∀ H', Same H H' → Q (.bl b) H' := fun b e H' hS => by rw [← e]; exact k H' hS
  unfold filB at kk
  walk_at "rd"
  refine rd_isi (b := true) rfl (.str z) (by kernel_rfl) ?_
  walk_at "rd"
  refine iteF ?_
  walk_at "rd"
  refine rd_iteN (fun e2 => ?_) (fun e2 => ?_)
  · walk_at "rd"
    exact kk false (by rw [decide_eq_false (show ¬ (cds z).length = (cds r).length by rw [cds_len, cds_len]; omega), Bool.false_and, Bool.and_false]) H (Same.refl _)
  have hlen : z.length = r.length := by omega
  rw [decide_eq_true (show (cds z).length = (cds r).length from hlen), Bool.true_and, ← Bool.and_assoc] at kk
  walk_at "rd"
  refine ⟨z, rfl, hz, fun H2 hS2 => ?_⟩
  walk_at "rd"
  refine rd_iteNB (fun e3 => ?_) (fun e3 => ?_)
  · walk_at "rd"
    exact kk false (by rw [e3]; rfl) H2 hS2
  rw [e3, Bool.true_and] at kk
  walk_at "rd"
  refine ⟨_, rfl, by omega, by omega, ?_⟩
  refine lc_fun (itOf_range 0 _ H2) (le_line (by omega)) (fun σ' => ∃ v, σ' = [v, some (.str r), some (.str z)]) (fun i => .bl ((cds r).getD i 0 == 63 || (cds r).getD i 0 == (cds z).getD i 0)) ⟨_, rfl⟩ (fun i x σ' H' hi hx hs hS R hR => ?_) fun l H' hS hl hL => ?_
  · obtain ⟨v, rfl⟩ := hs
    subst hx
    have hi' : i < r.length := by omega
    obtain ⟨c, hc⟩ : ∃ c, (cds r)[i]? = some c := ⟨_, List.getElem?_eq_getElem (show i < (cds r).length by rw [cds_len]; omega)⟩
    obtain ⟨d, hd⟩ : ∃ d, (cds z)[i]? = some d := ⟨_, List.getElem?_eq_getElem (show i < (cds z).length by rw [cds_len]; omega)⟩
    rw [List.getD_eq_getElem?_getD, List.getD_eq_getElem?_getD, hc, hd] at hR
    rw [show (0 : Int) + (i : Int) = (i : Int) by omega]
    walk_at "rd"
    intro pl hpl
    refine ⟨pl, _, rfl, .inl (SqL.of upd_same), rfl, rfl, ?_⟩
    have := hR [some (.int i), some (.str r), some (.str z)] (upd H' pl (.lst [.str (Str.ofString "?"), .str ⟨#[d]⟩])) ⟨_, rfl⟩ (same_new hpl)
    have e : inV (.str ⟨#[c]⟩) [.str (Str.ofString "?"), .str ⟨#[d]⟩] = (c == 63 || c == d) := by
      rw [c_rub]
      have b1 : ∀ a b : Nat, ((⟨#[a]⟩ : Str) == ⟨#[b]⟩) = (b == a) := fun a b => by
        by_cases q : a = b
        · subst q; simp
        · rw [beq_eq_false_iff_ne.mpr (Ne.symm q), beq_eq_false_iff_ne.mpr]
          intro z
          have := congrArg cds z
          simp [cds] at this
          exact q this
      show (((⟨#[63]⟩ : Str) == ⟨#[c]⟩) || (((⟨#[d]⟩ : Str) == ⟨#[c]⟩) || false)) = _
      rw [b1, b1, Bool.or_false]
    simp only [Bool.false_eq_true, if_false]
    rw [e]
    exact this
  · have hL' : H' l = some (.lst (((List.range r.length).map fun i => (cds r).getD i 0 == 63 || (cds r).getD i 0 == (cds z).getD i 0).map V.bl)) := by
      rw [hL, List.map_map]
      rfl
    refine rd_all (SqL.of hL') ?_
    walk_at "rd"
    refine kk _ ?_ H' (hS2.trans hS)
    rw [List.all_map]
    unfold marks
    have e : (cds r).zip (cds z) = (List.range r.length).map fun i => ((cds r).getD i 0, (cds z).getD i 0) := by
      refine List.ext_getElem (by rw [List.length_zip, List.length_map, List.length_range, cds_len, cds_len]; omega) fun i h1 h2 => ?_
      simp only [List.length_zip, cds_len] at h1
      have h3 : i < (cds r).length := by rw [cds_len]; omega
      have h4 : i < (cds z).length := by rw [cds_len]; omega
      simp only [List.getElem_zip, List.getElem_map, List.getElem_range, List.getD_eq_getElem?_getD, List.getElem?_eq_getElem h3, List.getElem?_eq_getElem h4, Option.getD_some]
    rw [e, List.all_map]
    rfl
end
end HF
set_option Elab.async false
set_option linter.all false
set_option maxRecDepth 100000
set_option maxHeartbeats 4000000
namespace HF
open PySem L2
section
variable {P : Program} {w : World} {K : PySem.W.Frag} {mg : Str → Option Value} {base : Heap} {C_Filled C_Uneven C_Early C_Late C_Cheapest C_BadRow C_NoFilling : Addr}
abbrev s_check_fillable : Stmt := top 23
theorem sc_check_fillable : FnScope ["row"] ["row"] (defScope s_check_fillable) := ⟨rfl, rfl, rfl, by decide +kernel, rfl, by decide +kernel, by decide +kernel⟩
def sp_check_fillable (CB CN : Addr) : Sp := fun vs H Q E => ∃ z, vs = [.str z] ∧ z.length ≤ 1000 ∧ ((cds z).all okc = true → HM.Fb (cds z) → ∀ H', Same H H' → Q .non H') ∧ ((cds z).all okc = false → ∀ H', Same H H' → E (.ref CB) none H') ∧
  ((cds z).all okc = true → ¬ HM.Fb (cds z) → ∀ H', Same H H' → E (.ref CN) none H')
theorem ok_check_fillable {f f_check_row f_what_bars : Addr} (D : Def K mg "check_fillable" s_check_fillable f ["row"]) (X_NoFilling : ExcC K mg "NoFilling" C_NoFilling) (G_check_row : Cal P w K mg base (CXe P w) 2 "check_row" f_check_row ["row"] (sp_check_row C_BadRow))
    (G_what_bars : CalU P w K mg base CX0 3 "what_bars" f_what_bars ["row"] (sp_what_bars C_Uneven C_Early C_Late)) :
    CalU P w K mg base (CXe P w) 4 "check_fillable" f ["row"] (sp_check_fillable C_BadRow C_NoFilling) := by
  refine D.upX sc_check_fillable (fun vs H Q E h => by obtain ⟨z, rfl, _⟩ := h; rfl) (fun cdv A outer s H vs Q E hr h => ?_)
  obtain ⟨z, rfl, hz, k1, k2, k3⟩ := h
  refine ⟨_, pssu_tail (pe_callC G_check_row (hr.mono (by decide)) rfl passes_def (pa_cons (pv 0) pa_nil))
    (pssu_one (psu_if (ptu_cmpL op_notQ (peu_callC G_what_bars (hr.mono (by decide)) rfl pass0 (pa_cons (pv 0) pa_nil)) pe_non (nomark _)) (pss_one (ps_raise raises_def rfl X_NoFilling.x rfl X_NoFilling.at_ (pa_cons pe_str pa_nil))) pss_nil)), ?_⟩
  walk_at "rd"
  refine ⟨z, rfl, hz, fun ho H1 hS1 => ?_, fun ho H1 hS1 => k2 ho H1 hS1⟩
  walk_at "rd"
  refine ⟨z, rfl, hz, fun F H2 hS2 => ?_, fun nF x C dx fs H2 N b => ?_⟩
  · walk_at "rd"
    refine rd_iteN (fun q => absurd rfl q) (fun _ => ?_)
    exact rd_next (rd_nx (k1 ho F H2 (hS1.trans hS2)))
  · walk_at "rd"
    refine rd_iteN (fun _ => ?_) (fun q => nomatch q)
    exact ⟨by show 1 ≤ sizeLine; decide, k3 ho nF H2 (hS1.trans N.same)⟩
abbrev s_first : Stmt := top 27
theorem sc_first : FnScope ["row"] ["row"] (defScope s_first) := ⟨rfl, rfl, rfl, by decide +kernel, rfl, by decide +kernel, by decide +kernel⟩
def sp_first (CB CN : Addr) : Sp := fun vs H Q E => ∃ z, vs = [.str z] ∧ z.length ≤ 1000 ∧ ((cds z).all okc = true → HM.Fb (cds z) → ∀ y H', Same H H' → y.length = z.length → HM.Max (cds z) (cds y) → Q (.str y) H') ∧ ((cds z).all okc = false → ∀ H', Same H H' → E (.ref CB) none H') ∧
  ((cds z).all okc = true → ¬ HM.Fb (cds z) → ∀ H', Same H H' → E (.ref CN) none H')
theorem ok_first {f f_check_fillable f_opened_early : Addr} (D : Def K mg "first" s_first f ["row"]) (G_check_fillable : Cal P w K mg base (CXe P w) 4 "check_fillable" f_check_fillable ["row"] (sp_check_fillable C_BadRow C_NoFilling))
    (G_opened_early : Cal P w K mg base CX0 1 "opened_early" f_opened_early ["row"] sp_opened_early) :
    Cal P w K mg base (CXe P w) 5 "first" f ["row"] (sp_first C_BadRow C_NoFilling) := by
  refine D.okX sc_first (fun vs H Q E h => by obtain ⟨z, rfl, _⟩ := h; rfl) (fun cdv A outer s H vs Q E hr h => ?_)
  obtain ⟨z, rfl, hz, k1, k2, k3⟩ := h
  refine ⟨_, (pss_cons (ps_expr (pe_callC G_check_fillable (hr.mono (by decide)) rfl passes_def (pa_cons (pv 0) pa_nil)))
    (pss_one (ps_ret (pe_callC G_opened_early (hr.mono (by decide)) rfl pass0 (pa_cons (pv 0) pa_nil))))), ?_⟩
  walk_at "rd"
  refine ⟨z, rfl, hz, fun ho F H1 hS1 => ?_, k2, k3⟩
  walk_at "rd"
  refine ⟨z, rfl, hz, ho, F, fun y H2 hS2 hy => ?_⟩
  exact k1 ho F y H2 (hS1.trans hS2) (by rw [← cds_len, hy, HM.early_len, cds_len]) (by rw [hy]; exact HM.early_max F ho)
abbrev s_put_in_turn : Stmt := top 25
theorem sc_put_in_turn : FnScope ["waiting", "entry", "low", "high", "middle"] ["waiting", "entry"] (defScope s_put_in_turn) := ⟨rfl, rfl, rfl, by decide +kernel, rfl, by decide +kernel, by decide +kernel⟩
def gtP (a b : Int × Nat) : Prop := b.1 < a.1 ∨ (a.1 = b.1 ∧ b.2 < a.2)
theorem gtP_trans {a b c : Int × Nat} (h : gtP a b) (h' : gtP b c) : gtP a c := by
  unfold gtP at *
  omega
theorem lexGt_iff (k1 k2 : Int) (p1 p2 : Nat) : HT.lexGt [k1, (p1 : Int)] [k2, (p2 : Int)] = true ↔ gtP (k1, p1) (k2, p2) := by
  unfold gtP
  rw [HT.lexGt_cons]
  by_cases e : k1 = k2
  · rw [if_pos e, HT.lexGt_cons]
    by_cases e2 : (p1 : Int) = p2
    · rw [if_pos e2, HT.lexGt_nil_nil]
      simp only [Bool.false_eq_true, false_iff]
      omega
    · rw [if_neg e2, decide_eq_true_eq]
      omega
  · rw [if_neg e, decide_eq_true_eq]
    omega
abbrev Wt := Addr × (Int × Nat)
def wtV (x : Wt) : V := .ref x.1
def WtAt (H : Hp) (ws : List Wt) : Prop := ∀ x, x ∈ ws → H x.1 = some (.tup [.int x.2.1, .int (x.2.2 : Int)])
def sp_put_in_turn : Sp := fun vs H Q _ => ∃ (l e : Addr) (k : Int) (p : Nat) (ws : List Wt), vs = [.ref l, .ref e] ∧ H l = some (.lst (ws.map wtV)) ∧ WtAt H ws ∧ H e = some (.tup [.int k, .int (p : Int)]) ∧ ws.length ≤ 999 ∧ ws.Pairwise (fun a b => gtP a.2 b.2) ∧
  ∀ j, j ≤ ws.length → (∀ x, x ∈ ws.take j → gtP x.2 (k, p)) → (∀ x, x ∈ ws.drop j → ¬ gtP x.2 (k, p)) → Q .non (upd H l (.lst ((ws.take j ++ (e, (k, p)) :: ws.drop j).map wtV)))
theorem ok_put_in_turn {f : Addr} (D : Def K mg "put_in_turn" s_put_in_turn f ["waiting", "entry"]) (B : Bl mg) : Cal P w K mg base CX0 1 "put_in_turn" f ["waiting", "entry"] sp_put_in_turn := by
  refine D.ok sc_put_in_turn (fun vs H Q E h => by obtain ⟨l, e, k, p, ws, rfl, _⟩ := h; rfl) (fun cdv A outer s H vs Q E hr h => ?_)
  obtain ⟨l, e, k, p, ws, rfl, hl, hws, he, h999, hsort, kk⟩ := h
  refine ⟨_, (pss_cons (ps_set (i := 2) sc_put_in_turn.nd rfl (Or.inl rfl) pe_int)
    (pss_cons (ps_set (i := 3) sc_put_in_turn.nd rfl (Or.inl rfl) (pe_callB (call_lenK (K := K) rfl) rfl B.len PySem.boot_len (pa_cons (pv 0) pa_nil)))
    (pss_cons (ps_while PassesOwn.never (pt_cmpR op_lt (pv 2) (pv 3) (nomark _))
      (pss_cons (ps_set (i := 4) sc_put_in_turn.nd rfl (Or.inl rfl) (pe_op op_fdiv (pe_op op_add (pv 2) (pv 3)) pe_int))
    (pss_one (ps_if (pt_cmpR (op_gtTK (K := K) rfl (hu1 hr)) (pe_ix (ix_listK (K := K) rfl) (pv 0) (pv 4) (fun _ _ => rfl)) (pv 1) (nomark _)) (pss_one (ps_set (i := 2) sc_put_in_turn.nd rfl (Or.inl rfl) (pe_op op_add (pv 4) pe_int))) (pss_one (ps_set (i := 3) sc_put_in_turn.nd rfl (Or.inl rfl) (pv 4)))))))
    (pss_one (ps_expr (pe_bmK (K := K) rfl PySem.F.plainAttrs_list PySem.F.slot_list_insert PySem.F.type_list_insert mt_insert (pv 0) (pa_cons (pv 2) (pa_cons (pv 1) pa_nil)))))))), ?_⟩
  walk_at "rd"
  rw [List.length_map]
  refine ⟨fun m σ H' => ∃ (lo hi : Nat) (v4 : Option V), m = hi - lo ∧ σ = [some (.ref l), some (.ref e), some (.int lo), some (.int hi), v4] ∧ H' = H ∧ lo ≤ hi ∧ hi ≤ ws.length ∧ (∀ x, x ∈ ws.take lo → gtP x.2 (k, p)) ∧ (∀ x, x ∈ ws.drop hi → ¬ gtP x.2 (k, p)), ⟨_, 0, ws.length, none, rfl, rfl, rfl, by omega, by omega, by simp, by simp⟩, ?_⟩
  rintro m σ H' ⟨lo, hi, v4, rfl, rfl, rfl, h1, h2, h3, h4⟩
  walk_at "rd"
  by_cases hlt : lo < hi
  · refine rd_ite (fun _ => ?_) (fun q => absurd (show (lo : Int) < hi by omega) q)
    obtain ⟨mid, hmid, hm1, hm2⟩ : ∃ mid : Nat, ((lo : Int) + hi) / 2 = (mid : Int) ∧ lo ≤ mid ∧ mid < hi := ⟨(lo + hi) / 2, by omega, by omega, by omega⟩
    have hmw : mid < ws.length := by omega
    have hx := hws _ (List.getElem_mem hmw)
    have hix : (ws.map wtV)[mid]? = some (.ref ws[mid].1) := by rw [List.getElem?_map, List.getElem?_eq_getElem hmw]; rfl
    refine ⟨fun σ' H2 => ∃ m', m' < hi - lo ∧ ∃ (lo hi : Nat) (v4 : Option V), m' = hi - lo ∧ σ' = [some (.ref l), some (.ref e), some (.int lo), some (.int hi), v4] ∧ H2 = H' ∧ lo ≤ hi ∧ hi ≤ ws.length ∧ (∀ x, x ∈ ws.take lo → gtP x.2 (k, p)) ∧ (∀ x, x ∈ ws.drop hi → ¬ gtP x.2 (k, p)), fun σ' H' h => h, ?_⟩
    walk_at "rd"
    rw [hmid]
    walk_at "rd"
    refine ⟨ws[mid].1, e, [ws[mid].2.1, (ws[mid].2.2 : Int)], [k, (p : Int)], rfl, rfl, SqT.of hx, SqT.of he, ?_⟩
    walk_at "rd"
    refine rd_iteB (fun q => ?_) (fun q => ?_)
    · have g := (lexGt_iff _ _ _ _).mp q
      walk_at "rd"
      refine ⟨_, ?_, mid + 1, hi, _, rfl, rfl, rfl, by omega, h2, fun x hx => ?_, h4⟩
      · omega
      · obtain ⟨j, hj, rfl⟩ := List.getElem_of_mem hx
        rw [List.length_take] at hj
        rw [List.getElem_take]
        by_cases ej : j = mid
        · subst ej; exact g
        · exact gtP_trans (List.pairwise_iff_getElem.mp hsort j mid (by omega) hmw (by omega)) g
    · have g : ¬ gtP ws[mid].2 (k, p) := fun z => by rw [(lexGt_iff _ _ _ _).mpr z] at q; cases q
      walk_at "rd"
      refine ⟨_, ?_, lo, mid, _, rfl, rfl, rfl, by omega, by omega, h3, fun x hx z => g ?_⟩
      · omega
      · obtain ⟨j, hj, rfl⟩ := List.getElem_of_mem hx
        rw [List.length_drop] at hj
        rw [List.getElem_drop] at z
        by_cases ej : j = 0
        · subst ej; exact z
        · exact gtP_trans (List.pairwise_iff_getElem.mp hsort mid (mid + j) hmw (by omega) (by omega)) z
  · refine rd_ite (fun q => absurd (show (lo : Int) < hi from q) (by omega)) (fun _ => ?_)
    have : lo = hi := by omega
    subst this
    walk_at "rd"
    refine ⟨l, _, lo, _, rfl, rfl, hl, by omega, by rw [List.length_map]; omega, by rw [List.length_map]; exact small1000 (by omega), ?_⟩
    have := kk lo h2 h3 h4
    rw [List.map_append, List.map_cons, List.map_take, List.map_drop] at this
    exact this
theorem rd_mid {t u : TS} {D : Ends} {σ : St} {H : Hp} (I : St → Hp → Prop) (hp : ∀ (N : St → Hp → Prop) (r : VK) (bk ct : St → Hp → Prop), (∀ σ' H', I σ' H' → N σ' H') → t (Ends.mk N r bk ct) σ H) (hu : ∀ σ' H', I σ' H' → u D σ' H') : tSeq t u D σ H := hp _ _ _ _ hu
structure WtI (r : List Nat) (rk : Nat → Int) (i : Nat) (s : List Nat) (ws : List Wt) : Prop where
  srt : ws.Pairwise (fun a b => gtP a.2 b.2)
  mem : ∀ q : Nat, (∃ x, x ∈ ws ∧ x.2 = (rk q, q)) ↔ (q < i ∧ r[q]? = some 63 ∧ s[q]? = some 41)
  all : ∀ x, x ∈ ws → x.2 = (rk x.2.2, x.2.2)
  len : ws.length ≤ i
theorem gtP_irrefl {a : Int × Nat} (h : gtP a a) : False := by unfold gtP at h; omega
theorem gtP_of_not {a b : Int × Nat} (h : ¬ gtP a b) (hn : a.2 ≠ b.2) : gtP b a := by unfold gtP at *; omega
theorem lexle_of {a b : Int × Nat} (h : gtP b a) : HM.lexle a b := by unfold gtP at h; unfold HM.lexle; omega
theorem WtI.skip {r s : List Nat} {rk : Nat → Int} {i c : Nat} {ws : List Wt} (W : WtI r rk i s ws) (h : r[i]? = some c) (hc : c ≠ 63) : WtI r rk (i + 1) s ws := by
  refine ⟨W.srt, fun q => (W.mem q).trans ⟨fun ⟨a, b⟩ => ⟨by omega, b⟩, fun ⟨a, b⟩ => ⟨?_, b⟩⟩, W.all, Nat.le_succ_of_le W.len⟩
  by_cases e : q = i
  · subst e; rw [h] at b; exact absurd (Option.some.inj b.1) hc
  · omega
theorem WtI.put {r s : List Nat} {rk : Nat → Int} {i j : Nat} {p : Addr} {ws : List Wt} (W : WtI r rk i s ws) (h : r[i]? = some 63) (hs : s[i]? = some 41) (hj : j ≤ ws.length) (h1 : ∀ x, x ∈ ws.take j → gtP x.2 (rk i, i)) (h2 : ∀ x, x ∈ ws.drop j → ¬ gtP x.2 (rk i, i)) :
    WtI r rk (i + 1) s (ws.take j ++ (p, (rk i, i)) :: ws.drop j) := by
  have lt : ∀ x, x ∈ ws → x.2.2 < i := fun x hx => ((W.mem x.2.2).mp ⟨x, hx, W.all x hx⟩).1
  have e0 := List.take_append_drop j ws
  have memw : ∀ x, x ∈ ws ↔ x ∈ ws.take j ∨ x ∈ ws.drop j := fun x => by rw [← List.mem_append, e0]
  refine ⟨?_, fun q => ?_, fun x hx => ?_, ?_⟩
  · have S := W.srt
    rw [← e0, List.pairwise_append] at S
    rw [List.pairwise_append, List.pairwise_cons]
    refine ⟨S.1, ⟨fun x hx => gtP_of_not (h2 x hx) ?_, S.2.1⟩, fun a ha b hb => ?_⟩
    · have := lt x ((memw x).mpr (.inr hx)); show x.2.2 ≠ i; omega
    · rcases List.mem_cons.mp hb with rfl | hb
      · exact h1 a ha
      · exact S.2.2 a ha b hb
  · constructor
    · rintro ⟨x, hx, e⟩
      rcases List.mem_append.mp hx with q1 | q1
      · have := (W.mem q).mp ⟨x, (memw x).mpr (.inl q1), e⟩
        exact ⟨by omega, this.2⟩
      · rcases List.mem_cons.mp q1 with rfl | q1
        · have : i = q := (Prod.mk.inj e).2
          subst this
          exact ⟨by omega, h, hs⟩
        · have := (W.mem q).mp ⟨x, (memw x).mpr (.inr q1), e⟩
          exact ⟨by omega, this.2⟩
    · rintro ⟨a, b⟩
      by_cases e : q = i
      · subst e
        exact ⟨(p, (rk q, q)), List.mem_append_right _ List.mem_cons_self, rfl⟩
      · obtain ⟨x, hx, ex⟩ := (W.mem q).mpr ⟨by omega, b⟩
        refine ⟨x, ?_, ex⟩
        rcases (memw x).mp hx with q1 | q1
        · exact List.mem_append_left _ q1
        · exact List.mem_append_right _ (List.mem_cons_of_mem _ q1)
  · rcases List.mem_append.mp hx with q1 | q1
    · exact W.all x ((memw x).mpr (.inl q1))
    · rcases List.mem_cons.mp q1 with rfl | q1
      · rfl
      · exact W.all x ((memw x).mpr (.inr q1))
  · have := W.len
    simp only [List.length_append, List.length_cons, List.length_take, List.length_drop]
    omega
theorem WtI.pop {r s : List Nat} {rk : Nat → Int} {i : Nat} {x : Wt} {ws : List Wt} (W : WtI r rk i s (ws ++ [x])) (hl : s.length = r.length) :
    (x.2.2 < i ∧ r[x.2.2]? = some 63 ∧ s[x.2.2]? = some 41) ∧ (∀ q, q < i → r[q]? = some 63 → s[q]? = some 41 → HM.lexle (rk x.2.2, x.2.2) (rk q, q)) ∧ WtI r rk i (s.set x.2.2 40) ws := by
  have hx : x ∈ ws ++ [x] := List.mem_append_right _ (List.mem_singleton.mpr rfl)
  have h1 := (W.mem x.2.2).mp ⟨x, hx, W.all x hx⟩
  have S := List.pairwise_append.mp W.srt
  have hps := (List.getElem?_eq_some_iff.mp h1.2.2).1
  refine ⟨h1, fun q a b c => ?_, S.1, fun q => ?_, fun y hy => W.all y (List.mem_append_left _ hy), ?_⟩
  · obtain ⟨y, hy, ey⟩ := (W.mem q).mpr ⟨a, b, c⟩
    rw [← W.all x hx, ← ey]
    rcases List.mem_append.mp hy with q1 | q1
    · exact lexle_of (S.2.2 y q1 x (List.mem_singleton.mpr rfl))
    · rw [List.mem_singleton.mp q1]; exact .inr ⟨rfl, Nat.le_refl _⟩
  · constructor
    · rintro ⟨y, hy, ey⟩
      have h2 := (W.mem q).mp ⟨y, List.mem_append_left _ hy, ey⟩
      refine ⟨h2.1, h2.2.1, ?_⟩
      by_cases e : x.2.2 = q
      · exfalso
        have g := S.2.2 y hy x (List.mem_singleton.mpr rfl)
        rw [ey, W.all x hx, e] at g
        exact gtP_irrefl g
      · rw [List.getElem?_set_ne e]; exact h2.2.2
    · rintro ⟨a, b, c⟩
      have e : x.2.2 ≠ q := fun e => by
        subst e
        rw [List.getElem?_set_self hps] at c
        cases c
      rw [List.getElem?_set_ne e] at c
      obtain ⟨y, hy, ey⟩ := (W.mem q).mpr ⟨a, b, c⟩
      refine ⟨y, ?_, ey⟩
      rcases List.mem_append.mp hy with q1 | q1
      · exact q1
      · rw [List.mem_singleton.mp q1] at ey
        rw [ey] at e
        exact absurd rfl e
  · have := W.len
    simp only [List.length_append, List.length_singleton] at this
    omega
theorem repl_base : ∀ (r : List Nat) (m : Nat), r.length ≤ m → replN 63 41 m r = HM.base r
  | [], _, _ => rfl
  | x :: r, m, h => by
    simp only [List.length_cons] at h
    obtain ⟨m, rfl⟩ : ∃ m', m = m' + 1 := ⟨m - 1, by omega⟩
    by_cases e : x = 63
    · subst e
      rw [HM.replN_y, repl_base r m (by omega)]
      rfl
    · rw [HM.replN_o _ e, repl_base r (m + 1) (by omega)]
      simp [HM.base, e]
abbrev s_opened_at_need : Stmt := top 26
theorem sc_opened_at_need : FnScope ["row", "ranks", "signs", "waiting", "depth", "place", "sign"] ["row", "ranks"] (defScope s_opened_at_need) := ⟨rfl, rfl, rfl, by decide +kernel, rfl, by decide +kernel, by decide +kernel⟩
def sp_opened_at_need (K : PySem.W.Frag) : Sp := fun vs H Q _ => ∃ (z : Str) (rl : Addr) (rk : List Int), vs = [.str z, .ref rl] ∧ SqL K H rl (rk.map V.int) ∧ rk.length = z.length ∧ z.length ≤ 999 ∧ (cds z).all okc = true ∧ HM.Fb (cds z) ∧
  ∀ y H', Same H H' → y.length = z.length → HM.Need (cds z) (fun p => rk.getD p 0) (cds z).length (cds y) → Q (.str y) H'
def OanI (z : Str) (rl ls lw : Addr) (rk : List Int) (H : Hp) (i : Nat) (σ : St) (H' : Hp) : Prop :=
  ∃ (s : List Nat) (ws : List Wt) (v5 v6 : Option V), σ = [some (.str z), some (.ref rl), some (.ref ls), some (.ref lw), some (.int (H5.dep s i)), v5, v6] ∧ Same H H' ∧ H' ls = some (.lst (s.map sg1)) ∧ H' lw = some (.lst (ws.map wtV)) ∧ WtAt H' ws ∧ HM.Need (cds z) (fun p => rk.getD p 0) i s ∧ WtI (cds z) (fun p => rk.getD p 0) i s ws
theorem ok_opened_at_need {f f_put_in_turn : Addr} (D : Def K mg "opened_at_need" s_opened_at_need f ["row", "ranks"]) (B : Bl mg) (G_put_in_turn : Cal P w K mg base CX0 1 "put_in_turn" f_put_in_turn ["waiting", "entry"] sp_put_in_turn) :
    CalP P w K mg base CX0 2 "opened_at_need" f ["row", "ranks"] (sp_opened_at_need K) := by
  refine D.pos sc_opened_at_need (fun vs H Q E h => by obtain ⟨z, rl, rk, rfl, _⟩ := h; rfl) (fun cdv A outer s H vs Q E hr h => ?_)
  obtain ⟨z, rl, rk, rfl, hrl, hrk, hz, ho, F, k⟩ := h
  refine ⟨_, pssp_cons (psp_set (i := 2) sc_opened_at_need.nd rfl (Or.inl rfl) (pep_callTy1 (call_listS rfl) rfl B.list (by decide +kernel) (pep_rep2 63 41 (PE.p (pv 0)) c_rub c_close (by decide))))
    (PSs.p (pss_cons (ps_set (i := 3) sc_opened_at_need.nd rfl (Or.inl rfl) (pe_lst pa_nil))
    (pss_cons (ps_set (i := 4) sc_opened_at_need.nd rfl (Or.inl rfl) pe_int)
    (pss_cons (ps_for PassesOwn.never rfl (pi_enumS rfl B.enumerate (pa_cons (pv 0) pa_nil)) (pg_tupK (K := K) 2 rfl rfl (pgs_cons (pg_name (i := 5) sc_opened_at_need.nd rfl (Or.inl rfl)) (pgs_cons (pg_name (i := 6) sc_opened_at_need.nd rfl (Or.inl rfl)) pgs_nil)))
      (pss_cons (ps_if (pt_cmpR op_eq (pv 6) pe_str (nomark _)) (pss_one (ps_expr (pe_callC G_put_in_turn (hr.mono (by decide)) rfl pass0 (pa_cons (pv 3) (pa_cons (pe_tup (pa_cons (pe_ix (ix_listK (K := K) rfl) (pv 1) (pv 5) (fun _ _ => rfl)) (pa_cons (pv 5) pa_nil))) pa_nil))))) pss_nil)
    (pss_cons (ps_aug (i := 4) sc_opened_at_need.nd rfl (Or.inl rfl) (pe_ifExp (pt_cmpR op_eq (pv 6) pe_str (nomark _)) pe_int (pe_un un_neg pe_int)) ip_add)
    (pss_one (ps_if (pt_cmpR op_lt (pv 4) pe_int (nomark _)) (pss_cons (ps_asg pe_str (pg_sub (pv 2) (pe_ix (ix_tupK (K := K) rfl) (pe_bm0K (K := K) rfl PySem.F.plainAttrs_list PySem.F.slot_list_pop PySem.F.type_list_pop mt_pop (pv 3)) pe_int (fun _ _ => rfl)) set_list))
    (pss_one (ps_aug (i := 4) sc_opened_at_need.nd rfl (Or.inl rfl) pe_int ip_add))) pss_nil)))))
    (pss_one (ps_ret (pe_bmK (K := K) rfl PySem.F.plainAttrs_str PySem.F.slot_str_join PySem.F.type_str_join (mt_joinK (K := K) rfl) pe_str (pa_cons (pv 2) pa_nil)))))))), ?_⟩
  have T := F.fil ho
  walk_at "rd"
  refine ⟨.str z, rfl, z, rfl, by omega, ?_⟩
  have hb : cds (replS z 63 41 (z.length + 1)) = HM.base (cds z) := by rw [cds_repl, repl_base _ _ (by rw [cds_len]; omega)]
  have hbl : (replS z 63 41 (z.length + 1)).length ≤ 1000 := by rw [replS_len]; omega
  walk_at "rd"
  rw [hb]
  intro ls hls
  walk_at "rd"
  intro lw hlw
  have nlw : lw ≠ ls := fun q => by rw [q, upd_same] at hlw; cases hlw
  have hlw0 : H lw = none := by rw [upd_ne nlw] at hlw; exact hlw
  have hS0 : Same H (upd (upd H ls (.lst ((HM.base (cds z)).map sg1))) lw (.lst [])) := same_upd (same_new hls) hlw0
  have hL0 : (upd (upd H ls (.lst ((HM.base (cds z)).map sg1))) lw (.lst [])) ls = some (.lst ((HM.base (cds z)).map sg1)) := by rw [upd_ne (Ne.symm nlw), upd_same]
  have hW0 : (upd (upd H ls (.lst ((HM.base (cds z)).map sg1))) lw (.lst [])) lw = some (.lst []) := upd_same
  generalize upd (upd H ls (.lst ((HM.base (cds z)).map sg1))) lw (.lst []) = H0 at hS0 hL0 hW0
  walk_at "rd"
  refine for_enumS (OanI z rl ls lw rk H) ⟨_, [], none, none, rfl, hS0, hL0, hW0, (fun x h => nomatch h), .start, ⟨.nil, fun q => ⟨fun ⟨_, h, _⟩ => (nomatch h), fun ⟨h, _⟩ => (nomatch h)⟩, (fun x h => nomatch h), Nat.le_refl _⟩⟩ (fun i c σ H1 pt hc h hpt => ?_) (fun σ H1 h => ?_)
  · obtain ⟨s, ws, v5, v6, rfl, hS, hL, hW, hAt, N, W⟩ := h
    have hc' := cds_at hc
    have hi : i < z.length := cds_lt hc'
    have S := N.shp ho
    have nps : ls ≠ pt := ne_of_none hL hpt
    have npw : lw ≠ pt := ne_of_none hW hpt
    have hS1 : Same H (upd H1 pt (.tup [.int (i : Int), .str ⟨#[c]⟩])) := same_upd hS (hS.free hpt)
    have hL1 : (upd H1 pt (.tup [.int (i : Int), .str ⟨#[c]⟩])) ls = some (.lst (s.map sg1)) := by rw [upd_ne nps]; exact hL
    have hW1 : (upd H1 pt (.tup [.int (i : Int), .str ⟨#[c]⟩])) lw = some (.lst (ws.map wtV)) := by rw [upd_ne npw]; exact hW
    have hAt1 : WtAt (upd H1 pt (.tup [.int (i : Int), .str ⟨#[c]⟩])) ws := fun x hx => by rw [upd_ne (ne_of_none (hAt x hx) hpt)]; exact hAt x hx
    have hT1 : (upd H1 pt (.tup [.int (i : Int), .str ⟨#[c]⟩])) pt = some (.tup [.int (i : Int), .str ⟨#[c]⟩]) := upd_same
    generalize upd H1 pt (.tup [.int (i : Int), .str ⟨#[c]⟩]) = H2 at hS1 hL1 hW1 hAt1 hT1
    have hrl2 := hS1.seq hrl
    refine rd_tupG (SqT.of hT1) rfl (rd_gcons (rd_name (rd_gcons (rd_name (rd_gnil ?_)))))
    refine rd_mid (fun σ' H3 => σ' = [some (.str z), some (.ref rl), some (.ref ls), some (.ref lw), some (.int (H5.dep s i)), some (.int (i : Int)), some (.str ⟨#[c]⟩)] ∧ ∃ ws1, Same H H3 ∧ H3 ls = some (.lst (s.map sg1)) ∧ H3 lw = some (.lst (ws1.map wtV)) ∧ WtAt H3 ws1 ∧ WtI (cds z) (fun p => rk.getD p 0) (i + 1) s ws1) (fun N' r bk ct hN => ?_) (fun σ' H3 hI => ?_)
    · walk_at "rd"
      refine rd_ite (fun e => ?_) (fun e => ?_)
      · subst e
        have hix : (rk.map V.int)[i]? = some (.int (rk.getD i 0)) := by
          rw [List.getElem?_map, List.getD_eq_getElem?_getD, List.getElem?_eq_getElem (show i < rk.length by omega)]; rfl
        walk_at "rd"
        intro pe hpe
        have npes : ls ≠ pe := ne_of_none hL1 hpe
        have npew : lw ≠ pe := ne_of_none hW1 hpe
        have hwl := W.len
        refine ⟨lw, pe, rk.getD i 0, i, ws, rfl, by rw [upd_ne npew]; exact hW1, fun x hx => by rw [upd_ne (ne_of_none (hAt1 x hx) hpe)]; exact hAt1 x hx, upd_same, by omega, W.srt, fun j hj g1 g2 => ?_⟩
        refine rd_nx (hN _ _ ⟨rfl, _, same_upd (same_upd hS1 (hS1.free hpe)) hlw0, ?_, upd_same, ?_, W.put hc' (S.late i (Nat.le_refl _) hc') hj g1 g2⟩)
        · rw [upd_ne (Ne.symm nlw), upd_ne npes]; exact hL1
        · intro x hx
          have old : x ∈ ws → (upd (upd H2 pe (.tup [.int (rk.getD i 0), .int (i : Int)])) lw (.lst ((ws.take j ++ (pe, (rk.getD i 0, i)) :: ws.drop j).map wtV))) x.1 = some (.tup [.int x.2.1, .int (x.2.2 : Int)]) := fun hx => by
            have h1 := hAt1 x hx
            have n1 : x.1 ≠ lw := fun q => by rw [q, hW1] at h1; cases h1
            rw [upd_ne n1, upd_ne (ne_of_none h1 hpe)]; exact h1
          rcases List.mem_append.mp hx with q | q
          · exact old (List.mem_of_mem_take q)
          · rcases List.mem_cons.mp q with rfl | q
            · rw [upd_ne (Ne.symm npew), upd_same]
            · exact old (List.mem_of_mem_drop q)
      · exact rd_next (rd_nx (hN _ _ ⟨rfl, ws, hS1, hL1, hW1, hAt1, W.skip hc' e⟩))
    · obtain ⟨rfl, ws1, hS3, hL3, hW3, hAt3, W1⟩ := hI
      have hd : H5.dep s (i + 1) = H5.dep s i + H5.stp c := by
        by_cases e : c = 63
        · subst e
          rw [H5.dep_succ (S.late i (Nat.le_refl _) hc')]; rfl
        · rw [H5.dep_succ (S.fix i c hc' e)]
      refine rd_mid (fun σ' H4 => σ' = [some (.str z), some (.ref rl), some (.ref ls), some (.ref lw), some (.int (H5.dep s (i + 1))), some (.int (i : Int)), some (.str ⟨#[c]⟩)] ∧ H4 = H3) (fun N' r bk ct hN => ?_) (fun σ' H4 hI => ?_)
      · walk_at "rd"
        refine rd_ite (fun e => ?_) (fun e => ?_)
        · walk_at "rd"
          refine hN _ _ ⟨?_, rfl⟩
          rw [hd, e]; rfl
        · walk_at "rd"
          refine hN _ _ ⟨?_, rfl⟩
          rw [hd, show H5.stp c = -1 from if_neg e]; rfl
      · obtain ⟨rfl, rfl⟩ := hI
        walk_at "rd"
        refine rd_ite (fun e => ?_) (fun e => ?_)
        · obtain ⟨p0, hp1, hp2, hp3⟩ := N.exists ho T (by rw [cds_len]; exact hi) e
          have hne : ws1 ≠ [] := fun q => by
            obtain ⟨x, hx, _⟩ := (W1.mem p0).mpr ⟨by omega, hp2, hp3⟩
            rw [q] at hx; cases hx
          obtain ⟨ws2, x, rfl⟩ : ∃ ws2 x, ws1 = ws2 ++ [x] := ⟨ws1.dropLast, ws1.getLast hne, (List.dropLast_concat_getLast hne).symm⟩
          obtain ⟨⟨q1, q2, q3⟩, q4, W2⟩ := W1.pop S.len
          have hW4 : H4 lw = some (.lst (ws2.map wtV ++ [.ref x.1])) := by rw [hW3, List.map_append]; rfl
          have hx4 := hAt3 x (List.mem_append_right _ (List.mem_singleton.mpr rfl))
          have nxl : x.1 ≠ lw := fun q => by rw [q, hW3] at hx4; cases hx4
          walk_at "rd"
          refine rd_pop hW4 ?_
          have hx5 : (upd H4 lw (.lst (ws2.map wtV))) x.1 = some (.tup [.int x.2.1, .int (x.2.2 : Int)]) := by rw [upd_ne nxl]; exact hx4
          have hL5 : (upd H4 lw (.lst (ws2.map wtV))) ls = some (.lst (s.map sg1)) := by rw [upd_ne (Ne.symm nlw)]; exact hL3
          have hW5 : (upd H4 lw (.lst (ws2.map wtV))) lw = some (.lst (ws2.map wtV)) := upd_same
          have hS5 : Same H (upd H4 lw (.lst (ws2.map wtV))) := same_upd hS3 hlw0
          have hAt5 : WtAt (upd H4 lw (.lst (ws2.map wtV))) ws2 := fun y hy => by
            have h1 := hAt3 y (List.mem_append_left _ hy)
            have n1 : y.1 ≠ lw := fun q => by rw [q, hW3] at h1; cases h1
            rw [upd_ne n1]; exact h1
          generalize upd H4 lw (.lst (ws2.map wtV)) = H5 at hx5 hL5 hW5 hS5 hAt5
          refine rd_C ⟨x.1, _, 1, .int (x.2.2 : Int), rfl, rfl, SqT.of hx5, rfl, ?_⟩
          have hps := (List.getElem?_eq_some_iff.mp q3).1
          refine rd_setL hL5 (by rw [List.length_map]; exact hps) ?_
          walk_at "rd"
          refine ⟨s.set x.2.2 40, ws2, some (.int (i : Int)), some (.str ⟨#[c]⟩), ?_, same_upd hS5 hls, ?_, ?_, fun y hy => ?_, .open_ N (by rw [cds_len]; exact hi) e (by omega) q2 q3 (fun q a b c => q4 q (by omega) b c), W2⟩
          · rw [HM.dep_set_gt q3 q1 (by rw [S.len, cds_len]; omega)]
            rfl
          · rw [upd_same, List.map_set, c_open]; rfl
          · rw [upd_ne nlw]; exact hW5
          · have h1 := hAt5 y hy
            have n1 : y.1 ≠ ls := fun q => by rw [q, hL5] at h1; cases h1
            rw [upd_ne n1]; exact h1
        · exact rd_next (rd_nx ⟨s, ws1, _, _, rfl, hS3, hL3, hW3, hAt3, .keep N (by rw [cds_len]; exact hi) (by omega), W1⟩)
  · obtain ⟨s, ws, v5, v6, rfl, hS, hL, hW, hAt, N, W⟩ := h
    have S := N.shp ho
    walk_at "rd"
    refine rd_join (SqL.of hL) (by rw [S.len, cds_len]; omega) ?_
    exact k _ H1 hS (by rw [txt_len, S.len, cds_len]) (by rw [cds_txt]; exact N)
abbrev s_last : Stmt := top 28
theorem sc_last : FnScope ["row"] ["row"] (defScope s_last) := ⟨rfl, rfl, rfl, by decide +kernel, rfl, by decide +kernel, by decide +kernel⟩
def sp_last (CB CN : Addr) : Sp := fun vs H Q E => ∃ z, vs = [.str z] ∧ z.length ≤ 999 ∧ ((cds z).all okc = true → HM.Fb (cds z) → ∀ y H', Same H H' → y.length = z.length → HM.Min (cds z) (cds y) → Q (.str y) H') ∧ ((cds z).all okc = false → ∀ H', Same H H' → E (.ref CB) none H') ∧
  ((cds z).all okc = true → ¬ HM.Fb (cds z) → ∀ H', Same H H' → E (.ref CN) none H')
theorem ok_last {f f_check_fillable f_opened_at_need : Addr} (D : Def K mg "last" s_last f ["row"]) (B : Bl mg) (G_check_fillable : CalU P w K mg base (CXe P w) 4 "check_fillable" f_check_fillable ["row"] (sp_check_fillable C_BadRow C_NoFilling))
    (G_opened_at_need : CalP P w K mg base CX0 2 "opened_at_need" f_opened_at_need ["row", "ranks"] (sp_opened_at_need K)) :
    Cal P w K mg base (CXe P w) 5 "last" f ["row"] (sp_last C_BadRow C_NoFilling) := by
  refine D.okX sc_last (fun vs H Q E h => by obtain ⟨z, rfl, _⟩ := h; rfl) (fun cdv A outer s H vs Q E hr h => ?_)
  obtain ⟨z, rfl, hz, k1, k2, k3⟩ := h
  refine ⟨_, pss_up (psu_expr (peu_callC G_check_fillable (hr.mono (by decide)) rfl passes_def (pa_cons (pv 0) pa_nil)))
    (pssp_one (psp_ret (pep_callC G_opened_at_need (hr.mono (by decide)) rfl pass0 (pa_cons (pv 0) (pa_cons (pe_lcomp (N := ["place"]) (js := [none]) rfl (pi_range1 rfl B.range (pa_cons (pe_callB call_lenS rfl B.len PySem.boot_len (pa_cons (pv 0) pa_nil)) pa_nil)) (fun _ _ _ _ => (pg_name (i := 0) (show (["place"] : List Str).Nodup by decide +kernel) rfl (Or.inl rfl) (.inr rfl))) (fun _ _ _ _ => (pe_un un_neg (pv 0)))) pa_nil))))), ?_⟩
  walk_at "rd"
  refine ⟨z, rfl, by omega, fun ho F H1 hS1 => ?_, k2, k3⟩
  walk_at "rd"
  refine ⟨_, rfl, by omega, by omega, ?_⟩
  refine lc_fun (itOf_range 0 _ H1) (le_line (by omega)) (fun σ' => ∃ v, σ' = [v]) (fun i => .int (-(i : Int))) ⟨_, rfl⟩ (fun i x σ' H' hi hx hs hS R hR => ?_) fun l H' hS hl hL => ?_
  · obtain ⟨v, rfl⟩ := hs
    subst hx
    rw [Int.zero_add]
    walk_at "rd"
    exact hR _ H' ⟨_, rfl⟩ (Same.refl _)
  · rw [Int.toNat_natCast] at hL
    have hL' : H' l = some (.lst (((List.range z.length).map fun i : Nat => -(i : Int)).map V.int)) := by rw [hL, List.map_map]; rfl
    walk_at "rd"
    refine ⟨z, l, _, rfl, SqL.of hL', by rw [List.length_map, List.length_range], by omega, ho, F, fun y H2 hS2 hy N => ?_⟩
    refine k1 ho F y H2 ((hS1.trans hS).trans hS2) hy (HM.Need.min (t := _) (N.congr fun p hp => ?_) ho (F.fil ho))
    rw [cds_len] at hp
    rw [List.getD_eq_getElem?_getD, List.getElem?_map, List.getElem?_range hp]
    rfl
end
end HF
set_option Elab.async false
set_option linter.all false
set_option maxRecDepth 100000
set_option maxHeartbeats 4000000
namespace HF
open PySem L2
section
variable {P : Program} {w : World} {K : PySem.W.Frag} {mg : Str → Option Value} {base : Heap} {C_Filled C_Uneven C_Early C_Late C_Cheapest C_BadRow C_NoFilling : Addr}
end
end HF
set_option Elab.async false
set_option linter.all false
set_option maxRecDepth 100000
set_option maxHeartbeats 4000000
namespace HF
open PySem L2
theorem rd_same {H H' : Hp} {a : Addr} {k : List (Key × V)} (s : Same H H') (h : Rd H a (.dK k)) : Rd H' a (.dK k) := by
  rcases h with h | ⟨o, h⟩
  · exact .inl (s _ _ h)
  · exact .inr ⟨o, s _ _ h⟩
theorem rd_dict_upd {H : Hp} {a l : Addr} {u : HO} {k : List (Key × V)} (h : Rd H a (.dK k)) (hn : a ≠ l) : Rd (upd H l u) a (.dK k) := by
  rcases h with h | ⟨o, h⟩
  · exact .inl (by rw [upd_ne hn]; exact h)
  · exact .inr ⟨o, by rw [upd_ne hn]; exact h⟩
theorem rd_none {H : Hp} {a l : Addr} {k : List (Key × V)} (h : Rd H a (.dK k)) (hl : H l = none) : a ≠ l := by
  rcases h with h | ⟨o, h⟩ <;> exact ne_of_none h hl
theorem rd_lst {H : Hp} {a l : Addr} {xs : List V} {k : List (Key × V)} (h : Rd H a (.dK k)) (hl : H l = some (.lst xs)) : a ≠ l := fun e => by
  subst e
  rcases h with h | ⟨o, h⟩ <;> rw [hl] at h <;> cases h
/-- the depths from which the rest can be filled, from each place on -/
def Rests (H : Hp) (lr : Addr) (r : List Nat) : Prop := ∃ as : List Addr, H lr = some (.lst (as.map V.ref)) ∧ as.length = r.length + 1 ∧ ∀ (i : Nat) (a : Addr), as[i]? = some a → ∃ ds, Rd H a (.dK (dset ds)) ∧ ∀ d, d ∈ ds ↔ HM.rest (r.drop i) d = true
theorem Rests.same {H H' : Hp} {lr : Addr} {r : List Nat} (s : Same H H') (h : Rests H lr r) : Rests H' lr r := by
  obtain ⟨as, h1, h2, h3⟩ := h
  exact ⟨as, s _ _ h1, h2, fun i a ha => by obtain ⟨ds, q, m⟩ := h3 i a ha; exact ⟨ds, rd_same s q, m⟩⟩
section
variable {P : Program} {w : World} {K : PySem.W.Frag} {mg : Str → Option Value} {base : Heap}
end
end HF
set_option Elab.async false
set_option linter.all false
set_option maxRecDepth 100000
set_option maxHeartbeats 4000000
namespace HF
open PySem L2
theorem cut_to (xs : List V) (n : Nat) : cutV xs none (some (n : Int)) = xs.take n := by
  unfold cutV
  rw [HT.sIx_none, HT.sIx_nat, List.drop_zero, Nat.sub_zero]
  by_cases h : n ≤ xs.length
  · rw [Nat.min_eq_left h]
  · rw [Nat.min_eq_right (by omega), List.take_of_length_le (Nat.le_refl _), List.take_of_length_le (by omega)]
theorem cut_from (xs : List V) (n : Nat) : cutV xs (some (n : Int)) none = xs.drop n := by
  unfold cutV
  rw [HT.sIx_none, HT.sIx_nat]
  by_cases h : n ≤ xs.length
  · rw [Nat.min_eq_left h, List.take_of_length_le (by rw [List.length_drop]; omega)]
  · rw [Nat.min_eq_right (by omega), Nat.sub_self, List.take_zero, List.drop_eq_nil_of_le (by omega)]
theorem rd_raise1 {C : Addr} {E : XK} {v : V} {D : Ends} {σ : St} {H : Hp} (h : E (.ref C) none H) : tRaise C E (tCons (tC v) tNil) D σ H := ⟨by show 1 ≤ sizeLine; decide, h⟩
theorem rd_cat {a b : Addr} {xs ys : List V} {H : Hp} {Q : VK} (e : H a = some (.lst xs)) (e' : H b = some (.lst ys)) (hz : xs.length + ys.length ≤ 1000) (h : ∀ p, H p = none → Q (.ref p) (upd H p (.lst (xs ++ ys)))) : rCat (.ref a) (.ref b) H Q := ⟨a, b, xs, ys, rfl, rfl, e, e', le_line hz, h⟩
section
variable {P : Program} {w : World} {K : PySem.W.Frag} {mg : Str → Option Value} {base : Heap} {C_BadRow C_NoFilling C_BadNumber C_BadText : Addr}
abbrev s_is_number : Stmt := top 10
theorem sc_is_number : FnScope ["value"] ["value"] (defScope s_is_number) := ⟨rfl, rfl, rfl, by decide +kernel, rfl, by decide +kernel, by decide +kernel⟩
def sp_is_number (K : PySem.W.Frag) : Sp := fun vs H Q _ => ∃ v t b1 b2, vs = [v] ∧ TyOf K H v t ∧ PySem.W.kitOne K t (.type "int") = some b1 ∧ PySem.W.kitOne K t (.type "bool") = some b2 ∧ Q (.bl (b1 && !b2)) H
theorem ok_is_number {f : Addr} (D : Def K mg "is_number" s_is_number f ["value"]) (B : Bl mg) : Cal P w K mg base CX0 1 "is_number" f ["value"] (sp_is_number K) := by
  refine D.ok sc_is_number (fun vs H Q E h => by obtain ⟨v, t, b1, b2, rfl, _⟩ := h; rfl) (fun cdv A outer s H vs Q E hr h => ?_)
  obtain ⟨v, t, b1, b2, rfl, ty, k1, k2, k⟩ := h
  refine ⟨_, (pss_one (ps_ret (pe_and (pe_callB (call_isiK (K := K) rfl) rfl B.isinstance (by decide +kernel) (pa_cons (pv 0) (pa_cons (pe_bltn (v := .ty "int") rfl B.int (by decide +kernel) rfl) pa_nil))) (pe_one (pe_not (pe_callB (call_isiK (K := K) rfl) rfl B.isinstance (by decide +kernel) (pa_cons (pv 0) (pa_cons (pe_bltn (v := .ty "bool") rfl B.bool (by decide +kernel) rfl) pa_nil)))))))), ?_⟩
  walk_at "rd"
  refine rd_isi rfl ty k1 ?_
  walk_at "rd"
  refine rd_iteB (fun e => ?_) (fun e => ?_)
  · subst e
    walk_at "rd"
    refine rd_isi rfl ty k2 ?_
    walk_at "rd"
    exact k
  · subst e
    exact k
abbrev s_ways_from : Stmt := top 30
theorem sc_ways_from : FnScope ["row", "place", "behind", "opening", "closing", "ways"] ["row", "place", "behind"] (defScope s_ways_from) := ⟨rfl, rfl, rfl, by decide +kernel, rfl, by decide +kernel, by decide +kernel⟩
def sp_ways_from : Sp := fun vs H Q _ => ∃ (z : Str) (p : Nat) (lb : Addr) (Bh : List Int), vs = [.str z, .int (p : Int), .ref lb] ∧ z.length ≤ 900 ∧ p < z.length ∧ H lb = some (.lst (Bh.map V.int)) ∧ HM.Tbl (cds z) (p + 1) Bh ∧
  ∀ l L H', Same H H' → H l = none → H' l = some (.lst (L.map V.int)) → HM.Tbl (cds z) p L → Q (.ref l) H'
theorem tbl_len {r : List Nat} {p : Nat} {L : List Int} (T : HM.Tbl r p L) (h : r.length ≤ 900) : L.length ≤ 901 := by
  have := T.len
  omega
theorem ok_ways_from {f : Addr} (D : Def K mg "ways_from" s_ways_from f ["row", "place", "behind"]) (B : Bl mg) : Cal P w K mg base CX0 1 "ways_from" f ["row", "place", "behind"] sp_ways_from := by
  refine D.ok sc_ways_from (fun vs H Q E h => by obtain ⟨z, p, lb, Bh, rfl, _⟩ := h; rfl) (fun cdv A outer s H vs Q E hr h => ?_)
  obtain ⟨z, p, lb, Bh, rfl, hz, hp, hb, T, k⟩ := h
  have hbl := tbl_len T hz
  obtain ⟨c, hc⟩ := HM.at_of_lt (show p < (cds z).length from hp)
  refine ⟨_, (pss_cons (ps_set (i := 3) sc_ways_from.nd rfl (Or.inl rfl) (pe_op op_cat (pe_slice (sl_listK (K := K) rfl) (pv 2) (po_some pe_int) po_none) (pe_lst (pa_cons pe_int (pa_cons pe_int pa_nil)))))
    (pss_cons (ps_set (i := 4) sc_ways_from.nd rfl (Or.inl rfl) (pe_op op_cat (pe_lst (pa_cons pe_int pa_nil)) (pv 2)))
    (pss_cons (ps_if (pt_cmpR op_eq (pe_ix ix_str (pv 0) (pv 1) (fun _ _ => rfl)) pe_str (nomark _)) (pss_one (ps_set (i := 5) sc_ways_from.nd rfl (Or.inl rfl) (pv 3))) (pss_one (ps_if (pt_cmpR op_eq (pe_ix ix_str (pv 0) (pv 1) (fun _ _ => rfl)) pe_str (nomark _)) (pss_one (ps_set (i := 5) sc_ways_from.nd rfl (Or.inl rfl) (pv 4))) (pss_one (ps_setC (i := 5) sc_ways_from.nd rfl (Or.inl rfl) (N := ["one", "other"]) (js := [none, none]) rfl (pi_zipLK (K := K) rfl rfl B.zip (pa_cons (pv 3) (pa_cons (pv 4) pa_nil))) (fun _ _ _ _ => (pg_tupK (K := K) 2 rfl rfl (pgs_cons (pg_name (i := 0) (show (["one", "other"] : List Str).Nodup by decide +kernel) rfl (Or.inl rfl) (.inr rfl)) (pgs_cons (pg_name (i := 1) (show (["one", "other"] : List Str).Nodup by decide +kernel) rfl (Or.inl rfl) (.inr rfl)) pgs_nil)))) (fun _ _ _ _ => (pe_op op_add (pv 0) (pv 1))))))))
    (pss_one (ps_ret (pe_slice (sl_listK (K := K) rfl) (pv 5) po_none (po_some (pe_op op_add (pv 1) pe_int)))))))), ?_⟩
  walk_at "rd"
  intro p1 hp1
  rw [show cutV (Bh.map V.int) (some 1) none = (Bh.map V.int).drop 1 from cut_from _ 1]
  have hS1 : Same H (upd H p1 (.lst ((Bh.map V.int).drop 1))) := same_new hp1
  have h11 : (upd H p1 (.lst ((Bh.map V.int).drop 1))) p1 = some (.lst ((Bh.map V.int).drop 1)) := upd_same
  have hb1 : (upd H p1 (.lst ((Bh.map V.int).drop 1))) lb = some (.lst (Bh.map V.int)) := hS1 _ _ hb
  generalize upd H p1 (.lst ((Bh.map V.int).drop 1)) = H1 at hS1 h11 hb1
  walk_at "rd"
  intro p2 hp2
  have h12 : (upd H1 p2 (.lst [.int 0, .int 0])) p1 = some (.lst ((Bh.map V.int).drop 1)) := by rw [upd_ne (ne_of_none h11 hp2)]; exact h11
  have h22 : (upd H1 p2 (.lst [.int 0, .int 0])) p2 = some (.lst [.int 0, .int 0]) := upd_same
  have hb2 : (upd H1 p2 (.lst [.int 0, .int 0])) lb = some (.lst (Bh.map V.int)) := by rw [upd_ne (ne_of_none hb1 hp2)]; exact hb1
  have hS2 : Same H (upd H1 p2 (.lst [.int 0, .int 0])) := same_upd hS1 (hS1.free hp2)
  generalize upd H1 p2 (.lst [.int 0, .int 0]) = H2 at hS2 h12 h22 hb2
  refine rd_cat h12 h22 (by rw [List.length_drop, List.length_map]; simp; omega) fun lo hlo => ?_
  have eo : (Bh.map V.int).drop 1 ++ [.int 0, .int 0] = (Bh.drop 1 ++ [0, 0]).map V.int := by rw [List.map_append, List.map_drop]; rfl
  rw [eo]
  have ho3 : (upd H2 lo (.lst ((Bh.drop 1 ++ [0, 0]).map V.int))) lo = some (.lst ((Bh.drop 1 ++ [0, 0]).map V.int)) := upd_same
  have hb3 : (upd H2 lo (.lst ((Bh.drop 1 ++ [0, 0]).map V.int))) lb = some (.lst (Bh.map V.int)) := by rw [upd_ne (ne_of_none hb2 hlo)]; exact hb2
  have hS3 : Same H (upd H2 lo (.lst ((Bh.drop 1 ++ [0, 0]).map V.int))) := same_upd hS2 (hS2.free hlo)
  generalize upd H2 lo (.lst ((Bh.drop 1 ++ [0, 0]).map V.int)) = H3 at ho3 hb3 hS3
  walk_at "rd"
  intro p4 hp4
  have ho4 : (upd H3 p4 (.lst [.int 0])) lo = some (.lst ((Bh.drop 1 ++ [0, 0]).map V.int)) := by rw [upd_ne (ne_of_none ho3 hp4)]; exact ho3
  have hb4 : (upd H3 p4 (.lst [.int 0])) lb = some (.lst (Bh.map V.int)) := by rw [upd_ne (ne_of_none hb3 hp4)]; exact hb3
  have h44 : (upd H3 p4 (.lst [.int 0])) p4 = some (.lst [.int 0]) := upd_same
  have hS4 : Same H (upd H3 p4 (.lst [.int 0])) := same_upd hS3 (hS3.free hp4)
  generalize upd H3 p4 (.lst [.int 0]) = H4 at ho4 hb4 h44 hS4
  walk_at "rd"
  refine rd_cat h44 hb4 (by rw [List.length_map]; simp; omega) fun lc hlc => ?_
  have ec : [V.int 0] ++ Bh.map V.int = ((0 : Int) :: Bh).map V.int := rfl
  rw [ec]
  have ho5 : (upd H4 lc (.lst (((0 : Int) :: Bh).map V.int))) lo = some (.lst ((Bh.drop 1 ++ [0, 0]).map V.int)) := by rw [upd_ne (ne_of_none ho4 hlc)]; exact ho4
  have hc5 : (upd H4 lc (.lst (((0 : Int) :: Bh).map V.int))) lc = some (.lst (((0 : Int) :: Bh).map V.int)) := upd_same
  have hS5 : Same H (upd H4 lc (.lst (((0 : Int) :: Bh).map V.int))) := same_upd hS4 (hS4.free hlc)
  generalize upd H4 lc (.lst (((0 : Int) :: Bh).map V.int)) = H5 at ho5 hc5 hS5
  refine rd_name (rd_nx ?_)
  refine rd_mid (fun σ' H6 => ∃ (lw : Addr) (W : List Int), σ' = [some (.str z), some (.int (p : Int)), some (.ref lb), some (.ref lo), some (.ref lc), some (.ref lw)] ∧ Same H H6 ∧ H6 lw = some (.lst (W.map V.int)) ∧ HM.Tbl (cds z) p (W.take (p + 1))) (fun N' r bk ct hN => ?_) (fun σ' H6 hI => ?_)
  · have hat : (z.cps)[p]? = some c := by rw [← hc]; simp [cds]
    walk_at "rd"
    refine rd_ite (fun e => ?_) (fun e => ?_)
    · subst e
      walk_at "rd"
      exact hN _ _ ⟨lo, Bh.drop 1 ++ [0, 0], rfl, hS5, ho5, T.opn hc⟩
    walk_at "rd"
    refine rd_ite (fun e2 => ?_) (fun e2 => ?_)
    · subst e2
      walk_at "rd"
      exact hN _ _ ⟨lc, (0 : Int) :: Bh, rfl, hS5, hc5, T.cls hc⟩
    walk_at "rd"
    have hol := T.olen
    have lo1 : ((Bh.drop 1 ++ [0, 0]).map V.int).length = Bh.length + 1 := by rw [List.length_map]; exact hol
    have lc1 : (((0 : Int) :: Bh).map V.int).length = Bh.length + 1 := by rw [List.length_map]; rfl
    refine lc_fun (itOf_zipL (K := K) (SqL.of ho5) (SqL.of hc5)) (le_line (by rw [lo1, lc1]; omega)) (fun σ' => ∃ v w, σ' = [v, w]) (fun i => .int ((Bh.drop 1 ++ [0, 0]).getD i 0 + ((0 : Int) :: Bh).getD i 0)) ⟨_, _, rfl⟩ (fun i x σ' H' hi hx hs hS R hR => ?_) fun l H' hS hl hL => ?_
    · obtain ⟨v, w, rfl⟩ := hs
      obtain ⟨x1, y1, q, hx1, hy1, rfl, hq⟩ := hx
      rw [List.getElem?_map] at hx1 hy1
      obtain ⟨a, ha, rfl⟩ : ∃ a, (Bh.drop 1 ++ [0, 0])[i]? = some a ∧ x1 = .int a := by
        cases e : (Bh.drop 1 ++ [0, 0])[i]? with
        | none => rw [e] at hx1; cases hx1
        | some a => rw [e] at hx1; cases hx1; exact ⟨a, rfl, rfl⟩
      obtain ⟨b, hb', rfl⟩ : ∃ b, ((0 : Int) :: Bh)[i]? = some b ∧ y1 = .int b := by
        cases e : ((0 : Int) :: Bh)[i]? with
        | none => rw [e] at hy1; cases hy1
        | some a => rw [e] at hy1; cases hy1; exact ⟨a, rfl, rfl⟩
      rw [List.getD_eq_getElem?_getD, List.getD_eq_getElem?_getD, ha, hb'] at hR
      refine rd_tupG (SqT.of hq) rfl (rd_gcons (rd_name (rd_gcons (rd_name (rd_gnil ?_)))))
      walk_at "rd"
      exact hR _ _ ⟨_, _, rfl⟩ (Same.refl _)
    · rw [lo1, lc1, Nat.min_self] at hL
      have hL' : H' l = some (.lst (((List.range (Bh.length + 1)).map fun i => (Bh.drop 1 ++ [0, 0]).getD i 0 + ((0 : Int) :: Bh).getD i 0).map V.int)) := by rw [hL, List.map_map]; rfl
      refine hN _ _ ⟨l, _, rfl, hS5.trans hS, hL', T.two hc e e2 (by rw [List.length_map, List.length_range]) fun d x y hx hy => ?_⟩
      have hd : d < Bh.length + 1 := by have := (List.getElem?_eq_some_iff.mp hy).1; simpa using this
      rw [List.getElem?_map, List.getElem?_range hd]
      simp only [Option.map_some, List.getD_eq_getElem?_getD, hx, hy, Option.getD_some]
  · obtain ⟨lw, W, rfl, hS6, hW, TW⟩ := hI
    walk_at "rd"
    intro l hl
    have e1 : cutV (W.map V.int) none (some ((p : Int) + 1)) = (W.take (p + 1)).map V.int := by rw [show ((p : Int) + 1) = ((p + 1 : Nat) : Int) from rfl, cut_to, List.map_take]
    rw [e1]
    exact k l _ _ (same_upd hS6 (hS6.free hl)) (hS6.free hl) upd_same TW
abbrev s_ways_from_each : Stmt := top 31
theorem sc_ways_from_each : FnScope ["row", "table", "place"] ["row"] (defScope s_ways_from_each) := ⟨rfl, rfl, rfl, by decide +kernel, rfl, by decide +kernel, by decide +kernel⟩
/-- the tables of all places, from place q on behind -/
def Tabs (H : Hp) (r : List Nat) (lt : Addr) (as : List Addr) (i : Nat) : Prop := H lt = some (.lst (as.map V.ref)) ∧ as.length = i + 1 ∧ ∀ (j : Nat) (a : Addr), as[j]? = some a → ∃ L : List Int, H a = some (.lst (L.map V.int)) ∧ HM.Tbl r (r.length - j) L
def sp_ways_from_each : Sp := fun vs H Q _ => ∃ z, vs = [.str z] ∧ z.length ≤ 900 ∧ ∀ (lt : Addr) (as : List Addr) H', Same H H' → H lt = none → H' lt = some (.lst (as.map V.ref)) → as.length = z.length + 1 → (∀ (j : Nat) (a : Addr), as[j]? = some a → ∃ L : List Int, H' a = some (.lst (L.map V.int)) ∧ HM.Tbl (cds z) j L) → Q (.ref lt) H'
theorem ok_ways_from_each {f f_ways_from : Addr} (D : Def K mg "ways_from_each" s_ways_from_each f ["row"]) (B : Bl mg) (G_ways_from : Cal P w K mg base CX0 1 "ways_from" f_ways_from ["row", "place", "behind"] sp_ways_from) : Cal P w K mg base CX0 2 "ways_from_each" f ["row"] sp_ways_from_each := by
  refine D.ok sc_ways_from_each (fun vs H Q E h => by obtain ⟨z, rfl, _⟩ := h; rfl) (fun cdv A outer s H vs Q E hr h => ?_)
  obtain ⟨z, rfl, hz, k⟩ := h
  refine ⟨_, (pss_cons (ps_set (i := 1) sc_ways_from_each.nd rfl (Or.inl rfl) (pe_lst (pa_cons (pe_lst (pa_cons pe_int pa_nil)) pa_nil)))
    (pss_cons (ps_for PassesOwn.never rfl (pi_rangeD rfl B.range (pa_cons (pe_op op_sub (pe_callB call_lenS rfl B.len PySem.boot_len (pa_cons (pv 0) pa_nil)) pe_int) (pa_cons (pe_un un_neg pe_int) (pa_cons (pe_un un_neg pe_int) pa_nil)))) (pg_name (i := 2) sc_ways_from_each.nd rfl (Or.inl rfl))
      (pss_one (ps_expr (pe_bmK (K := K) rfl PySem.F.plainAttrs_list PySem.F.slot_list_append PySem.F.type_list_append mt_append (pv 1) (pa_cons (pe_callC G_ways_from (hr.mono (by decide)) rfl pass0 (pa_cons (pv 0) (pa_cons (pv 2) (pa_cons (pe_ix (ix_listK (K := K) rfl) (pv 1) (pe_un un_neg pe_int) (fun _ _ => rfl)) pa_nil)))) pa_nil)))))
    (pss_cons (ps_expr (pe_bm0K (K := K) rfl PySem.F.plainAttrs_list PySem.F.slot_list_reverse PySem.F.type_list_reverse mt_reverse (pv 1)))
    (pss_one (ps_ret (pv 1)))))), ?_⟩
  walk_at "rd"
  intro l0 hl0
  have hL0 : (upd H l0 (.lst [.int 1])) l0 = some (.lst (([1] : List Int).map V.int)) := upd_same
  have hS0 : Same H (upd H l0 (.lst [.int 1])) := same_new hl0
  generalize upd H l0 (.lst [.int 1]) = H0 at hL0 hS0
  walk_at "rd"
  intro lt hlt
  have hlt0 : H lt = none := hS0.free hlt
  have hT1 : (upd H0 lt (.lst [.ref l0])) lt = some (.lst (([l0] : List Addr).map V.ref)) := upd_same
  have hL1 : (upd H0 lt (.lst [.ref l0])) l0 = some (.lst (([1] : List Int).map V.int)) := by rw [upd_ne (ne_of_none hL0 hlt)]; exact hL0
  have hS1 : Same H (upd H0 lt (.lst [.ref l0])) := same_upd hS0 hlt0
  generalize upd H0 lt (.lst [.ref l0]) = H1 at hT1 hL1 hS1
  walk_at "rd"
  refine ⟨_, _, rfl, ⟨by omega, by omega, by omega, by omega⟩, ?_⟩
  rw [show (((z.length : Nat) : Int) - 1 - -1).toNat = z.length by omega]
  have hzl : (cds z).length = z.length := cds_len z
  refine for_gen z.length (fun i σ H' => ∃ (as : List Addr) (v2 : Option V), σ = [some (.str z), some (.ref lt), v2] ∧ Same H H' ∧ Tabs H' (cds z) lt as i) ⟨[l0], _, rfl, hS1, hT1, rfl, fun j a ha => ?_⟩ (fun i σ H' hi h => hi) (fun σ H' h => Nat.le_refl _) (fun i σ H' x H'' hi h y => ?_) (fun σ H' h => ?_)
  · cases j with
    | zero => cases ha; exact ⟨[1], hL1, by rw [Nat.sub_zero]; exact HM.Tbl.end_ _⟩
    | succ j => simp at ha
  · obtain ⟨as, v2, rfl, hS, hT, hal, hat⟩ := h
    obtain ⟨rfl, rfl⟩ := y
    obtain ⟨al, hal'⟩ : ∃ a, as[i]? = some a := ⟨_, List.getElem?_eq_getElem (by omega)⟩
    obtain ⟨L, hL, TL⟩ := hat i al hal'
    have hlast : atI (as.map V.ref) (-1) = some (.ref al) := by
      obtain ⟨as', hcat⟩ : ∃ as', as = as' ++ [al] := by
        refine ⟨as.dropLast, ?_⟩
        have hne : as ≠ [] := fun q => by rw [q] at hal; cases hal
        have e1 : as.getLast hne = al := by
          rw [List.getLast_eq_getElem]
          have := (List.getElem?_eq_some_iff.mp hal').2
          rw [← this]
          congr 1
          omega
        rw [← e1]
        exact (List.dropLast_concat_getLast hne).symm
      rw [hcat, List.map_append]
      exact atI_last _ _
    have hsl : (as.map V.ref).length ≤ 1000 := by rw [List.length_map, hal]; omega
    walk_at "rd"
    refine ⟨z, z.length - (i + 1), al, L, ?_, hz, by omega, hL, by rw [show z.length - (i + 1) + 1 = (cds z).length - i by omega]; exact TL, fun l L' H2 hS2 hl hL' TL' => ?_⟩
    · rw [show ((z.length : Nat) : Int) - 1 - (i : Int) = ((z.length - (i + 1) : Nat) : Int) by omega]; rfl
    have hT2 := hS2 _ _ hT
    walk_at "rd"
    refine ⟨as ++ [l], _, rfl, same_upd (hS.trans hS2) hlt0, by rw [upd_same, List.map_append]; rfl, by rw [List.length_append, hal]; rfl, fun j a ha => ?_⟩
    by_cases e : j < as.length
    · rw [List.getElem?_append_left e] at ha
      obtain ⟨L2, q, T2⟩ := hat j a ha
      refine ⟨L2, ?_, T2⟩
      have hne : a ≠ lt := fun z => by
        rw [z, hT] at q
        have := HO.lst.inj (Option.some.inj q)
        cases as with
        | nil => simp at hal
        | cons b bs => cases L2 with
          | nil => simp at this
          | cons c cs => simp at this
      rw [upd_ne hne]; exact hS2 _ _ q
    · have hj : j < (as ++ [l]).length := (List.getElem?_eq_some_iff.mp ha).1
      rw [List.length_append, List.length_singleton] at hj
      have ej : j = i + 1 := by omega
      subst ej
      rw [List.getElem?_append_right (by omega), hal, Nat.sub_self] at ha
      cases ha
      refine ⟨L', ?_, by rw [show (cds z).length - (i + 1) = z.length - (i + 1) by omega]; exact TL'⟩
      rw [upd_ne (fun q => by rw [q, hT] at hl; cases hl)]; exact hL'
  · obtain ⟨as, v2, rfl, hS, hT, hal, hat⟩ := h
    walk_at "rd"
    refine ⟨lt, _, rfl, rfl, hT, ?_⟩
    walk_at "rd"
    refine k lt as.reverse _ (same_upd hS hlt0) hlt0 (by rw [upd_same, List.map_reverse]) (by rw [List.length_reverse, hal]) fun j a ha => ?_
    have hj : j < as.length := by have := (List.getElem?_eq_some_iff.mp ha).1; rwa [List.length_reverse] at this
    rw [List.getElem?_reverse hj] at ha
    obtain ⟨L, q, T⟩ := hat _ a ha
    have hne : a ≠ lt := fun z => by
      rw [z, hT] at q
      have := HO.lst.inj (Option.some.inj q)
      cases as with
      | nil => simp at hal
      | cons b bs => cases L with
        | nil => simp at this
        | cons c cs => simp at this
    exact ⟨L, by rw [upd_ne hne]; exact q, by rw [show (cds z).length - (as.length - 1 - j) = j by omega] at T; exact T⟩
abbrev s_ways_at : Stmt := top 32
theorem sc_ways_at : FnScope ["ways", "depth"] ["ways", "depth"] (defScope s_ways_at) := ⟨rfl, rfl, rfl, by decide +kernel, rfl, by decide +kernel, by decide +kernel⟩
def sp_ways_at (K : PySem.W.Frag) : Sp := fun vs H Q _ => ∃ (l : Addr) (L : List Int) (r : List Nat) (p d : Nat), vs = [.ref l, .int (d : Int)] ∧ SqL K H l (L.map V.int) ∧ HM.Tbl r p L ∧ d ≤ p ∧ Q (.int (HM.ways (r.drop p) d : Int)) H
theorem ok_ways_at {f : Addr} (D : Def K mg "ways_at" s_ways_at f ["ways", "depth"]) (B : Bl mg) : Cal P w K mg base CX0 1 "ways_at" f ["ways", "depth"] (sp_ways_at K) := by
  refine D.ok sc_ways_at (fun vs H Q E h => by obtain ⟨l, L, r, p, d, rfl, _⟩ := h; rfl) (fun cdv A outer s H vs Q E hr h => ?_)
  obtain ⟨l, L, r, p, d, rfl, hl, T, hd, k⟩ := h
  refine ⟨_, (pss_one (ps_ret (pe_ifExp (pt_cmpR op_lt (pv 1) (pe_callB (call_lenK (K := K) rfl) rfl B.len PySem.boot_len (pa_cons (pv 0) pa_nil)) (nomark _)) (pe_ix (ix_listK (K := K) rfl) (pv 0) (pv 1) (fun _ _ => rfl)) pe_int))), ?_⟩
  walk_at "rd"
  refine rd_ite (fun e => ?_) (fun e => ?_)
  · rw [List.length_map] at e
    have hat : atI (L.map V.int) (d : Int) = some (.int (HM.ways (r.drop p) d : Int)) := atI_nat (by rw [List.getElem?_map, T.at_ d (by omega)]; rfl)
    walk_at "rd"
    exact k
  · rw [List.length_map] at e
    have := T.none hd (by omega)
    rw [this] at k
    walk_at "rd"
    exact k
abbrev s_how_many : Stmt := top 33
theorem sc_how_many : FnScope ["row", "ways", "place"] ["row"] (defScope s_how_many) := ⟨rfl, rfl, rfl, by decide +kernel, rfl, by decide +kernel, by decide +kernel⟩
def sp_how_many (CB : Addr) : Sp := fun vs H Q E => ∃ z, vs = [.str z] ∧ z.length ≤ 900 ∧ ((cds z).all okc = true → ∀ H', Same H H' → Q (.int (HM.ways (cds z) 0 : Int)) H') ∧ ((cds z).all okc = false → ∀ H', Same H H' → E (.ref CB) none H')
theorem ok_how_many {f f_check_row f_ways_from : Addr} (D : Def K mg "how_many" s_how_many f ["row"]) (B : Bl mg) (G_check_row : Cal P w K mg base (CXe P w) 2 "check_row" f_check_row ["row"] (sp_check_row C_BadRow)) (G_ways_from : Cal P w K mg base CX0 1 "ways_from" f_ways_from ["row", "place", "behind"] sp_ways_from) :
    Cal P w K mg base (CXe P w) 3 "how_many" f ["row"] (sp_how_many C_BadRow) := by
  refine D.okX sc_how_many (fun vs H Q E h => by obtain ⟨z, rfl, _⟩ := h; rfl) (fun cdv A outer s H vs Q E hr h => ?_)
  obtain ⟨z, rfl, hz, k1, k2⟩ := h
  refine ⟨_, (pss_cons (ps_expr (pe_callC G_check_row (hr.mono (by decide)) rfl passes_def (pa_cons (pv 0) pa_nil)))
    (pss_cons (ps_set (i := 1) sc_how_many.nd rfl (Or.inl rfl) (pe_lst (pa_cons pe_int pa_nil)))
    (pss_cons (PS.nox (ps_for PassesOwn.never rfl (pi_rangeD rfl B.range (pa_cons (pe_op op_sub (pe_callB call_lenS rfl B.len PySem.boot_len (pa_cons (pv 0) pa_nil)) pe_int) (pa_cons (pe_un un_neg pe_int) (pa_cons (pe_un un_neg pe_int) pa_nil)))) (pg_name (i := 2) sc_how_many.nd rfl (Or.inl rfl))
      (pss_one (ps_set (i := 1) sc_how_many.nd rfl (Or.inl rfl) (pe_callC G_ways_from (hr.mono (by decide)) rfl pass0 (pa_cons (pv 0) (pa_cons (pv 2) (pa_cons (pv 1) pa_nil))))))))
    (pss_one (ps_ret (pe_ix (ix_listK (K := K) rfl) (pv 1) pe_int (fun _ _ => rfl))))))), ?_⟩
  walk_at "rd"
  refine ⟨z, rfl, by omega, fun ho H1 hS1 => ?_, k2⟩
  have hzl : (cds z).length = z.length := cds_len z
  walk_at "rd"
  intro l0 hl0
  have hL0 : (upd H1 l0 (.lst [.int 1])) l0 = some (.lst (([1] : List Int).map V.int)) := upd_same
  have hS0 : Same H (upd H1 l0 (.lst [.int 1])) := same_upd hS1 (hS1.free hl0)
  generalize upd H1 l0 (.lst [.int 1]) = H0 at hL0 hS0
  walk_at "rd"
  refine ⟨_, _, rfl, ⟨by omega, by omega, by omega, by omega⟩, ?_⟩
  rw [show (((z.length : Nat) : Int) - 1 - -1).toNat = z.length by omega]
  refine for_gen z.length (fun i σ H' => ∃ (l : Addr) (L : List Int) (v2 : Option V), σ = [some (.str z), some (.ref l), v2] ∧ Same H H' ∧ H' l = some (.lst (L.map V.int)) ∧ HM.Tbl (cds z) ((cds z).length - i) L) ⟨l0, [1], _, rfl, hS0, hL0, by rw [Nat.sub_zero]; exact HM.Tbl.end_ _⟩ (fun i σ H' hi h => hi) (fun σ H' h => Nat.le_refl _) (fun i σ H' x H'' hi h y => ?_) (fun σ H' h => ?_)
  · obtain ⟨l, L, v2, rfl, hS, hL, T⟩ := h
    obtain ⟨rfl, rfl⟩ := y
    walk_at "rd"
    refine ⟨z, z.length - (i + 1), l, L, ?_, hz, by omega, hL, by rw [show z.length - (i + 1) + 1 = (cds z).length - i by omega]; exact T, fun l' L' H2 hS2 hl' hL' TL' => ?_⟩
    · rw [show ((z.length : Nat) : Int) - 1 - (i : Int) = ((z.length - (i + 1) : Nat) : Int) by omega]; rfl
    exact ⟨l', L', _, rfl, hS.trans hS2, hL', by rw [show (cds z).length - (i + 1) = z.length - (i + 1) by omega]; exact TL'⟩
  · obtain ⟨l, L, v2, rfl, hS, hL, T⟩ := h
    rw [show (cds z).length - z.length = 0 by omega] at T
    have hat : atI (L.map V.int) (0 : Int) = some (.int (HM.ways (cds z) 0 : Int)) := atI_nat (j := 0) (by rw [List.getElem?_map, T.zero]; rfl)
    walk_at "rd"
    exact k1 ho _ hS
abbrev s_told : Stmt := top 34
theorem sc_told : FnScope ["row", "number", "table", "signs", "depth", "skipped", "place", "sign", "opening"] ["row", "number"] (defScope s_told) := ⟨rfl, rfl, rfl, by decide +kernel, rfl, by decide +kernel, by decide +kernel⟩
/-- ints are numbers -/
structure KitN (K : PySem.W.Frag) : Prop where
  ii : PySem.W.kitOne K (.type "int") (.type "int") = some true
  ib : PySem.W.kitOne K (.type "int") (.type "bool") = some false
def sp_told (CB CN CM : Addr) : Sp := fun vs H Q E => ∃ (z : Str) (n : Int), vs = [.str z, .int n] ∧ z.length ≤ 900 ∧
  ((cds z).all okc = true → HM.Fb (cds z) → 0 ≤ n → n < (HM.ways (cds z) 0 : Int) → ∀ y H', Same H H' → y.length = z.length → HM.Fil (cds z) (cds y) → HM.rk (cds z) 0 (cds y) = n.toNat → Q (.str y) H') ∧
  ((cds z).all okc = false → ∀ H', Same H H' → E (.ref CB) none H') ∧ ((cds z).all okc = true → ¬ HM.Fb (cds z) → ∀ H', Same H H' → E (.ref CN) none H') ∧
  ((cds z).all okc = true → HM.Fb (cds z) → (n < 0 ∨ (HM.ways (cds z) 0 : Int) ≤ n) → ∀ H', Same H H' → E (.ref CM) none H')
def TolI (z : Str) (n : Int) (lt ls : Addr) (H2 H : Hp) (i : Nat) (σ : St) (H' : Hp) : Prop :=
  ∃ (u : List Nat) (s : Nat) (v6 v7 v8 : Option V), σ = [some (.str z), some (.int n), some (.ref lt), some (.ref ls), some (.int (H5.dep u i)), some (.int (s : Int)), v6, v7, v8] ∧ Same H H' ∧ Same H2 H' ∧ H' ls = some (.lst ((u ++ (cds z).drop i).map sg1)) ∧ HM.Tld (cds z) n.toNat i u s
theorem set_mid {u r : List Nat} {i c x : Nat} (hl : u.length = i) (hc : r[i]? = some c) : (u ++ r.drop i).set i x = (u ++ [x]) ++ r.drop (i + 1) := by
  rw [HM.drop_at hc, List.set_append_right _ _ (by omega), hl, Nat.sub_self, List.append_assoc]
  rfl
theorem ok_told {f f_check_fillable f_is_number f_ways_from_each f_ways_at : Addr} (D : Def K mg "told" s_told f ["row", "number"]) (B : Bl mg) (KT : KitN K) (X_BadNumber : ExcC K mg "BadNumber" C_BadNumber)
    (G_check_fillable : Cal P w K mg base (CXe P w) 4 "check_fillable" f_check_fillable ["row"] (sp_check_fillable C_BadRow C_NoFilling)) (G_is_number : Cal P w K mg base CX0 1 "is_number" f_is_number ["value"] (sp_is_number K))
    (G_ways_from_each : Cal P w K mg base CX0 2 "ways_from_each" f_ways_from_each ["row"] sp_ways_from_each) (G_ways_at : Cal P w K mg base CX0 1 "ways_at" f_ways_at ["ways", "depth"] (sp_ways_at K)) :
    Cal P w K mg base (CXe P w) 5 "told" f ["row", "number"] (sp_told C_BadRow C_NoFilling C_BadNumber) := by
  refine D.okX sc_told (fun vs H Q E h => by obtain ⟨z, n, rfl, _⟩ := h; rfl) (fun cdv A outer s H vs Q E hr h => ?_)
  obtain ⟨z, n, rfl, hz, k1, k2, k3, k4⟩ := h
  have hzl : (cds z).length = z.length := cds_len z
  refine ⟨_, (pss_cons (ps_expr (pe_callC G_check_fillable (hr.mono (by decide)) rfl passes_def (pa_cons (pv 0) pa_nil)))
    (pss_cons (ps_if (PW.pt (pw_or (pt_not (pt_val (pe_callC G_is_number (hr.mono (by decide)) rfl pass0 (pa_cons (pv 1) pa_nil)))) (pw_or1 (pt_cmpR op_lt (pv 1) pe_int (nomark _))))) (pss_one (ps_raise raises_def rfl X_BadNumber.x rfl X_BadNumber.at_ (pa_cons pe_str pa_nil))) pss_nil)
    (pss_cons (ps_set (i := 2) sc_told.nd rfl (Or.inl rfl) (pe_callC G_ways_from_each (hr.mono (by decide)) rfl pass0 (pa_cons (pv 0) pa_nil)))
    (pss_cons (ps_if (pt_cmpR op_ge (pv 1) (pe_ix (ix_listK (K := K) rfl) (pe_ix (ix_listK (K := K) rfl) (pv 2) pe_int (fun _ _ => rfl)) pe_int (fun _ _ => rfl)) (nomark _)) (pss_one (ps_raise raises_def rfl X_BadNumber.x rfl X_BadNumber.at_ (pa_cons pe_str pa_nil))) pss_nil)
    (pss_cons (ps_set (i := 3) sc_told.nd rfl (Or.inl rfl) (pe_callTy (call_listS rfl) rfl B.list (by decide +kernel) (pa_cons (pv 0) pa_nil)))
    (pss_cons (ps_set (i := 4) sc_told.nd rfl (Or.inl rfl) pe_int)
    (pss_cons (ps_set (i := 5) sc_told.nd rfl (Or.inl rfl) pe_int)
    (pss_cons (PS.nox (ps_for PassesOwn.never rfl (pi_enumS rfl B.enumerate (pa_cons (pv 0) pa_nil)) (pg_tupK (K := K) 2 rfl rfl (pgs_cons (pg_name (i := 6) sc_told.nd rfl (Or.inl rfl)) (pgs_cons (pg_name (i := 7) sc_told.nd rfl (Or.inl rfl)) pgs_nil)))
      (pss_cons (ps_if (pt_cmpR op_eq (pv 7) pe_str (nomark _)) (pss_cons (ps_set (i := 8) sc_told.nd rfl (Or.inl rfl) (pe_callC G_ways_at (hr.mono (by decide)) rfl pass0 (pa_cons (pe_ix (ix_listK (K := K) rfl) (pv 2) (pe_op op_add (pv 6) pe_int) (fun _ _ => rfl)) (pa_cons (pe_op op_add (pv 4) pe_int) pa_nil))))
    (pss_one (ps_if (pt_cmpR op_lt (pe_op op_sub (pv 1) (pv 5)) (pv 8) (nomark _)) (pss_one (ps_asg pe_str (pg_sub (pv 3) (pv 6) set_list))) (pss_cons (ps_asg pe_str (pg_sub (pv 3) (pv 6) set_list))
    (pss_one (ps_aug (i := 5) sc_told.nd rfl (Or.inl rfl) (pv 8) ip_add)))))) pss_nil)
    (pss_one (ps_aug (i := 4) sc_told.nd rfl (Or.inl rfl) (pe_ifExp (pt_cmpR op_eq (pe_ix (ix_listK (K := K) rfl) (pv 3) (pv 6) (fun _ _ => rfl)) pe_str (nomark _)) pe_int (pe_un un_neg pe_int)) ip_add)))))
    (pss_one (ps_ret (pe_bmK (K := K) rfl PySem.F.plainAttrs_str PySem.F.slot_str_join PySem.F.type_str_join (mt_joinK (K := K) rfl) pe_str (pa_cons (pv 3) pa_nil)))))))))))), ?_⟩
  walk_at "rd"
  refine ⟨z, rfl, by omega, fun ho F H1 hS1 => ?_, k2, k3⟩
  walk_at "rd"
  refine ⟨_, _, true, false, rfl, TyOf.int _, KT.ii, KT.ib, ?_⟩
  walk_at "rd"
  refine iteF ?_
  walk_at "rd"
  refine rd_ite (fun e => ?_) (fun e => ?_)
  · exact rd_raise1 (k4 ho F (.inl e) _ hS1)
  walk_at "rd"
  refine ⟨z, rfl, hz, fun lt as H2 hS2 hlt hT hal hat => ?_⟩
  obtain ⟨a0, ha0⟩ : ∃ a, as[0]? = some a := ⟨_, List.getElem?_eq_getElem (by omega)⟩
  obtain ⟨L0, hL0, T0⟩ := hat 0 a0 ha0
  have at0 : atI (as.map V.ref) (0 : Int) = some (.ref a0) := atI_nat (j := 0) (by rw [List.getElem?_map, ha0]; rfl)
  have at1 : atI (L0.map V.int) (0 : Int) = some (.int (HM.ways (cds z) 0 : Int)) := atI_nat (j := 0) (by rw [List.getElem?_map, T0.zero]; rfl)
  have hS12 := hS1.trans hS2
  walk_at "rd"
  refine rd_ite (fun e2 => ?_) (fun e2 => ?_)
  · exact rd_raise1 (k4 ho F (.inr e2) _ hS12)
  walk_at "rd"
  intro ls hls
  have hls0 : H ls = none := hS12.free hls
  have hS3 : Same H (upd H2 ls (.lst ((cds z).map sg1))) := same_upd hS12 hls0
  have hS23 : Same H2 (upd H2 ls (.lst ((cds z).map sg1))) := same_new hls
  have hL3 : (upd H2 ls (.lst ((cds z).map sg1))) ls = some (.lst ((cds z).map sg1)) := upd_same
  generalize upd H2 ls (.lst ((cds z).map sg1)) = H3 at hS3 hS23 hL3
  walk_at "rd"
  refine for_enumS (TolI z n lt ls H2 H) ⟨[], 0, none, none, none, rfl, hS3, hS23, hL3, HM.Tld.zero (by omega)⟩ (fun i c σ H4 pt hc h hpt => ?_) (fun σ H4 h => ?_)
  · obtain ⟨u, s, v6, v7, v8, rfl, hS, hS2', hL, T⟩ := h
    have hc' := cds_at hc
    have hi : i < z.length := cds_lt hc'
    have hul := T.len
    have hd0 : 0 ≤ H5.dep u i := T.pf.nn i (by omega)
    have hdi : H5.dep u i ≤ i := HM.dep_le_i T.pf.sg i (by omega)
    have hS5 : Same H (upd H4 pt (.tup [.int (i : Int), .str ⟨#[c]⟩])) := same_upd hS (hS.free hpt)
    have hS25 : Same H2 (upd H4 pt (.tup [.int (i : Int), .str ⟨#[c]⟩])) := same_upd hS2' (hS2'.free hpt)
    have hL5 : (upd H4 pt (.tup [.int (i : Int), .str ⟨#[c]⟩])) ls = some (.lst ((u ++ (cds z).drop i).map sg1)) := by rw [upd_ne (ne_of_none hL hpt)]; exact hL
    have hT5 : (upd H4 pt (.tup [.int (i : Int), .str ⟨#[c]⟩])) pt = some (.tup [.int (i : Int), .str ⟨#[c]⟩]) := upd_same
    generalize upd H4 pt (.tup [.int (i : Int), .str ⟨#[c]⟩]) = G5 at hS5 hS25 hL5 hT5
    obtain ⟨a1, ha1⟩ : ∃ a, as[i + 1]? = some a := ⟨_, List.getElem?_eq_getElem (by omega)⟩
    obtain ⟨L1, hL1, T1⟩ := hat (i + 1) a1 ha1
    have hT5' := hS25 _ _ hT
    have hL1' := hS25 _ _ hL1
    have at2 : atI (as.map V.ref) ((i : Int) + 1) = some (.ref a1) := atI_nat (show (as.map V.ref)[i + 1]? = some (.ref a1) by rw [List.getElem?_map, ha1]; rfl)
    have hgl : ((u ++ (cds z).drop i).map sg1).length = z.length := by rw [List.length_map, List.length_append, List.length_drop, hul]; omega
    have cok : okc c = true := List.all_eq_true.mp ho _ (List.mem_of_getElem? hc')
    refine rd_tupG (SqT.of hT5) rfl (rd_gcons (rd_name (rd_gcons (rd_name (rd_gnil ?_)))))
    refine rd_mid (fun σ' H6 => ∃ (x s' : Nat) (v8 : Option V), σ' = [some (.str z), some (.int n), some (.ref lt), some (.ref ls), some (.int (H5.dep u i)), some (.int (s' : Int)), some (.int (i : Int)), some (.str ⟨#[c]⟩), v8] ∧ Same H H6 ∧ Same H2 H6 ∧ H6 ls = some (.lst (((u ++ [x]) ++ (cds z).drop (i + 1)).map sg1)) ∧ HM.Tld (cds z) n.toNat (i + 1) (u ++ [x]) s') (fun N' r bk ct hN => ?_) (fun σ' H6 hI => ?_)
    · walk_at "rd"
      refine rd_ite (fun e3 => ?_) (fun e3 => ?_)
      · subst e3
        walk_at "rd"
        refine ⟨a1, L1, cds z, i + 1, (H5.dep u i + 1).toNat, ?_, SqL.of hL1', T1, by omega, ?_⟩
        · rw [show (((H5.dep u i + 1).toNat : Nat) : Int) = H5.dep u i + 1 by omega]; rfl
        rw [show (((H5.dep u i + 1).toNat : Nat) : Int) = H5.dep u i + 1 by omega]
        walk_at "rd"
        have hlo := T.lo
        refine rd_ite (fun e4 => ?_) (fun e4 => ?_)
        · have T' := T.snoc (x := 40) cok hc' (by rw [if_pos rfl, if_pos (by omega)])
          walk_at "rd"
          refine rd_setL hL5 (by rw [hgl]; exact hi) ?_
          refine rd_nx (hN _ _ ⟨40, s, _, rfl, same_upd hS5 hls0, same_upd hS25 hls, ?_, ?_⟩)
          · rw [upd_same, c_open, ← set_mid hul hc', List.map_set]; rfl
          · rw [if_neg (fun q => absurd q.2 (by decide)), Nat.add_zero] at T'; exact T'
        · have T' := T.snoc (x := 41) cok hc' (by rw [if_pos rfl, if_neg (by omega)])
          walk_at "rd"
          refine rd_setL hL5 (by rw [hgl]; exact hi) ?_
          walk_at "rd"
          refine hN _ _ ⟨41, _, some (.int (HM.ways ((cds z).drop (i + 1)) (H5.dep u i + 1) : Int)), ?_, same_upd hS5 hls0, same_upd hS25 hls, ?_, T'⟩
          · rw [if_pos ⟨rfl, rfl⟩]; rfl
          · rw [upd_same, c_close, ← set_mid hul hc', List.map_set]; rfl
      · have T' := T.snoc (x := c) cok hc' (by rw [if_neg e3])
        rw [if_neg (fun q => e3 q.1), Nat.add_zero] at T'
        refine rd_next (rd_nx (hN _ _ ⟨c, s, _, rfl, hS5, hS25, ?_, T'⟩))
        rw [hL5, HM.drop_at hc', List.append_assoc]; rfl
    · obtain ⟨x, s', w8, rfl, hS6, hS26, hL6, T'⟩ := hI
      have hx : (u ++ [x] ++ (cds z).drop (i + 1))[i]? = some x := by
        rw [List.append_assoc, List.getElem?_append_right (by omega), hul, Nat.sub_self]; rfl
      have atx : atI ((u ++ [x] ++ (cds z).drop (i + 1)).map sg1) (i : Int) = some (.str ⟨#[x]⟩) := atI_nat (by rw [List.getElem?_map, hx]; rfl)
      have hd : H5.dep (u ++ [x]) (i + 1) = H5.dep u i + H5.stp x := by have := HM.dep_snoc (u := u) (x := x); rw [hul] at this; exact this
      walk_at "rd"
      refine rd_ite (fun e => ?_) (fun e => ?_)
      · walk_at "rd"
        refine ⟨u ++ [x], s', some (.int (i : Int)), some (.str ⟨#[c]⟩), w8, ?_, hS6, hS26, hL6, T'⟩
        rw [hd, e]; rfl
      · walk_at "rd"
        refine ⟨u ++ [x], s', some (.int (i : Int)), some (.str ⟨#[c]⟩), w8, ?_, hS6, hS26, hL6, T'⟩
        rw [hd, show H5.stp x = -1 from if_neg e]; rfl
  · obtain ⟨u, s, v6, v7, v8, rfl, hS, hS2', hL, T⟩ := h
    have T2 : HM.Tld (cds z) n.toNat (cds z).length u s := T
    have hul := T2.len
    have eL : u ++ (cds z).drop z.cps.size = u := by rw [List.drop_eq_nil_of_le (by rw [hzl]; exact Nat.le_refl _), List.append_nil]
    rw [eL] at hL
    obtain ⟨Fu, hrk⟩ := T2.fin
    walk_at "rd"
    refine rd_join (SqL.of hL) (by rw [hul, hzl]; omega) ?_
    exact k1 ho F (by omega) (by omega) _ _ hS (by rw [txt_len, hul, hzl]) (by rw [cds_txt]; exact Fu) (by rw [cds_txt]; exact hrk)
abbrev s_number_of : Stmt := top 35
theorem sc_number_of : FnScope ["row", "text", "counts", "number", "ways", "place"] ["row", "text"] (defScope s_number_of) := ⟨rfl, rfl, rfl, by decide +kernel, rfl, by decide +kernel, by decide +kernel⟩
def sp_number_of (CB CN CT : Addr) : Sp := fun vs H Q E => ∃ (z y : Str), vs = [.str z, .str y] ∧ z.length ≤ 900 ∧ y.length ≤ 1000 ∧
  ((cds z).all okc = true → HM.Fil (cds z) (cds y) → ∀ H', Same H H' → Q (.int (HM.rk (cds z) 0 (cds y) : Int)) H') ∧ ((cds z).all okc = false → ∀ H', Same H H' → E (.ref CB) none H') ∧ ((cds z).all okc = true → ¬ HM.Fb (cds z) → ∀ H', Same H H' → E (.ref CN) none H') ∧
  ((cds z).all okc = true → HM.Fb (cds z) → ¬ HM.Fil (cds z) (cds y) → ∀ H', Same H H' → E (.ref CT) none H')
theorem ok_number_of {f f_check_fillable f_is_filling f_running_depths f_ways_from f_ways_at : Addr} (D : Def K mg "number_of" s_number_of f ["row", "text"]) (B : Bl mg) (X_BadText : ExcC K mg "BadText" C_BadText)
    (G_check_fillable : Cal P w K mg base (CXe P w) 4 "check_fillable" f_check_fillable ["row"] (sp_check_fillable C_BadRow C_NoFilling)) (G_is_filling : Cal P w K mg base CX0 3 "is_filling" f_is_filling ["row", "text"] sp_is_filling)
    (G_running_depths : Cal P w K mg base CX0 1 "running_depths" f_running_depths ["text"] sp_running_depths)
    (G_ways_from : Cal P w K mg base CX0 1 "ways_from" f_ways_from ["row", "place", "behind"] sp_ways_from) (G_ways_at : Cal P w K mg base CX0 1 "ways_at" f_ways_at ["ways", "depth"] (sp_ways_at K)) :
    Cal P w K mg base (CXe P w) 5 "number_of" f ["row", "text"] (sp_number_of C_BadRow C_NoFilling C_BadText) := by
  refine D.okX sc_number_of (fun vs H Q E h => by obtain ⟨z, n, rfl, _⟩ := h; rfl) (fun cdv A outer s H vs Q E hr h => ?_)
  obtain ⟨z, y, rfl, hz, hy, k1, k2, k3, k4⟩ := h
  have hzl : (cds z).length = z.length := cds_len z
  refine ⟨_, (pss_cons (ps_expr (pe_callC G_check_fillable (hr.mono (by decide)) rfl passes_def (pa_cons (pv 0) pa_nil)))
    (pss_cons (ps_if (pt_not (pt_val (pe_callC G_is_filling (hr.mono (by decide)) rfl pass0 (pa_cons (pv 0) (pa_cons (pv 1) pa_nil))))) (pss_one (ps_raise raises_def rfl X_BadText.x rfl X_BadText.at_ (pa_cons pe_str pa_nil))) pss_nil)
    (pss_cons (ps_set (i := 2) sc_number_of.nd rfl (Or.inl rfl) (pe_callC G_running_depths (hr.mono (by decide)) rfl pass0 (pa_cons (pv 1) pa_nil)))
    (pss_cons (ps_set (i := 3) sc_number_of.nd rfl (Or.inl rfl) pe_int)
    (pss_cons (ps_set (i := 4) sc_number_of.nd rfl (Or.inl rfl) (pe_lst (pa_cons pe_int pa_nil)))
    (pss_cons (PS.nox (ps_for PassesOwn.never rfl (pi_rangeD rfl B.range (pa_cons (pe_op op_sub (pe_callB call_lenS rfl B.len PySem.boot_len (pa_cons (pv 0) pa_nil)) pe_int) (pa_cons (pe_un un_neg pe_int) (pa_cons (pe_un un_neg pe_int) pa_nil)))) (pg_name (i := 5) sc_number_of.nd rfl (Or.inl rfl))
      (pss_cons (ps_if (PW.pt (pw_and (pt_cmpR op_eq (pe_ix ix_str (pv 0) (pv 5) (fun _ _ => rfl)) pe_str (nomark _)) (pw_and1 (pt_cmpR op_eq (pe_ix ix_str (pv 1) (pv 5) (fun _ _ => rfl)) pe_str (nomark _))))) (pss_one (ps_aug (i := 3) sc_number_of.nd rfl (Or.inl rfl) (pe_callC G_ways_at (hr.mono (by decide)) rfl pass0 (pa_cons (pv 4) (pa_cons (pe_op op_add (pe_ix (ix_listK (K := K) rfl) (pv 2) (pv 5) (fun _ _ => rfl)) pe_int) pa_nil))) ip_add)) pss_nil)
    (pss_one (ps_set (i := 4) sc_number_of.nd rfl (Or.inl rfl) (pe_callC G_ways_from (hr.mono (by decide)) rfl pass0 (pa_cons (pv 0) (pa_cons (pv 5) (pa_cons (pv 4) pa_nil)))))))))
    (pss_one (ps_ret (pv 3))))))))), ?_⟩
  walk_at "rd"
  refine ⟨z, rfl, by omega, fun ho F H1 hS1 => ?_, k2, k3⟩
  walk_at "rd"
  refine ⟨z, y, rfl, by omega, hy, fun H2 hS2 => ?_⟩
  have hS12 := hS1.trans hS2
  walk_at "rd"
  refine rd_iteNB (fun e => ?_) (fun e => ?_)
  · exact rd_raise1 (k4 ho F (fun q => by rw [HM.fil_iff.mpr q] at e; cases e) _ hS12)
  have Fy := HM.fil_iff.mp e
  have hyl : y.length = z.length := by rw [← cds_len, Fy.len, hzl]
  walk_at "rd"
  refine ⟨y, rfl, by omega, fun ld H3 hS3 hld hLd => ?_⟩
  have hS13 := hS12.trans hS3
  walk_at "rd"
  intro l0 hl0
  have hL0 : (upd H3 l0 (.lst [.int 1])) l0 = some (.lst (([1] : List Int).map V.int)) := upd_same
  have hS0 : Same H (upd H3 l0 (.lst [.int 1])) := same_upd hS13 (hS13.free hl0)
  have hS30 : Same H3 (upd H3 l0 (.lst [.int 1])) := same_new hl0
  generalize upd H3 l0 (.lst [.int 1]) = H0 at hL0 hS0 hS30
  walk_at "rd"
  refine ⟨_, _, rfl, ⟨by omega, by omega, by omega, by omega⟩, ?_⟩
  rw [show (((z.length : Nat) : Int) - 1 - -1).toNat = z.length by omega]
  refine for_gen z.length (fun i σ H' => ∃ (l : Addr) (L : List Int) (v5 : Option V), σ = [some (.str z), some (.str y), some (.ref ld), some (.int (HM.rk ((cds z).drop ((cds z).length - i)) (H5.dep (cds y) ((cds z).length - i)) ((cds y).drop ((cds z).length - i)) : Int)), some (.ref l), v5] ∧ Same H H' ∧ Same H3 H' ∧ H' l = some (.lst (L.map V.int)) ∧ HM.Tbl (cds z) ((cds z).length - i) L)
    ⟨l0, [1], _, by rw [Nat.sub_zero, HM.rk_end]; rfl, hS0, hS30, hL0, by rw [Nat.sub_zero]; exact HM.Tbl.end_ _⟩ (fun i σ H' hi h => hi) (fun σ H' h => Nat.le_refl _) (fun i σ H' x H'' hi h y => ?_) (fun σ H' h => ?_)
  · obtain ⟨l, L, v5, rfl, hS, hS3', hL, T⟩ := h
    obtain ⟨rfl, rfl⟩ := y
    obtain ⟨p, hp⟩ : ∃ p, p = z.length - (i + 1) := ⟨_, rfl⟩
    have e1 : (cds z).length - i = p + 1 := by omega
    have e2 : (cds z).length - (i + 1) = p := by omega
    have e3 : ((z.length : Nat) : Int) - 1 - (i : Int) = (p : Int) := by omega
    rw [e1] at T
    rw [e1, e2, e3]
    have hpz : p < z.length := by omega
    obtain ⟨c, hc⟩ := HM.at_of_lt (show p < (cds z).length by omega)
    obtain ⟨d, hd⟩ := HM.at_of_lt (show p < (cds y).length by rw [cds_len]; omega)
    have hrk := HM.rk_drop hc hd
    have hLd' := hS3' _ _ hLd
    have hdp : atI ((H5.deps (cds y)).map V.int) (p : Int) = some (.int (H5.dep (cds y) p)) := atI_nat (by
      unfold H5.deps
      rw [List.getElem?_map, List.getElem?_map, List.getElem?_range (by rw [cds_len]; omega)]
      rfl)
    have hd0 : 0 ≤ H5.dep (cds y) p := Fy.clo.nn p (by rw [cds_len]; omega)
    have hdi : H5.dep (cds y) p ≤ p := HM.dep_le_i Fy.clo.sg p (by rw [cds_len]; omega)
    refine rd_name (rd_mid (fun σ' H6 => σ' = [some (.str z), some (.str y), some (.ref ld), some (.int (HM.rk ((cds z).drop p) (H5.dep (cds y) p) ((cds y).drop p) : Int)), some (.ref l), some (.int (p : Int))] ∧ H6 = H'') (fun N' r bk ct hN => ?_) (fun σ' H6 hI => ?_))
    · walk_at "rd"
      refine rd_ite (fun e => ?_) (fun e => ?_)
      · walk_at "rd"
        refine rd_ite (fun e' => ?_) (fun e' => ?_)
        · walk_at "rd"
          refine ⟨l, L, cds z, p + 1, (H5.dep (cds y) p + 1).toNat, ?_, SqL.of hL, T, by omega, ?_⟩
          · rw [show (((H5.dep (cds y) p + 1).toNat : Nat) : Int) = H5.dep (cds y) p + 1 by omega]; rfl
          rw [show (((H5.dep (cds y) p + 1).toNat : Nat) : Int) = H5.dep (cds y) p + 1 by omega]
          walk_at "rd"
          refine hN _ _ ⟨?_, rfl⟩
          rw [hrk, if_pos ⟨e, e'⟩, Int.natCast_add, Int.add_comm]; rfl
        · refine rd_next (rd_nx (hN _ _ ⟨?_, rfl⟩))
          rw [hrk, if_neg (fun q => e' q.2), Nat.zero_add]; rfl
      · refine iteF ?_
        refine rd_next (rd_nx (hN _ _ ⟨?_, rfl⟩))
        rw [hrk, if_neg (fun q => e q.1), Nat.zero_add]; rfl
    · obtain ⟨rfl, rfl⟩ := hI
      walk_at "rd"
      refine ⟨z, p, l, L, rfl, hz, hpz, hL, T, fun l' L' H2' hS2' hl' hL' TL' => ?_⟩
      exact ⟨l', L', _, rfl, hS.trans hS2', hS3'.trans hS2', hL', TL'⟩
  · obtain ⟨l, L, v5, rfl, hS, hS3', hL, T⟩ := h
    walk_at "rd"
    have := k1 ho Fy _ hS
    rw [show (cds z).length - z.length = 0 by omega]
    exact this
end
end HF
set_option Elab.async false
set_option linter.all false
set_option maxRecDepth 100000
set_option maxHeartbeats 4000000
namespace HF
open PySem L2
def idict (es : List (Int × Int)) : List (Key × V) := es.map fun e => (Sum.inl e.1, V.int e.2)
theorem idict_len (es : List (Int × Int)) : (idict es).length = es.length := by simp [idict]
theorem valV_idict (es : List (Int × Int)) (d : Int) : valV (idict es) (Sum.inl d : Key) = (es.find? fun e => decide (e.1 = d)).map fun e => V.int e.2 := by
  induction es with
  | nil => rfl
  | cons x r ih =>
    by_cases e : x.1 = d
    · show valV ((Sum.inl x.1, V.int x.2) :: idict r) _ = _
      rw [valV_pos (by rw [e]), List.find?_cons_of_pos (by simpa using e)]
      rfl
    · show valV ((Sum.inl x.1, V.int x.2) :: idict r) _ = _
      rw [valV_neg (fun q => e (Sum.inl.inj q)), ih, List.find?_cons_of_neg (by simpa using e)]
theorem val_getI (es : List (Int × Int)) (d : Int) : (valV (idict es) (Sum.inl d : Key)).getD (.int 0) = .int (HM.getI es d) := by
  rw [valV_idict]
  unfold HM.getI
  cases es.find? fun e => decide (e.1 = d) <;> rfl
theorem putK_idict (es : List (Int × Int)) (d v : Int) : putK (idict es) (Sum.inl d : Key) (V.int v) = idict (HM.putI es d v) := by
  unfold putK HM.putI
  have e : ((idict es).any fun kv => decide (kv.1 = (Sum.inl d : Key))) = (es.any fun e => decide (e.1 = d)) := by
    unfold idict
    rw [List.any_map]
    congr 1
    funext x
    simp
  rw [e]
  by_cases h : (es.any fun e => decide (e.1 = d)) = true
  · rw [if_pos h, if_pos h]
    unfold idict
    rw [List.map_map, List.map_map]
    refine List.map_congr_left fun x _ => ?_
    simp only [Function.comp]
    by_cases q : x.1 = d
    · rw [if_pos (by rw [q]), if_pos q]
    · rw [if_neg (fun z => q (Sum.inl.inj z)), if_neg q]
  · rw [if_neg h, if_neg h]
    simp [idict]
theorem idict_at {es : List (Int × Int)} {i : Nat} {kv : Key × V} (h : (idict es)[i]? = some kv) : ∃ e, es[i]? = some e ∧ kV kv.1 = .int e.1 := by
  unfold idict at h
  rw [List.getElem?_map] at h
  cases e : es[i]? with
  | none => rw [e] at h; cases h
  | some d => rw [e] at h; cases h; exact ⟨d, rfl, rfl⟩
theorem find_at {es : List (Int × Int)} (hn : (es.map (·.1)).Nodup) {i : Nat} {e : Int × Int} (h : es[i]? = some e) : es.find? (fun x => decide (x.1 = e.1)) = some e := by
  induction es generalizing i with
  | nil => simp at h
  | cons x r ih =>
    rw [List.map_cons, List.nodup_cons] at hn
    cases i with
    | zero => simp at h; subst h; rw [List.find?_cons_of_pos (by simp)]
    | succ i =>
      simp only [List.getElem?_cons_succ] at h
      have : x.1 ≠ e.1 := fun q => hn.1 (by rw [q]; exact List.mem_map.mpr ⟨e, List.mem_of_getElem? h, rfl⟩)
      rw [List.find?_cons_of_neg (by simpa using this)]
      exact ih hn.2 h
theorem rd_dget {σ : St} {H : Hp} {Q : VK} {td ty : TE} (h : td σ H fun x H1 => ty σ H1 fun y H2 => ∃ a v, x = .ref a ∧ DGet H2 a y (some v) ∧ Q v H2) : tDGet td ty σ H Q := h
theorem rd_dget2 {σ : St} {H : Hp} {Q : VK} {td ty tx : TE} (h : td σ H fun x H1 => ∃ a, x = .ref a ∧ IsD H1 a ∧ ty σ H1 fun y H2 => tx σ H2 fun z H3 => ∃ o, DGet H3 a y o ∧ Q (o.getD z) H3) : tDGet2 td ty tx σ H Q := h
section
variable {P : Program} {w : World} {K : PySem.W.Frag} {mg : Str → Option Value} {base : Heap} {CB C_BadRow C_NoFilling C_BadNumber CT CP : Addr}
abbrev s__law_many : Stmt := top 40
theorem sc__law_many : FnScope ["_law_row_here", "_law_ways", "_law_sign", "_law_now", "_law_depth"] ["_law_row_here"] (defScope s__law_many) := ⟨rfl, rfl, rfl, by decide +kernel, rfl, by decide +kernel, by decide +kernel⟩
def sp_law_many : Sp := fun vs H Q _ => ∃ z, vs = [.str z] ∧ z.length ≤ 900 ∧ ∀ H', Same H H' → Q (.int (HM.ways (cds z) 0 : Int)) H'
def ManI (z : Str) (H : Hp) (i : Nat) (σ : St) (H' : Hp) : Prop :=
  ∃ (ld : Addr) (es : List (Int × Int)) (v2 v3 v4 : Option V), σ = [some (.str z), some (.ref ld), v2, v3, v4] ∧ Same H H' ∧ H ld = none ∧ Rd H' ld (.dK (idict es)) ∧ (es.map (·.1)).Nodup ∧ (∀ d : Int, d ∈ es.map (·.1) → 0 ≤ d ∧ d ≤ (i : Int)) ∧ HM.wsum ((cds z).drop i) es = (HM.ways (cds z) 0 : Int)
def ManJ (z : Str) (ld ln : Addr) (c i : Nat) (es : List (Int × Int)) (H2 : Hp) (k : Nat) (σ : St) (H' : Hp) : Prop :=
  ∃ (ns : List (Int × Int)) (v4 : Option V), σ = [some (.str z), some (.ref ld), some (.str ⟨#[c]⟩), some (.ref ln), v4] ∧ H' = upd H2 ln (.dK (idict ns)) ∧ (ns.map (·.1)).Nodup ∧ (∀ d : Int, d ∈ ns.map (·.1) → 0 ≤ d ∧ d ≤ (i : Int) + 1) ∧ HM.wsum ((cds z).drop (i + 1)) ns = HM.wsum ((cds z).drop i) (es.take k)
theorem ok__law_many {f : Addr} (D : Def K mg "_law_many" s__law_many f ["_law_row_here"]) : Cal P w K mg base CX0 1 "_law_many" f ["_law_row_here"] sp_law_many := by
  refine D.ok sc__law_many (fun vs H Q E h => by obtain ⟨z, rfl, _⟩ := h; rfl) (fun cdv A outer s H vs Q E hr h => ?_)
  obtain ⟨z, rfl, hz, k⟩ := h
  have hzl : (cds z).length = z.length := cds_len z
  refine ⟨_, (pss_cons (ps_set (i := 1) sc__law_many.nd rfl (Or.inl rfl) (pe_disp (pps_cons pe_int pe_int pps_nil) rfl rfl (fun h => nomatch h) (Nat.le_of_ble_eq_true rfl)))
    (pss_cons (ps_for PassesOwn.never rfl (pi_str (pv 0)) (pg_name (i := 2) sc__law_many.nd rfl (Or.inl rfl))
      (pss_cons (ps_set (i := 3) sc__law_many.nd rfl (Or.inl rfl) pe_dnewK)
    (pss_cons (ps_for PassesOwn.never rfl (pi_keys (pv 1)) (pg_name (i := 4) sc__law_many.nd rfl (Or.inl rfl))
      (pss_cons (ps_if (pt_cmpR op_ne (pv 2) pe_str (nomark _)) (pss_one (ps_dput (hu_of hr) (pv 3) (pe_op op_add (pv 4) pe_int) (pe_op op_add (pe_dget2 (hu_of hr) (pv 3) (pe_op op_add (pv 4) pe_int) pe_int ⟨rfl, rfl, rfl, rfl⟩) (pe_dget (hu_of hr) (pv 1) (pv 4) (fun _ _ => rfl))) (by rfl))) pss_nil)
    (pss_one (ps_if (PW.pt (pw_and (pt_cmpR op_ne (pv 2) pe_str (nomark _)) (pw_and1 (pt_cmpR op_gt (pv 4) pe_int (nomark _))))) (pss_one (ps_dput (hu_of hr) (pv 3) (pe_op op_sub (pv 4) pe_int) (pe_op op_add (pe_dget2 (hu_of hr) (pv 3) (pe_op op_sub (pv 4) pe_int) pe_int ⟨rfl, rfl, rfl, rfl⟩) (pe_dget (hu_of hr) (pv 1) (pv 4) (fun _ _ => rfl))) (by rfl))) pss_nil))))
    (pss_one (ps_set (i := 1) sc__law_many.nd rfl (Or.inl rfl) (pv 3))))))
    (pss_one (ps_ret (pe_dget2 (hu_of hr) (pv 1) pe_int pe_int ⟨rfl, rfl, rfl, rfl⟩))))), ?_⟩
  walk_at "rd"
  intro p0 hp0
  refine ⟨upd_same, [(Sum.inl 0, V.int 1)], rfl, by decide, ?_⟩
  have e0 : mergeK [] ([(Sum.inl 0, V.int 1)] : List (Key × V)) = idict [(0, 1)] := rfl
  rw [e0, upd_upd]
  have hP0 : (upd H p0 (.dK (idict [(0, 1)]))) p0 = some (.dK (idict [(0, 1)])) := upd_same
  have hS0 : Same H (upd H p0 (.dK (idict [(0, 1)]))) := same_new hp0
  generalize upd H p0 (.dK (idict [(0, 1)])) = H0 at hP0 hS0
  walk_at "rd"
  refine for_str (ManI z H) ⟨p0, [(0, 1)], none, none, none, rfl, hS0, hp0, .inl hP0, by simp, (fun d hd => by simp at hd; omega), by simp [HM.wsum]⟩ (fun i c σ H1 hc h => ?_) (fun σ H1 h => ?_)
  · obtain ⟨ld, es, v2, v3, v4, rfl, hS, hld, hD, hnd, hky, hw⟩ := h
    have hc' := cds_at hc
    have hi : i < z.length := cds_lt hc'
    have hesl : es.length ≤ 901 := by
      have := nodup_short 901 (es.map (·.1)) hnd fun x hx => by have := hky x hx; omega
      rw [List.length_map] at this; exact this
    walk_at "rd"
    intro ln hln
    have hln0 : H ln = none := hS.free hln
    have nld : ld ≠ ln := rd_none hD hln
    walk_at "rd"
    refine rd_keys ?_
    walk_at "rd"
    refine ⟨ld, idict es, rfl, rd_dict_upd hD nld, fun o => ?_⟩
    have hF2 : (upd (upd H1 ln (.dK [])) ld (.frz o (.dK (idict es)))) ld = some (.frz o (.dK (idict es))) := upd_same
    have hN2 : (upd (upd H1 ln (.dK [])) ld (.frz o (.dK (idict es)))) ln = some (.dK (idict [])) := by rw [upd_ne (Ne.symm nld), upd_same]; rfl
    have hS2 : Same H (upd (upd H1 ln (.dK [])) ld (.frz o (.dK (idict es)))) := same_upd (same_upd hS hln0) hld
    generalize upd (upd H1 ln (.dK [])) ld (.frz o (.dK (idict es))) = H2 at hF2 hN2 hS2
    refine for_gen (idict es).length (ManJ z ld ln c i es H2) ⟨[], v4, rfl, ?_, .nil, (fun d hd => nomatch hd), rfl⟩ (fun kk σ H' hk h => ?_) (fun σ H' h => ?_) (fun kk σ H' x H'' hk h y => ?_) (fun σ H' h => ?_)
    · funext b
      by_cases q : b = ln
      · subst q; rw [upd_same, hN2]
      · rw [upd_ne q]
    · obtain ⟨ns, u4, rfl, rfl, _⟩ := h
      exact ⟨hk, by rw [upd_ne nld]; exact hF2⟩
    · obtain ⟨ns, u4, rfl, rfl, _⟩ := h
      exact ⟨Nat.le_refl _, by rw [upd_ne nld]; exact hF2⟩
    · obtain ⟨ns, u4, rfl, rfl, hnn, hnk, hnw⟩ := h
      obtain ⟨rfl, kv, hkv, rfl⟩ := y
      obtain ⟨e, he, ed⟩ := idict_at hkv
      obtain ⟨d, v⟩ := e
      rw [ed]
      have hdk := hky d (List.mem_map.mpr ⟨_, List.mem_of_getElem? he, rfl⟩)
      have hget : ∀ H3 : Hp, H3 ld = some (.frz o (.dK (idict es))) → DGet H3 ld (.int d) (some (.int v)) := fun H3 h3 => .inl ⟨idict es, Sum.inl d, .inr ⟨o, h3⟩, rfl, by rw [valV_idict, find_at hnd he]; rfl⟩
      have hlen : ∀ m : List (Int × Int), (m.map (·.1)).Nodup → (∀ x : Int, x ∈ m.map (·.1) → 0 ≤ x ∧ x ≤ (i : Int) + 1) → m.length ≤ 902 := fun m h1 h2 => by
        have := nodup_short 902 (m.map (·.1)) h1 fun x hx => by have := h2 x hx; omega
        rw [List.length_map] at this; exact this
      have put : ∀ (m : List (Int × Int)) (x : Int), (m.map (·.1)).Nodup → (∀ q : Int, q ∈ m.map (·.1) → 0 ≤ q ∧ q ≤ (i : Int) + 1) → 0 ≤ x → x ≤ i + 1 →
          ((HM.putI m x (HM.getI m x + v)).map (·.1)).Nodup ∧ (∀ q : Int, q ∈ (HM.putI m x (HM.getI m x + v)).map (·.1) → 0 ≤ q ∧ q ≤ (i : Int) + 1) ∧ HM.wsum ((cds z).drop (i + 1)) (HM.putI m x (HM.getI m x + v)) = HM.wsum ((cds z).drop (i + 1)) m + v * (HM.ways ((cds z).drop (i + 1)) x : Int) := fun m x h1 h2 h3 h4 =>
        ⟨HM.put_nodup h1, fun q hq => by
          rcases HM.mem_put.mp hq with z | z
          · exact h2 q z
          · omega, HM.wsum_put _ m x v h1⟩
      have hturn : HM.wsum ((cds z).drop i) (es.take (kk + 1)) = HM.wsum ((cds z).drop i) (es.take kk) + v * (HM.ways ((cds z).drop i) d : Int) := by
        rw [List.take_add_one, he, HM.wsum_app]
        simp [HM.wsum]
      rw [HM.drop_at hc', HM.wsum_turn _ hdk.1, ← HM.drop_at hc'] at hturn
      refine rd_name (rd_mid (fun σ' H3 => ∃ ns1 : List (Int × Int), σ' = [some (.str z), some (.ref ld), some (.str ⟨#[c]⟩), some (.ref ln), some (.int d)] ∧ H3 = upd H2 ln (.dK (idict ns1)) ∧ (ns1.map (·.1)).Nodup ∧ (∀ q : Int, q ∈ ns1.map (·.1) → 0 ≤ q ∧ q ≤ (i : Int) + 1) ∧ HM.wsum ((cds z).drop (i + 1)) ns1 = HM.wsum ((cds z).drop (i + 1)) ns + (if c ≠ 41 then v * (HM.ways ((cds z).drop (i + 1)) (d + 1) : Int) else 0)) (fun N' r bk ct hN => ?_) (fun σ' H3 hI => ?_))
      · walk_at "rd"
        refine rd_iteN (fun e => ?_) (fun e => ?_)
        · obtain ⟨q1, q2, q3⟩ := put ns (d + 1) hnn hnk (by omega) (by omega)
          refine rd_dput ?_
          walk_at "rd"
          refine rd_dget2 ?_
          walk_at "rd"
          refine ⟨ln, rfl, .inl ⟨_, .inl upd_same⟩, ?_⟩
          walk_at "rd"
          refine ⟨_, .inl ⟨_, Sum.inl (d + 1), .inl upd_same, rfl, rfl⟩, ?_⟩
          rw [val_getI]
          refine rd_dget ?_
          walk_at "rd"
          refine ⟨ld, .int v, rfl, hget _ (by rw [upd_ne nld]; exact hF2), ?_⟩
          walk_at "rd"
          refine ⟨ln, _, rfl, .inl ⟨_, Sum.inl (d + 1), upd_same, rfl, by rw [idict_len]; exact small1000 (by have := hlen ns hnn hnk; omega), rfl⟩, ?_⟩
          rw [putK_idict, upd_upd]
          exact rd_nx (hN _ _ ⟨_, rfl, rfl, q1, q2, by rw [q3, if_pos e]⟩)
        · exact rd_next (rd_nx (hN _ _ ⟨ns, rfl, rfl, hnn, hnk, by rw [if_neg (fun q => q e), Int.add_zero]⟩))
      · obtain ⟨ns1, rfl, rfl, hn1, hk1, hw1⟩ := hI
        walk_at "rd"
        have fin : ∀ ns2 : List (Int × Int), (ns2.map (·.1)).Nodup → (∀ q : Int, q ∈ ns2.map (·.1) → 0 ≤ q ∧ q ≤ (i : Int) + 1) → HM.wsum ((cds z).drop (i + 1)) ns2 = HM.wsum ((cds z).drop (i + 1)) ns1 + (if c ≠ 40 ∧ d > 0 then v * (HM.ways ((cds z).drop (i + 1)) (d - 1) : Int) else 0) → ManJ z ld ln c i es H2 (kk + 1) [some (.str z), some (.ref ld), some (.str ⟨#[c]⟩), some (.ref ln), some (.int d)] (upd H2 ln (.dK (idict ns2))) := fun ns2 a b w =>
          ⟨ns2, _, rfl, rfl, a, b, by rw [w, hw1, hnw, hturn]; omega⟩
        refine rd_iteN (fun e => ?_) (fun e => ?_)
        · walk_at "rd"
          refine rd_ite (fun e2 => ?_) (fun e2 => ?_)
          · obtain ⟨q1, q2, q3⟩ := put ns1 (d - 1) hn1 hk1 (by omega) (by omega)
            refine rd_dput ?_
            walk_at "rd"
            refine rd_dget2 ?_
            walk_at "rd"
            refine ⟨ln, rfl, .inl ⟨_, .inl upd_same⟩, ?_⟩
            walk_at "rd"
            refine ⟨_, .inl ⟨_, Sum.inl (d - 1), .inl upd_same, rfl, rfl⟩, ?_⟩
            rw [val_getI]
            refine rd_dget ?_
            walk_at "rd"
            refine ⟨ld, .int v, rfl, hget _ (by rw [upd_ne nld]; exact hF2), ?_⟩
            walk_at "rd"
            refine ⟨ln, _, rfl, .inl ⟨_, Sum.inl (d - 1), upd_same, rfl, by rw [idict_len]; exact small1000 (by have := hlen ns1 hn1 hk1; omega), rfl⟩, ?_⟩
            rw [putK_idict, upd_upd]
            exact rd_nx (fin _ q1 q2 (by rw [q3, if_pos ⟨e, e2⟩]))
          · exact rd_next (rd_nx (fin ns1 hn1 hk1 (by rw [if_neg (fun q => e2 q.2), Int.add_zero])))
        · refine iteF ?_
          exact rd_next (rd_nx (fin ns1 hn1 hk1 (by rw [if_neg (fun q => q.1 e), Int.add_zero])))
    · obtain ⟨ns, u4, rfl, rfl, hnn, hnk, hnw⟩ := h
      walk_at "rd"
      refine ⟨ln, ns, _, _, _, rfl, same_upd hS2 hln0, hln0, .inl upd_same, hnn, (fun d hd => by have := hnk d hd; omega), ?_⟩
      rw [hnw, idict_len, List.take_length]
      exact hw
  · obtain ⟨ld, es, v2, v3, v4, rfl, hS, hld, hD, hnd, hky, hw⟩ := h
    walk_at "rd"
    refine rd_dget2 ?_
    walk_at "rd"
    refine ⟨ld, rfl, .inl ⟨_, hD⟩, ?_⟩
    walk_at "rd"
    refine ⟨_, .inl ⟨_, Sum.inl 0, hD, rfl, rfl⟩, ?_⟩
    rw [val_getI, ← HM.wsum_end es hnd]
    have e1 : (cds z).drop z.cps.size = [] := List.drop_eq_nil_of_le (by rw [hzl]; exact Nat.le_refl _)
    rw [e1] at hw
    rw [hw]
    exact k _ hS
end
end HF
set_option Elab.async false
set_option linter.all false
set_option maxRecDepth 100000
set_option maxHeartbeats 8000000
namespace HF
open PySem L2
/-- the classes of the refusals, by their names -/
structure XcT (K : PySem.W.Frag) (mg : Str → Option Value) (CB CR CN CM CT CP : Addr) : Prop where
  xB : XC K CB
  mB : mg "BracketError" = some (.ref CB)
  mR : mg "BadRow" = some (.ref CR)
  mN : mg "NoFilling" = some (.ref CN)
  mM : mg "BadNumber" = some (.ref CM)
  mT : mg "BadText" = some (.ref CT)
  mP : mg "BadPrices" = some (.ref CP)
/-- what a refusal is an object of -/
structure XcK (K : PySem.W.Frag) (CB CR CN CM CT CP C : Addr) (bR bN bM bT bP : Bool) : Prop where
  xa : XA K C
  mB : PySem.W.mroIn K C (.ref CB) = some true
  kR : PySem.W.kitOne K (.ref C) (.ref CR) = some bR
  kN : PySem.W.kitOne K (.ref C) (.ref CN) = some bN
  kM : PySem.W.kitOne K (.ref C) (.ref CM) = some bM
  kT : PySem.W.kitOne K (.ref C) (.ref CT) = some bT
  kP : PySem.W.kitOne K (.ref C) (.ref CP) = some bP
  kV : PySem.W.kitOne K (.ref C) (.type "ValueError") = some true
section
variable {P : Program} {w : World} {K : PySem.W.Frag} {mg : Str → Option Value} {base : Heap} {CB C_BadRow C_NoFilling C_BadNumber C_BadText CP : Addr}
abbrev s__law_refused : Stmt := top 41
theorem sc__law_refused : FnScope ["_law_row_here", "_law_number", "_law_due", "error", "_law_found", "_law_others"] ["_law_row_here", "_law_number", "_law_due"] (defScope s__law_refused) := ⟨rfl, rfl, rfl, by decide +kernel, rfl, by decide +kernel, by decide +kernel⟩
def sp_law_refused : Sp := fun vs H Q _ => ∃ (z : Str) (n : Int) (l : Addr) (d1 d2 : Bool), vs = [.str z, .int n, .ref l] ∧ H l = some (.lst [.bl d1, .bl d2]) ∧ z.length ≤ 900 ∧ (cds z).all okc = true ∧
  ((¬ HM.Fb (cds z) ∧ d1 = false ∧ d2 = true) ∨ (HM.Fb (cds z) ∧ (n < 0 ∨ (HM.ways (cds z) 0 : Int) ≤ n) ∧ d1 = true ∧ d2 = false)) ∧ ∀ H', Same H H' → Q (.bl true) H'
theorem ok__law_refused {f f_told : Addr} (D : Def K mg "_law_refused" s__law_refused f ["_law_row_here", "_law_number", "_law_due"]) (B : Bl mg) (T : XcT K mg CB C_BadRow C_NoFilling C_BadNumber C_BadText CP)
    (KN : XcK K CB C_BadRow C_NoFilling C_BadNumber C_BadText CP C_NoFilling false true false false false) (KM : XcK K CB C_BadRow C_NoFilling C_BadNumber C_BadText CP C_BadNumber false false true false false)
    (G_told : Cal P w K mg base (CXe P w) 5 "told" f_told ["row", "number"] (sp_told C_BadRow C_NoFilling C_BadNumber)) :
    Cal P w K mg base CX0 6 "_law_refused" f ["_law_row_here", "_law_number", "_law_due"] sp_law_refused := by
  refine D.ok sc__law_refused (fun vs H Q E h => by obtain ⟨z, n, l, d1, d2, rfl, _⟩ := h; rfl) (fun cdv A outer s H vs Q E hr h => ?_)
  obtain ⟨z, n, ld, d1, d2, rfl, hld, hz, ok, hcase, k⟩ := h
  obtain ⟨fd, F1, b1⟩ := G_told.ex
  refine ⟨_, pss_cons (ps_tryAs (i := 3) rfl rfl rfl sc__law_refused.nd rfl rfl T.xB rfl T.mB
      (psb_expr (peb_call F1 (hr.mono (by decide)) rfl G_told.at_ G_told.kp b1 (pa_cons (pv 0) (pa_cons (pv 1) pa_nil))))
      (fun a => pss_cons (ps_set (i := 4) sc__law_refused.nd rfl (Or.inl rfl) (pe_lst
          (pa_cons (pe_callB call_isiX rfl B.isinstance (by decide +kernel) (pa_cons (pv 3) (pa_cons (pe_glob (v := .ref C_BadNumber) rfl T.mM rfl) pa_nil)))
          (pa_cons (pe_callB call_isiX rfl B.isinstance (by decide +kernel) (pa_cons (pv 3) (pa_cons (pe_glob (v := .ref C_NoFilling) rfl T.mN rfl) pa_nil))) pa_nil))))
        (pss_cons (ps_set (i := 5) sc__law_refused.nd rfl (Or.inl rfl) (pe_lst
          (pa_cons (pe_callB call_isiX rfl B.isinstance (by decide +kernel) (pa_cons (pv 3) (pa_cons (pe_glob (v := .ref CP) rfl T.mP rfl) pa_nil)))
          (pa_cons (pe_callB call_isiX rfl B.isinstance (by decide +kernel) (pa_cons (pv 3) (pa_cons (pe_glob (v := .ref C_BadRow) rfl T.mR rfl) pa_nil)))
          (pa_cons (pe_callB call_isiX rfl B.isinstance (by decide +kernel) (pa_cons (pv 3) (pa_cons (pe_glob (v := .ref C_BadText) rfl T.mT rfl) pa_nil))) pa_nil)))))
        (pss_one (ps_ret (pe_and (pe_cmpR (op_cmpLK (K := K) rfl (show (A.deeper (PyProof.Rows.envOfC "_law_refused" (defScope s__law_refused) s.heap.objs.size f cdv)).units < cLine from hu1 hr)) (pv 4) (pv 2) (nomark _))
          (pe_and (pe_callB call_isiX rfl B.isinstance (by decide +kernel) (pa_cons (pv 3) (pa_cons (pe_bltn (v := .ty "ValueError") rfl B.ValueError (by decide +kernel) rfl) pa_nil)))
          (pe_one (pe_not (pe_callB call_anyH rfl B.any (by decide +kernel) (pa_cons (pv 5) pa_nil)))))))))))
    (pss_one (ps_ret pe_bl)), ?_⟩
  refine ⟨fun cls d H' => ((cls = .ref C_NoFilling ∧ d1 = false ∧ d2 = true) ∨ (cls = .ref C_BadNumber ∧ d1 = true ∧ d2 = false)) ∧ Same H H', ?_, fun a cls H' hE hn => ?_⟩
  · refine ⟨_, rfl, _, rfl, z, n, rfl, hz, (fun _ F h0 h1 => ?_), (fun q => by rw [ok] at q; cases q), (fun _ nF H' hS => ⟨.inl ⟨rfl, ?_⟩, hS⟩), (fun _ F _ H' hS => ⟨.inr ⟨rfl, ?_⟩, hS⟩)⟩
    · rcases hcase with ⟨nF, _⟩ | ⟨_, hn, _⟩
      · exact absurd F nF
      · omega
    · rcases hcase with ⟨_, e⟩ | ⟨F, _⟩
      · exact e
      · exact absurd F nF
    · rcases hcase with ⟨nF, _⟩ | ⟨_, _, e⟩
      · exact absurd F nF
      · exact e
  obtain ⟨hE, hS⟩ := hE
  obtain ⟨C, bN, bM, rfl, KC, e1, e2⟩ : ∃ (C : Addr) (bN bM : Bool), cls = .ref C ∧ XcK K CB C_BadRow C_NoFilling C_BadNumber C_BadText CP C false bN bM false false ∧ d1 = bM ∧ d2 = bN := by
    rcases hE with ⟨rfl, e1, e2⟩ | ⟨rfl, e1, e2⟩
    · exact ⟨_, _, _, rfl, KN, e1, e2⟩
    · exact ⟨_, _, _, rfl, KM, e1, e2⟩
  subst e1 e2
  have xa : (upd H' a (xo a (.ref C))) a = some (xo a (.ref C)) := upd_same
  have h1 : H a = none := hS.free hn
  have hS1 : Same H (upd H' a (xo a (.ref C))) := same_upd hS h1
  generalize upd H' a (xo a (.ref C)) = H1 at xa hS1
  refine ⟨C, rfl, KC.mB, ?_⟩
  refine ⟨_, rfl, a, C, _, _, _, rfl, rfl, xa, KC.xa, KC.kM, _, rfl, a, C, _, _, _, rfl, rfl, xa, KC.xa, KC.kN, ?_⟩
  refine ⟨by show 2 ≤ sizeLine; decide, fun l hl => ?_⟩
  have xa2 : (upd H1 l (.lst [.bl d1, .bl d2])) a = some (xo a (.ref C)) := by rw [upd_ne (ne_of_none xa hl)]; exact xa
  have hS2 : Same H (upd H1 l (.lst [.bl d1, .bl d2])) := same_upd hS1 (hS1.free hl)
  have hl2 : (upd H1 l (.lst [.bl d1, .bl d2])) l = some (.lst [.bl d1, .bl d2]) := upd_same
  generalize upd H1 l (.lst [.bl d1, .bl d2]) = H2 at xa2 hS2 hl2
  refine ⟨_, rfl, a, C, _, _, _, rfl, rfl, xa2, KC.xa, KC.kP, _, rfl, a, C, _, _, _, rfl, rfl, xa2, KC.xa, KC.kR, _, rfl, a, C, _, _, _, rfl, rfl, xa2, KC.xa, KC.kT, ?_⟩
  refine ⟨by show 3 ≤ sizeLine; decide, fun m hm => ?_⟩
  have xa3 : (upd H2 m (.lst [.bl false, .bl false, .bl false])) a = some (xo a (.ref C)) := by rw [upd_ne (ne_of_none xa2 hm)]; exact xa2
  have hS3 : Same H (upd H2 m (.lst [.bl false, .bl false, .bl false])) := same_upd hS2 (hS2.free hm)
  have hl3 : (upd H2 m (.lst [.bl false, .bl false, .bl false])) l = some (.lst [.bl d1, .bl d2]) := by rw [upd_ne (ne_of_none hl2 hm)]; exact hl2
  have hm3 : (upd H2 m (.lst [.bl false, .bl false, .bl false])) m = some (.lst [.bl false, .bl false, .bl false]) := upd_same
  generalize upd H2 m (.lst [.bl false, .bl false, .bl false]) = H3 at xa3 hS3 hl3 hm3
  refine ⟨_, rfl, _, rfl, rd_cmpEq (SqL.of hl3) (SqL.of (hS3 _ _ hld)) (fun i u v hu hv => ?_) ⟨_, rfl, ?_⟩⟩
  · have hb : ∀ {i : Nat} {u : V}, [V.bl d1, V.bl d2][i]? = some u → ∃ b, u = .bl b := fun h => by
      have := List.mem_of_getElem? h
      simp only [List.mem_cons, List.not_mem_nil, or_false] at this
      rcases this with rfl | rfl <;> exact ⟨_, rfl⟩
    obtain ⟨_, rfl⟩ := hb hu
    obtain ⟨_, rfl⟩ := hb hv
    rfl
  rw [show eqs [V.bl d1, V.bl d2] [V.bl d1, V.bl d2] = true by cases d1 <;> cases d2 <;> rfl]
  refine iteT ?_
  refine ⟨_, rfl, a, C, _, _, _, rfl, rfl, xa3, KC.xa, KC.kV, _, rfl, iteT ?_⟩
  exact ⟨_, rfl, m, [false, false, false], a, .ref C, rfl, rfl, xa3, SqL.of hm3, _, rfl, k _ hS3⟩
abbrev s_law : Stmt := top 42
theorem sc_law : FnScope ["_law_script", "_law_row_here", "_law_many_here", "_law_mixed", "_law_texts", "_law_number", "_law_text"] ["_law_script"] (defScope s_law) := ⟨rfl, rfl, rfl, by decide +kernel, rfl, by decide +kernel, by decide +kernel⟩
def sp_law (K : PySem.W.Frag) : Sp := fun vs H Q _ => ∃ (a : Addr) (ns : List Int), vs = [.ref a] ∧ SqL K H a (ns.map V.int) ∧ ns.length ≤ 63 ∧ ∀ H', Q (.bl true) H'
theorem lx_lt : ∀ {t u : List Nat}, HM.lx t u → t < u
  | x :: t, y :: u, h => by
    rcases h with ⟨rfl, rfl⟩ | ⟨rfl, h⟩
    · exact List.cons_lt_cons_iff.mpr (.inl (by decide))
    · exact List.cons_lt_cons_iff.mpr (.inr ⟨rfl, lx_lt h⟩)
  | [], _, h => h.elim
  | _ :: _, [], h => h.elim
/-- the texts that the loop has told -/
def LawT (z : Str) (ms : List Int) (us : List Str) (i : Nat) : Prop := us.length = i ∧ ∀ (j : Nat) (u : Str) (m : Int), us[j]? = some u → ms[j]? = some m → u.length = z.length ∧ HM.Fil (cds z) (cds u) ∧ (HM.rk (cds z) 0 (cds u) : Int) = m
theorem LawT.snoc {z : Str} {ms : List Int} {us : List Str} {i : Nat} {y : Str} {m : Int} (h : LawT z ms us i) (hm : ms[i]? = some m) (h1 : y.length = z.length) (h2 : HM.Fil (cds z) (cds y)) (h3 : (HM.rk (cds z) 0 (cds y) : Int) = m) : LawT z ms (us ++ [y]) (i + 1) := by
  refine ⟨by rw [List.length_append, h.1]; rfl, fun j u m' hu hm' => ?_⟩
  by_cases e : j < us.length
  · rw [List.getElem?_append_left e] at hu
    exact h.2 j u m' hu hm'
  · have hj := (List.getElem?_eq_some_iff.mp hu).1
    rw [List.length_append, List.length_singleton] at hj
    have hji : j = i := by have := h.1; omega
    subst hji
    rw [List.getElem?_append_right (by omega), h.1, Nat.sub_self] at hu
    cases hu
    rw [hm] at hm'
    cases hm'
    exact ⟨h1, h2, h3⟩
theorem str_at {us : List Str} {j : Nat} (h : j < us.length) : ∃ u, us[j]? = some u ∧ (us.map V.str)[j]? = some (.str u) := ⟨us[j], List.getElem?_eq_getElem h, by rw [List.getElem?_map, List.getElem?_eq_getElem h]; rfl⟩
theorem ok_law {f f__law_row f_how_many f__law_many f__law_refused f_told f__law_filling f_number_of f_first f_last : Addr} {fd : FuncData} (F : Fun K "law" "law" s_law f fd) (B : Bl mg)
    (G__law_row : Cal P w K mg base CX0 1 "_law_row" f__law_row ["_law_script"] (sp_law_row K)) (G_how_many : Cal P w K mg base (CXe P w) 3 "how_many" f_how_many ["row"] (sp_how_many C_BadRow)) (G__law_many : Cal P w K mg base CX0 1 "_law_many" f__law_many ["_law_row_here"] sp_law_many)
    (G__law_refused : Cal P w K mg base CX0 6 "_law_refused" f__law_refused ["_law_row_here", "_law_number", "_law_due"] sp_law_refused) (G_told : Cal P w K mg base (CXe P w) 5 "told" f_told ["row", "number"] (sp_told C_BadRow C_NoFilling C_BadNumber))
    (G__law_filling : Cal P w K mg base CX0 2 "_law_filling" f__law_filling ["_law_row_here", "_law_text"] sp_law_filling) (G_number_of : Cal P w K mg base (CXe P w) 5 "number_of" f_number_of ["row", "text"] (sp_number_of C_BadRow C_NoFilling C_BadText))
    (G_first : Cal P w K mg base (CXe P w) 5 "first" f_first ["row"] (sp_first C_BadRow C_NoFilling)) (G_last : Cal P w K mg base (CXe P w) 5 "last" f_last ["row"] (sp_last C_BadRow C_NoFilling)) :
    FnOk P w K mg base CX0 7 f fd ["_law_script"] (sp_law K) := by
  refine F.ok sc_law (fun vs H Q E h => by obtain ⟨a, ns, rfl, _⟩ := h; rfl) (fun cdv A outer s H vs Q E hr h => ?_)
  obtain ⟨a, ns, rfl, ha, h63, k⟩ := h
  refine ⟨_, (pss_cons (ps_set (i := 1) sc_law.nd rfl (Or.inl rfl) (pe_callC G__law_row (hr.mono (by decide)) rfl pass0 (pa_cons (pv 0) pa_nil)))
    (pss_cons (ps_set (i := 2) sc_law.nd rfl (Or.inl rfl) (pe_callC G_how_many (hr.mono (by decide)) rfl passN (pa_cons (pv 1) pa_nil)))
    (pss_cons (ps_if (PW.pt (pw_or (pt_val (pe_callB (call_isiK (K := K) rfl) rfl B.isinstance (by decide +kernel) (pa_cons (pv 2) (pa_cons (pe_bltn (v := .ty "bool") rfl B.bool (by decide +kernel) rfl) pa_nil)))) (pw_or (pt_not (pt_val (pe_callB (call_isiK (K := K) rfl) rfl B.isinstance (by decide +kernel) (pa_cons (pv 2) (pa_cons (pe_bltn (v := .ty "int") rfl B.int (by decide +kernel) rfl) pa_nil))))) (pw_or1 (pt_cmpR op_ne (pv 2) (pe_callC G__law_many (hr.mono (by decide)) rfl pass0 (pa_cons (pv 1) pa_nil)) (nomark _)))))) (pss_one (ps_ret pe_bl)) pss_nil)
    (pss_cons (ps_if (pt_cmpR op_eq (pv 2) pe_int (nomark _)) (pss_one (ps_ret (pe_callC G__law_refused (hr.mono (by decide)) rfl pass0 (pa_cons (pv 1) (pa_cons pe_int (pa_cons (pe_lst (pa_cons pe_bl (pa_cons pe_bl pa_nil))) pa_nil)))))) pss_nil)
    (pss_cons (ps_if (PW.pt (pw_or (pt_not (pt_val (pe_callC G__law_refused (hr.mono (by decide)) rfl pass0 (pa_cons (pv 1) (pa_cons (pv 2) (pa_cons (pe_lst (pa_cons pe_bl (pa_cons pe_bl pa_nil))) pa_nil)))))) (pw_or1 (pt_not (pt_val (pe_callC G__law_refused (hr.mono (by decide)) rfl pass0 (pa_cons (pv 1) (pa_cons (pe_un un_neg pe_int) (pa_cons (pe_lst (pa_cons pe_bl (pa_cons pe_bl pa_nil))) pa_nil))))))))) (pss_one (ps_ret pe_bl)) pss_nil)
    (pss_cons (ps_set (i := 3) sc_law.nd rfl (Or.inl rfl) (pe_callB (call_sumK (K := K) rfl rfl) rfl B.sum (by decide +kernel) (pa_cons (pv 0) pa_nil)))
    (pss_cons (ps_set (i := 4) sc_law.nd rfl (Or.inr rfl) (pe_lst pa_nil))
    (pss_cons (ps_for PassesOwn.never rfl (pi_listK (K := K) rfl (pe_callB (call_sorted (P := P) (w := w) rfl rfl rfl) rfl B.sorted (by decide +kernel) (pa_cons (pe_callTy (call_set (P := P) (w := w) rfl rfl rfl) rfl B.set (by decide +kernel) (pa_cons (pe_lst (pa_cons pe_int (pa_cons (pe_op op_sub (pv 2) pe_int) (pa_cons (pe_op op_mod (pv 3) (pv 2)) pa_nil)))) pa_nil)) pa_nil))) (pg_name (i := 5) sc_law.nd rfl (Or.inl rfl))
      (pss_cons (ps_set (i := 6) sc_law.nd rfl (Or.inl rfl) (pe_callC G_told (hr.mono (by decide)) rfl passN (pa_cons (pv 1) (pa_cons (pv 5) pa_nil))))
    (pss_cons (ps_if (PW.pt (pw_or (pt_not (pt_val (pe_callC G__law_filling (hr.mono (by decide)) rfl pass0 (pa_cons (pv 1) (pa_cons (pv 6) pa_nil))))) (pw_or1 (pt_cmpR op_ne (pe_callC G_number_of (hr.mono (by decide)) rfl passN (pa_cons (pv 1) (pa_cons (pv 6) pa_nil))) (pv 5) (nomark _))))) (pss_one (ps_ret pe_bl)) pss_nil)
    (pss_one (ps_expr (pe_bmK (K := K) rfl PySem.F.plainAttrs_list PySem.F.slot_list_append PySem.F.type_list_append mt_append (pv 4) (pa_cons (pv 6) pa_nil)))))))
    (pss_cons (ps_if (pt_val (pe_callB (call_anyK (K := K) rfl rfl) rfl B.any (by decide +kernel) (pa_cons (pe_lcomp (N := ["_law_at", "_law_texts"]) (js := [none, some 4]) rfl (pi_range1 rfl B.range (pa_cons (pe_op op_sub (pe_callB (call_lenK (K := K) rfl) rfl B.len PySem.boot_len (pa_cons (pv 4) pa_nil)) pe_int) pa_nil)) (fun _ _ _ _ => (pg_name (i := 0) (show (["_law_at", "_law_texts"] : List Str).Nodup by decide +kernel) rfl (Or.inl rfl) (.inr rfl))) (fun _ _ _ _ => (pe_cmpR op_geS (pe_ix (ix_listK (K := K) rfl) (pv 1) (pv 0) (fun _ _ => rfl)) (pe_ix (ix_listK (K := K) rfl) (pv 1) (pe_op op_add (pv 0) pe_int) (fun _ _ => rfl)) (nomark _)))) pa_nil))) (pss_one (ps_ret pe_bl)) pss_nil)
    (pss_one (ps_ret (pe_and (pe_cmpR op_eq (pe_ix (ix_listK (K := K) rfl) (pv 4) pe_int (fun _ _ => rfl)) (pe_callC G_first (hr.mono (by decide)) rfl passN (pa_cons (pv 1) pa_nil)) (nomark _)) (pe_one (pe_cmpR op_eq (pe_ix (ix_listK (K := K) rfl) (pv 4) (pe_un un_neg pe_int) (fun _ _ => rfl)) (pe_callC G_last (hr.mono (by decide)) rfl passN (pa_cons (pv 1) pa_nil)) (nomark _))))))))))))))), ?_⟩
  walk_at "rd"
  refine ⟨a, ns, rfl, ha, h63, fun z H1 hS1 ho hl => ?_⟩
  walk_at "rd"
  refine ⟨z, rfl, by omega, fun _ H2 hS2 => ?_, (fun q => by rw [ho] at q; cases q)⟩
  have hFb : HM.Fb (cds z) ↔ 0 < HM.ways (cds z) 0 := (HM.fb_iff ho).trans (HM.ways_rest _ _).symm
  walk_at "rd"
  refine rd_isi (b := false) rfl (.int _) (by kernel_rfl) ?_
  walk_at "rd"
  refine iteF ?_
  walk_at "rd"
  refine rd_isi (b := true) rfl (.int _) (by kernel_rfl) ?_
  walk_at "rd"
  refine iteF ?_
  walk_at "rd"
  refine ⟨z, rfl, by omega, fun H3 hS3 => ?_⟩
  walk_at "rd"
  refine rd_iteN (fun q => absurd rfl q) (fun _ => ?_)
  walk_at "rd"
  refine rd_ite (fun e => ?_) (fun e => ?_)
  · walk_at "rd"
    intro l hl'
    refine ⟨z, 0, l, false, true, rfl, upd_same, by omega, ho, .inl ⟨fun q => ?_, rfl, rfl⟩, fun H' _ => k _⟩
    have := hFb.mp q
    omega
  have hW : 0 < HM.ways (cds z) 0 := by omega
  have Fz := hFb.mpr hW
  walk_at "rd"
  intro l1 hl1
  refine ⟨z, _, l1, true, false, rfl, upd_same, by omega, ho, .inr ⟨Fz, .inr (Int.le_refl _), rfl, rfl⟩, fun H4 hS4 => ?_⟩
  have hS14 : Same H3 H4 := (same_new hl1).trans hS4
  walk_at "rd"
  refine iteF ?_
  walk_at "rd"
  intro l2 hl2
  refine ⟨z, _, l2, true, false, rfl, upd_same, by omega, ho, .inr ⟨Fz, .inl (by decide), rfl, rfl⟩, fun H5 hS5 => ?_⟩
  have hS35 : Same H3 H5 := hS14.trans ((same_new hl2).trans hS5)
  have hS05 := hS1.trans (hS2.trans (hS3.trans hS35))
  have ha5 := hS05.seq ha
  walk_at "rd"
  refine iteF ?_
  walk_at "rd"
  intro lt hlt
  have hT6 : (upd H5 lt (.lst [])) lt = some (.lst (([] : List Str).map V.str)) := upd_same
  have hS56 : Same H5 (upd H5 lt (.lst [])) := same_new hlt
  generalize upd H5 lt (.lst []) = H6 at hT6 hS56
  walk_at "rd"
  refine rd_I (by show (0 : Int) < _; omega) ?_
  walk_at "rd"
  intro lq hlq
  have hm0 := Int.emod_nonneg ns.sum (show ((HM.ways (cds z) 0 : Nat) : Int) ≠ 0 by omega)
  have hm1 := Int.emod_lt_of_pos ns.sum (show (0 : Int) < ((HM.ways (cds z) 0 : Nat) : Int) by omega)
  generalize ns.sum % ((HM.ways (cds z) 0 : Nat) : Int) = mx at hm0 hm1
  generalize hWd : ((HM.ways (cds z) 0 : Nat) : Int) = W at hm1
  have hQ7 : (upd H6 lq (.lst [.int 0, .int (W - 1), .int mx])) lq = some (.lst (([0, W - 1, mx] : List Int).map V.int)) := upd_same
  have hS67 : Same H6 (upd H6 lq (.lst [.int 0, .int (W - 1), .int mx])) := same_new hlq
  generalize upd H6 lq (.lst [.int 0, .int (W - 1), .int mx]) = H7 at hQ7 hS67
  walk_at "rd"
  refine rd_set hQ7 (Nat.le_refl 3) fun ps hps => ?_
  have hP8 : (upd H7 ps (SetO P w [0, W - 1, mx] ps)) ps = some (SetO P w [0, W - 1, mx] ps) := upd_same
  have hS78 : Same H7 (upd H7 ps (SetO P w [0, W - 1, mx] ps)) := same_new hps
  generalize upd H7 ps (SetO P w [0, W - 1, mx] ps) = H8 at hP8 hS78
  walk_at "rd"
  refine rd_sorted hP8 fun lm ms hlm hms hmem hml => ?_
  have hM9 : (upd H8 lm (.lst (ms.map V.int))) lm = some (.lst (ms.map V.int)) := upd_same
  have hS89 : Same H8 (upd H8 lm (.lst (ms.map V.int))) := same_new hlm
  generalize upd H8 lm (.lst (ms.map V.int)) = H9 at hM9 hS89
  have hS69 := hS67.trans (hS78.trans hS89)
  have hT9 := hS69 _ _ hT6
  have hlt9 : lt ≠ lm := ne_of_none (hS67.trans hS78 _ _ hT6) hlm
  have rng : ∀ m, m ∈ ms → 0 ≤ m ∧ m < W := fun m hm => by
    have := (hmem m).mp hm
    simp only [List.mem_cons, List.not_mem_nil, or_false] at this
    omega
  walk_at "rd"
  refine for_list (K := K) (xs := ms.map V.int) (fun i σ H' => ∃ (us : List Str) (v5 v6 : Option V), σ = [some (.ref a), some (.str z), some (.int W), some (.int ns.sum), some (.ref lt), v5, v6] ∧ H' lt = some (.lst (us.map V.str)) ∧ H' lm = some (.lst (ms.map V.int)) ∧ LawT z ms us i) ⟨[], _, _, by rw [← hWd]; rfl, hT9, hM9, rfl, fun j u m hu => by cases hu⟩ (fun i σ H' _ h => by obtain ⟨_, _, _, _, _, h, _⟩ := h; exact SqL.of h) (fun i v σ H' hv h => ?_) (fun σ H' h => ?_)
  · obtain ⟨us, v5, v6, rfl, hT, hM, hL⟩ := h
    obtain ⟨m, hm, rfl⟩ : ∃ m, ms[i]? = some m ∧ v = .int m := by
      rw [List.getElem?_map] at hv
      cases e : ms[i]? with
      | none => rw [e] at hv; cases hv
      | some m => rw [e] at hv; cases hv; exact ⟨m, rfl, rfl⟩
    obtain ⟨r0, r1⟩ := rng m (List.mem_of_getElem? hm)
    refine rd_name ?_
    walk_at "rd"
    refine ⟨z, m, rfl, by omega, fun _ _ _ _ y H10 hS10 hy Fy hrk => ?_, (fun q => by rw [ho] at q; cases q), (fun _ q => absurd Fz q), (fun _ _ q => by omega)⟩
    have hrk' : (HM.rk (cds z) 0 (cds y) : Int) = m := by omega
    walk_at "rd"
    refine ⟨z, y, rfl, by omega, by omega, fun H11 hS11 => ?_⟩
    rw [HM.fil_iff.mpr Fy]
    walk_at "rd"
    refine iteF ?_
    walk_at "rd"
    refine ⟨z, y, rfl, by omega, by omega, (fun _ _ H12 hS12 => ?_), (fun q => by rw [ho] at q; cases q), (fun _ q => absurd Fz q), (fun _ _ q => absurd Fy q)⟩
    have hS1012 := hS10.trans (hS11.trans hS12)
    have hT12 := hS1012 _ _ hT
    have hM12 := hS1012 _ _ hM
    have husl : us.length ≤ 3 := by
      have h1 := hL.1
      have h2 := (List.getElem?_eq_some_iff.mp hm).1
      omega
    walk_at "rd"
    refine rd_iteN (fun q => absurd hrk' q) (fun _ => ?_)
    walk_at "rd"
    refine ⟨us ++ [y], _, _, rfl, by rw [upd_same, List.map_append]; rfl, ?_, hL.snoc hm hy Fy hrk'⟩
    have hne : lm ≠ lt := fun q => by
      rw [q] at hM12
      rw [hT12] at hM12
      have := HO.lst.inj (Option.some.inj hM12)
      have hl0 : us.length = ms.length := by have := congrArg List.length this; simpa using this
      have h1 := hL.1
      have h2 := (List.getElem?_eq_some_iff.mp hm).1
      omega
    rw [upd_ne hne]; exact hM12
  obtain ⟨us, v5, v6, rfl, hT, hM, hL⟩ := h
  rw [List.length_map] at hL
  have hul : us.length = ms.length := hL.1
  have hml3 : ms.length ≤ 3 := hml
  have h0 : (0 : Int) ∈ ms := (hmem 0).mpr (by simp)
  have hw1 : W - 1 ∈ ms := (hmem _).mpr (by simp)
  have hpos : 0 < ms.length := List.length_pos_of_mem h0
  have hTs : SqL K H' lt (us.map V.str) := SqL.of hT
  walk_at "rd"
  refine ⟨_, rfl, by rw [List.length_map]; omega, by rw [List.length_map]; omega, ?_⟩
  rw [show (((us.map V.str).length : Int) - 1).toNat = ms.length - 1 by rw [List.length_map]; omega]
  have get : ∀ j, j < ms.length → ∃ u m, us[j]? = some u ∧ ms[j]? = some m ∧ (us.map V.str)[j]? = some (.str u) ∧ u.length = z.length ∧ HM.Fil (cds z) (cds u) ∧ (HM.rk (cds z) 0 (cds u) : Int) = m := fun j hj => by
    obtain ⟨u, hu, hu'⟩ := str_at (us := us) (j := j) (by omega)
    obtain ⟨m, hm⟩ : ∃ m, ms[j]? = some m := ⟨_, List.getElem?_eq_getElem hj⟩
    obtain ⟨q1, q2, q3⟩ := hL.2 j u m hu hm
    exact ⟨u, m, hu, hm, hu', q1, q2, q3⟩
  have rise : ∀ j, j + 1 < ms.length → ∀ u u', us[j]? = some u → us[j + 1]? = some u' → cds u < cds u' := fun j hj u u' hu hu' => by
    obtain ⟨_, m, h1, h2, _, _, F1, r1⟩ := get j (by omega)
    obtain ⟨_, m', h1', h2', _, _, F2, r2⟩ := get (j + 1) hj
    rw [hu] at h1; cases h1
    rw [hu'] at h1'; cases h1'
    have hlt : m < m' := by
      have := List.pairwise_iff_getElem.mp hms j (j + 1) (by omega) hj (by omega)
      rw [List.getElem?_eq_getElem (by omega)] at h2 h2'
      rw [Option.some.inj h2, Option.some.inj h2'] at this
      exact this
    exact lx_lt (HM.rk_lx F1 F2 (by omega))
  refine lc_fun (itOf_range 0 _ H') (le_line (by omega)) (fun σ' => ∃ v, σ' = [v, some (.ref lt)]) (fun _ => .bl false) ⟨_, rfl⟩ (fun i x σ' H10 hi hx hs hS10 R hR => ?_) fun lb H10 hS10 hlb hLb => ?_
  · obtain ⟨v, rfl⟩ := hs
    subst hx
    obtain ⟨u, _, hu, _, hu', _⟩ := get i (by omega)
    obtain ⟨u2, _, hu2, _, hu2', _⟩ := get (i + 1) (by omega)
    have hT10 : SqL K H10 lt (us.map V.str) := SqL.of (hS10 _ _ hT)
    have at1 : atI (us.map V.str) (0 + (i : Int)) = some (.str u) := by rw [Int.zero_add]; exact atI_nat hu'
    have at2 : atI (us.map V.str) (0 + (i : Int) + 1) = some (.str u2) := by rw [Int.zero_add]; exact atI_nat (j := i + 1) hu2'
    refine rd_name ?_
    walk_at "rd"
    rw [decide_eq_true (rise i (by omega) u u2 hu hu2)]
    exact hR _ _ ⟨_, rfl⟩ (Same.refl _)
  have hLb' : H10 lb = some (.lst ((List.replicate (ms.length - 1) false).map V.bl)) := by
    rw [hLb, List.map_replicate]
    congr 2
    refine List.ext_getElem? fun i => ?_
    rw [List.getElem?_map, List.getElem?_replicate]
    by_cases h : i < ms.length - 1
    · rw [List.getElem?_range h, if_pos h]; rfl
    · rw [List.getElem?_eq_none (by rw [List.length_range]; omega), if_neg h]; rfl
  have hany : (List.replicate (ms.length - 1) false).any id = false := by rw [List.any_eq_false]; intro b hb; rw [(List.mem_replicate.mp hb).2]; decide
  have hT10 : SqL K H10 lt (us.map V.str) := SqL.of (hS10 _ _ hT)
  obtain ⟨u0, m0, hu0, hm0', hu0', _, F0, r0⟩ := get 0 hpos
  obtain ⟨ul, ml, hul', hml', hull, _, Fl, rl⟩ := get (ms.length - 1) (by omega)
  have em0 : m0 = 0 := by
    obtain ⟨j, hj, ej⟩ := List.getElem_of_mem h0
    rw [List.getElem?_eq_getElem hpos] at hm0'
    have e1 := Option.some.inj hm0'
    have := (rng m0 (by rw [← e1]; exact List.getElem_mem _)).1
    by_cases q : j = 0
    · subst q; rw [← e1, ej]
    · have := List.pairwise_iff_getElem.mp hms 0 j hpos hj (by omega)
      omega
  have eml : ml = W - 1 := by
    obtain ⟨j, hj, ej⟩ := List.getElem_of_mem hw1
    rw [List.getElem?_eq_getElem (by omega)] at hml'
    have e1 := Option.some.inj hml'
    have := (rng ml (by rw [← e1]; exact List.getElem_mem _)).2
    by_cases q : j = ms.length - 1
    · subst q; rw [← e1, ej]
    · have := List.pairwise_iff_getElem.mp hms j (ms.length - 1) hj (by omega) (by omega)
      omega
  have at0 : atI (us.map V.str) (0 : Int) = some (.str u0) := atI_nat (j := 0) hu0'
  have atl : atI (us.map V.str) (-1 : Int) = some (.str ul) := by
    have hne : us.map V.str ≠ [] := fun q => by have := congrArg List.length q; rw [List.length_map, List.length_nil] at this; omega
    have e1 : us.map V.str = (us.map V.str).dropLast ++ [.str ul] := by
      have e2 : (us.map V.str).getLast hne = .str ul := by
        rw [List.getLast_eq_getElem]
        have := (List.getElem?_eq_some_iff.mp hull).2
        rw [← this]
        congr 1
        rw [List.length_map, hul]
      rw [← e2]
      exact (List.dropLast_concat_getLast hne).symm
    rw [e1]
    exact atI_last _ _
  walk_at "rd"
  rw [hany]
  refine iteF ?_
  walk_at "rd"
  refine ⟨z, rfl, by omega, fun _ _ y1 H11 hS11 hy1 M1 => ?_, (fun q => by rw [ho] at q; cases q), (fun _ q => absurd Fz q)⟩
  have eq1 : u0 = y1 := str_ext (HM.rk_max F0 M1 (by omega))
  subst eq1
  have hT11 := hS11.seq hT10
  walk_at "rd"
  refine rd_ite (fun _ => ?_) (fun q => absurd rfl q)
  walk_at "rd"
  refine ⟨z, rfl, by omega, fun _ _ y2 H12 hS12 hy2 M2 => ?_, (fun q => by rw [ho] at q; cases q), (fun _ q => absurd Fz q)⟩
  have eq2 : ul = y2 := str_ext (HM.rk_min Fl M2 (by omega))
  subst eq2
  walk_at "rd"
  rw [decide_eq_true rfl]
  exact k _
end
end HF
set_option Elab.async false
set_option linter.all false
set_option maxRecDepth 100000
set_option maxHeartbeats 8000000
namespace HF
open PySem L2
theorem us1 {us : List Value} (h : us.length = 1) : ∃ u0, us = [u0] := by
  match us, h with
  | [u0], _ => exact ⟨u0, rfl⟩
theorem us2 {us : List Value} (h : us.length = 2) : ∃ u0 u1, us = [u0, u1] := by
  match us, h with
  | [u0, u1], _ => exact ⟨u0, u1, rfl⟩
theorem us3 {us : List Value} (h : us.length = 3) : ∃ u0 u1 u2, us = [u0, u1, u2] := by
  match us, h with
  | [u0, u1, u2], _ => exact ⟨u0, u1, u2, rfl⟩
theorem all_mk {l : PySem.W.OpenLaw} {w : World} {K : PySem.W.Frag} {h : Heap} {mg : Str → Option Value} {fa C_Uneven C_Early C_Late C_BracketError C_BadRow C_NoFilling C_BadNumber C_BadText C_BadPrices f_is_row f_check_row f_running_depths f_is_closed f_is_filling f_overfull f_what_bars f_check_fillable f_opened_early f_put_in_turn f_opened_at_need f_first f_last f_is_number f_ways_from f_ways_from_each f_ways_at f_how_many f_told f_number_of f__law_row f__law_closed f__law_filling f__law_many f__law_refused f_law f_Early___init__ f_Late___init__ : Addr} {od_is_row an_is_row od_check_row an_check_row od_running_depths an_running_depths od_is_closed an_is_closed od_is_filling an_is_filling od_overfull an_overfull od_what_bars an_what_bars od_check_fillable an_check_fillable od_opened_early an_opened_early od_put_in_turn an_put_in_turn od_opened_at_need an_opened_at_need od_first an_first od_last an_last od_is_number an_is_number od_ways_from an_ways_from od_ways_from_each an_ways_from_each od_ways_at an_ways_at od_how_many an_how_many od_told an_told od_number_of an_number_of od__law_row an__law_row od__law_closed an__law_closed od__law_filling an__law_filling od__law_many an__law_many od__law_refused an__law_refused od_law an_law od_Early___init__ an_Early___init__ od_Late___init__ an_Late___init__ : Option Addr} {sl_is_row sl_check_row sl_running_depths sl_is_closed sl_is_filling sl_overfull sl_what_bars sl_check_fillable sl_opened_early sl_put_in_turn sl_opened_at_need sl_first sl_last sl_is_number sl_ways_from sl_ways_from_each sl_ways_at sl_how_many sl_told sl_number_of sl__law_row sl__law_closed sl__law_filling sl__law_many sl__law_refused sl_law sl_Early___init__ sl_Late___init__ : Array (Option Value)} {oc_is_row kV_is_row dc_is_row pm_is_row cd_is_row ct_is_row oc_check_row kV_check_row dc_check_row pm_check_row cd_check_row ct_check_row oc_running_depths kV_running_depths dc_running_depths pm_running_depths cd_running_depths ct_running_depths oc_is_closed kV_is_closed dc_is_closed pm_is_closed cd_is_closed ct_is_closed oc_is_filling kV_is_filling dc_is_filling pm_is_filling cd_is_filling ct_is_filling oc_overfull kV_overfull dc_overfull pm_overfull cd_overfull ct_overfull oc_what_bars kV_what_bars dc_what_bars pm_what_bars cd_what_bars ct_what_bars oc_check_fillable kV_check_fillable dc_check_fillable pm_check_fillable cd_check_fillable ct_check_fillable oc_opened_early kV_opened_early dc_opened_early pm_opened_early cd_opened_early ct_opened_early oc_put_in_turn kV_put_in_turn dc_put_in_turn pm_put_in_turn cd_put_in_turn ct_put_in_turn oc_opened_at_need kV_opened_at_need dc_opened_at_need pm_opened_at_need cd_opened_at_need ct_opened_at_need oc_first kV_first dc_first pm_first cd_first ct_first oc_last kV_last dc_last pm_last cd_last ct_last oc_is_number kV_is_number dc_is_number pm_is_number cd_is_number ct_is_number oc_ways_from kV_ways_from dc_ways_from pm_ways_from cd_ways_from ct_ways_from oc_ways_from_each kV_ways_from_each dc_ways_from_each pm_ways_from_each cd_ways_from_each ct_ways_from_each oc_ways_at kV_ways_at dc_ways_at pm_ways_at cd_ways_at ct_ways_at oc_how_many kV_how_many dc_how_many pm_how_many cd_how_many ct_how_many oc_told kV_told dc_told pm_told cd_told ct_told oc_number_of kV_number_of dc_number_of pm_number_of cd_number_of ct_number_of oc__law_row kV__law_row dc__law_row pm__law_row cd__law_row ct__law_row oc__law_closed kV__law_closed dc__law_closed pm__law_closed cd__law_closed ct__law_closed oc__law_filling kV__law_filling dc__law_filling pm__law_filling cd__law_filling ct__law_filling oc__law_many kV__law_many dc__law_many pm__law_many cd__law_many ct__law_many oc__law_refused kV__law_refused dc__law_refused pm__law_refused cd__law_refused ct__law_refused oc_law kV_law dc_law pm_law cd_law ct_law oc_Early___init__ kV_Early___init__ dc_Early___init__ pm_Early___init__ cd_Early___init__ ct_Early___init__ oc_Late___init__ kV_Late___init__ dc_Late___init__ pm_Late___init__ cd_Late___init__ ct_Late___init__ : Value}  {xcd_NoFilling : ClassData} {xcd_BadNumber : ClassData} (X : K.In h) (G : h.Ns mainGlobals mg) (hfa : mg "law" = some (.ref fa))
    (n_Uneven : PySem.W.nsIn K mainGlobals "Uneven" = some (some (.ref C_Uneven)))
    (n_Early : PySem.W.nsIn K mainGlobals "Early" = some (some (.ref C_Early)))
    (n_Late : PySem.W.nsIn K mainGlobals "Late" = some (some (.ref C_Late)))
    (n_BracketError : PySem.W.nsIn K mainGlobals "BracketError" = some (some (.ref C_BracketError)))
    (n_BadRow : PySem.W.nsIn K mainGlobals "BadRow" = some (some (.ref C_BadRow)))
    (n_NoFilling : PySem.W.nsIn K mainGlobals "NoFilling" = some (some (.ref C_NoFilling)))
    (n_BadNumber : PySem.W.nsIn K mainGlobals "BadNumber" = some (some (.ref C_BadNumber)))
    (n_BadText : PySem.W.nsIn K mainGlobals "BadText" = some (some (.ref C_BadText)))
    (n_BadPrices : PySem.W.nsIn K mainGlobals "BadPrices" = some (some (.ref C_BadPrices)))
    (a_is_row : PySem.W.nsIn K mainGlobals "is_row" = some (some (.ref f_is_row)))
    (l_is_row : K.lookup f_is_row = some ⟨oc_is_row, od_is_row, .func (PySem.W.fnOf "is_row" "is_row" (defArgs s_is_row) (defBody s_is_row) (defScope s_is_row) .none kV_is_row dc_is_row pm_is_row an_is_row cd_is_row ct_is_row), sl_is_row⟩)
    (c_is_row : PySem.W.codeIn K cd_is_row "is_row" = true)
    (k_is_row : PySem.W.keepIn K (.ref f_is_row) = true)
    (a_check_row : PySem.W.nsIn K mainGlobals "check_row" = some (some (.ref f_check_row)))
    (l_check_row : K.lookup f_check_row = some ⟨oc_check_row, od_check_row, .func (PySem.W.fnOf "check_row" "check_row" (defArgs s_check_row) (defBody s_check_row) (defScope s_check_row) .none kV_check_row dc_check_row pm_check_row an_check_row cd_check_row ct_check_row), sl_check_row⟩)
    (c_check_row : PySem.W.codeIn K cd_check_row "check_row" = true)
    (k_check_row : PySem.W.keepIn K (.ref f_check_row) = true)
    (a_running_depths : PySem.W.nsIn K mainGlobals "running_depths" = some (some (.ref f_running_depths)))
    (l_running_depths : K.lookup f_running_depths = some ⟨oc_running_depths, od_running_depths, .func (PySem.W.fnOf "running_depths" "running_depths" (defArgs s_running_depths) (defBody s_running_depths) (defScope s_running_depths) .none kV_running_depths dc_running_depths pm_running_depths an_running_depths cd_running_depths ct_running_depths), sl_running_depths⟩)
    (c_running_depths : PySem.W.codeIn K cd_running_depths "running_depths" = true)
    (k_running_depths : PySem.W.keepIn K (.ref f_running_depths) = true)
    (a_is_closed : PySem.W.nsIn K mainGlobals "is_closed" = some (some (.ref f_is_closed)))
    (l_is_closed : K.lookup f_is_closed = some ⟨oc_is_closed, od_is_closed, .func (PySem.W.fnOf "is_closed" "is_closed" (defArgs s_is_closed) (defBody s_is_closed) (defScope s_is_closed) .none kV_is_closed dc_is_closed pm_is_closed an_is_closed cd_is_closed ct_is_closed), sl_is_closed⟩)
    (c_is_closed : PySem.W.codeIn K cd_is_closed "is_closed" = true)
    (k_is_closed : PySem.W.keepIn K (.ref f_is_closed) = true)
    (a_is_filling : PySem.W.nsIn K mainGlobals "is_filling" = some (some (.ref f_is_filling)))
    (l_is_filling : K.lookup f_is_filling = some ⟨oc_is_filling, od_is_filling, .func (PySem.W.fnOf "is_filling" "is_filling" (defArgs s_is_filling) (defBody s_is_filling) (defScope s_is_filling) .none kV_is_filling dc_is_filling pm_is_filling an_is_filling cd_is_filling ct_is_filling), sl_is_filling⟩)
    (c_is_filling : PySem.W.codeIn K cd_is_filling "is_filling" = true)
    (k_is_filling : PySem.W.keepIn K (.ref f_is_filling) = true)
    (a_overfull : PySem.W.nsIn K mainGlobals "overfull" = some (some (.ref f_overfull)))
    (l_overfull : K.lookup f_overfull = some ⟨oc_overfull, od_overfull, .func (PySem.W.fnOf "overfull" "overfull" (defArgs s_overfull) (defBody s_overfull) (defScope s_overfull) .none kV_overfull dc_overfull pm_overfull an_overfull cd_overfull ct_overfull), sl_overfull⟩)
    (c_overfull : PySem.W.codeIn K cd_overfull "overfull" = true)
    (k_overfull : PySem.W.keepIn K (.ref f_overfull) = true)
    (a_what_bars : PySem.W.nsIn K mainGlobals "what_bars" = some (some (.ref f_what_bars)))
    (l_what_bars : K.lookup f_what_bars = some ⟨oc_what_bars, od_what_bars, .func (PySem.W.fnOf "what_bars" "what_bars" (defArgs s_what_bars) (defBody s_what_bars) (defScope s_what_bars) .none kV_what_bars dc_what_bars pm_what_bars an_what_bars cd_what_bars ct_what_bars), sl_what_bars⟩)
    (c_what_bars : PySem.W.codeIn K cd_what_bars "what_bars" = true)
    (k_what_bars : PySem.W.keepIn K (.ref f_what_bars) = true)
    (a_check_fillable : PySem.W.nsIn K mainGlobals "check_fillable" = some (some (.ref f_check_fillable)))
    (l_check_fillable : K.lookup f_check_fillable = some ⟨oc_check_fillable, od_check_fillable, .func (PySem.W.fnOf "check_fillable" "check_fillable" (defArgs s_check_fillable) (defBody s_check_fillable) (defScope s_check_fillable) .none kV_check_fillable dc_check_fillable pm_check_fillable an_check_fillable cd_check_fillable ct_check_fillable), sl_check_fillable⟩)
    (c_check_fillable : PySem.W.codeIn K cd_check_fillable "check_fillable" = true)
    (k_check_fillable : PySem.W.keepIn K (.ref f_check_fillable) = true)
    (a_opened_early : PySem.W.nsIn K mainGlobals "opened_early" = some (some (.ref f_opened_early)))
    (l_opened_early : K.lookup f_opened_early = some ⟨oc_opened_early, od_opened_early, .func (PySem.W.fnOf "opened_early" "opened_early" (defArgs s_opened_early) (defBody s_opened_early) (defScope s_opened_early) .none kV_opened_early dc_opened_early pm_opened_early an_opened_early cd_opened_early ct_opened_early), sl_opened_early⟩)
    (c_opened_early : PySem.W.codeIn K cd_opened_early "opened_early" = true)
    (k_opened_early : PySem.W.keepIn K (.ref f_opened_early) = true)
    (a_put_in_turn : PySem.W.nsIn K mainGlobals "put_in_turn" = some (some (.ref f_put_in_turn)))
    (l_put_in_turn : K.lookup f_put_in_turn = some ⟨oc_put_in_turn, od_put_in_turn, .func (PySem.W.fnOf "put_in_turn" "put_in_turn" (defArgs s_put_in_turn) (defBody s_put_in_turn) (defScope s_put_in_turn) .none kV_put_in_turn dc_put_in_turn pm_put_in_turn an_put_in_turn cd_put_in_turn ct_put_in_turn), sl_put_in_turn⟩)
    (c_put_in_turn : PySem.W.codeIn K cd_put_in_turn "put_in_turn" = true)
    (k_put_in_turn : PySem.W.keepIn K (.ref f_put_in_turn) = true)
    (a_opened_at_need : PySem.W.nsIn K mainGlobals "opened_at_need" = some (some (.ref f_opened_at_need)))
    (l_opened_at_need : K.lookup f_opened_at_need = some ⟨oc_opened_at_need, od_opened_at_need, .func (PySem.W.fnOf "opened_at_need" "opened_at_need" (defArgs s_opened_at_need) (defBody s_opened_at_need) (defScope s_opened_at_need) .none kV_opened_at_need dc_opened_at_need pm_opened_at_need an_opened_at_need cd_opened_at_need ct_opened_at_need), sl_opened_at_need⟩)
    (c_opened_at_need : PySem.W.codeIn K cd_opened_at_need "opened_at_need" = true)
    (k_opened_at_need : PySem.W.keepIn K (.ref f_opened_at_need) = true)
    (a_first : PySem.W.nsIn K mainGlobals "first" = some (some (.ref f_first)))
    (l_first : K.lookup f_first = some ⟨oc_first, od_first, .func (PySem.W.fnOf "first" "first" (defArgs s_first) (defBody s_first) (defScope s_first) .none kV_first dc_first pm_first an_first cd_first ct_first), sl_first⟩)
    (c_first : PySem.W.codeIn K cd_first "first" = true)
    (k_first : PySem.W.keepIn K (.ref f_first) = true)
    (a_last : PySem.W.nsIn K mainGlobals "last" = some (some (.ref f_last)))
    (l_last : K.lookup f_last = some ⟨oc_last, od_last, .func (PySem.W.fnOf "last" "last" (defArgs s_last) (defBody s_last) (defScope s_last) .none kV_last dc_last pm_last an_last cd_last ct_last), sl_last⟩)
    (c_last : PySem.W.codeIn K cd_last "last" = true)
    (k_last : PySem.W.keepIn K (.ref f_last) = true)
    (a_is_number : PySem.W.nsIn K mainGlobals "is_number" = some (some (.ref f_is_number)))
    (l_is_number : K.lookup f_is_number = some ⟨oc_is_number, od_is_number, .func (PySem.W.fnOf "is_number" "is_number" (defArgs s_is_number) (defBody s_is_number) (defScope s_is_number) .none kV_is_number dc_is_number pm_is_number an_is_number cd_is_number ct_is_number), sl_is_number⟩)
    (c_is_number : PySem.W.codeIn K cd_is_number "is_number" = true)
    (k_is_number : PySem.W.keepIn K (.ref f_is_number) = true)
    (a_ways_from : PySem.W.nsIn K mainGlobals "ways_from" = some (some (.ref f_ways_from)))
    (l_ways_from : K.lookup f_ways_from = some ⟨oc_ways_from, od_ways_from, .func (PySem.W.fnOf "ways_from" "ways_from" (defArgs s_ways_from) (defBody s_ways_from) (defScope s_ways_from) .none kV_ways_from dc_ways_from pm_ways_from an_ways_from cd_ways_from ct_ways_from), sl_ways_from⟩)
    (c_ways_from : PySem.W.codeIn K cd_ways_from "ways_from" = true)
    (k_ways_from : PySem.W.keepIn K (.ref f_ways_from) = true)
    (a_ways_from_each : PySem.W.nsIn K mainGlobals "ways_from_each" = some (some (.ref f_ways_from_each)))
    (l_ways_from_each : K.lookup f_ways_from_each = some ⟨oc_ways_from_each, od_ways_from_each, .func (PySem.W.fnOf "ways_from_each" "ways_from_each" (defArgs s_ways_from_each) (defBody s_ways_from_each) (defScope s_ways_from_each) .none kV_ways_from_each dc_ways_from_each pm_ways_from_each an_ways_from_each cd_ways_from_each ct_ways_from_each), sl_ways_from_each⟩)
    (c_ways_from_each : PySem.W.codeIn K cd_ways_from_each "ways_from_each" = true)
    (k_ways_from_each : PySem.W.keepIn K (.ref f_ways_from_each) = true)
    (a_ways_at : PySem.W.nsIn K mainGlobals "ways_at" = some (some (.ref f_ways_at)))
    (l_ways_at : K.lookup f_ways_at = some ⟨oc_ways_at, od_ways_at, .func (PySem.W.fnOf "ways_at" "ways_at" (defArgs s_ways_at) (defBody s_ways_at) (defScope s_ways_at) .none kV_ways_at dc_ways_at pm_ways_at an_ways_at cd_ways_at ct_ways_at), sl_ways_at⟩)
    (c_ways_at : PySem.W.codeIn K cd_ways_at "ways_at" = true)
    (k_ways_at : PySem.W.keepIn K (.ref f_ways_at) = true)
    (a_how_many : PySem.W.nsIn K mainGlobals "how_many" = some (some (.ref f_how_many)))
    (l_how_many : K.lookup f_how_many = some ⟨oc_how_many, od_how_many, .func (PySem.W.fnOf "how_many" "how_many" (defArgs s_how_many) (defBody s_how_many) (defScope s_how_many) .none kV_how_many dc_how_many pm_how_many an_how_many cd_how_many ct_how_many), sl_how_many⟩)
    (c_how_many : PySem.W.codeIn K cd_how_many "how_many" = true)
    (k_how_many : PySem.W.keepIn K (.ref f_how_many) = true)
    (a_told : PySem.W.nsIn K mainGlobals "told" = some (some (.ref f_told)))
    (l_told : K.lookup f_told = some ⟨oc_told, od_told, .func (PySem.W.fnOf "told" "told" (defArgs s_told) (defBody s_told) (defScope s_told) .none kV_told dc_told pm_told an_told cd_told ct_told), sl_told⟩)
    (c_told : PySem.W.codeIn K cd_told "told" = true)
    (k_told : PySem.W.keepIn K (.ref f_told) = true)
    (a_number_of : PySem.W.nsIn K mainGlobals "number_of" = some (some (.ref f_number_of)))
    (l_number_of : K.lookup f_number_of = some ⟨oc_number_of, od_number_of, .func (PySem.W.fnOf "number_of" "number_of" (defArgs s_number_of) (defBody s_number_of) (defScope s_number_of) .none kV_number_of dc_number_of pm_number_of an_number_of cd_number_of ct_number_of), sl_number_of⟩)
    (c_number_of : PySem.W.codeIn K cd_number_of "number_of" = true)
    (k_number_of : PySem.W.keepIn K (.ref f_number_of) = true)
    (a__law_row : PySem.W.nsIn K mainGlobals "_law_row" = some (some (.ref f__law_row)))
    (l__law_row : K.lookup f__law_row = some ⟨oc__law_row, od__law_row, .func (PySem.W.fnOf "_law_row" "_law_row" (defArgs s__law_row) (defBody s__law_row) (defScope s__law_row) .none kV__law_row dc__law_row pm__law_row an__law_row cd__law_row ct__law_row), sl__law_row⟩)
    (c__law_row : PySem.W.codeIn K cd__law_row "_law_row" = true)
    (k__law_row : PySem.W.keepIn K (.ref f__law_row) = true)
    (a__law_closed : PySem.W.nsIn K mainGlobals "_law_closed" = some (some (.ref f__law_closed)))
    (l__law_closed : K.lookup f__law_closed = some ⟨oc__law_closed, od__law_closed, .func (PySem.W.fnOf "_law_closed" "_law_closed" (defArgs s__law_closed) (defBody s__law_closed) (defScope s__law_closed) .none kV__law_closed dc__law_closed pm__law_closed an__law_closed cd__law_closed ct__law_closed), sl__law_closed⟩)
    (c__law_closed : PySem.W.codeIn K cd__law_closed "_law_closed" = true)
    (k__law_closed : PySem.W.keepIn K (.ref f__law_closed) = true)
    (a__law_filling : PySem.W.nsIn K mainGlobals "_law_filling" = some (some (.ref f__law_filling)))
    (l__law_filling : K.lookup f__law_filling = some ⟨oc__law_filling, od__law_filling, .func (PySem.W.fnOf "_law_filling" "_law_filling" (defArgs s__law_filling) (defBody s__law_filling) (defScope s__law_filling) .none kV__law_filling dc__law_filling pm__law_filling an__law_filling cd__law_filling ct__law_filling), sl__law_filling⟩)
    (c__law_filling : PySem.W.codeIn K cd__law_filling "_law_filling" = true)
    (k__law_filling : PySem.W.keepIn K (.ref f__law_filling) = true)
    (a__law_many : PySem.W.nsIn K mainGlobals "_law_many" = some (some (.ref f__law_many)))
    (l__law_many : K.lookup f__law_many = some ⟨oc__law_many, od__law_many, .func (PySem.W.fnOf "_law_many" "_law_many" (defArgs s__law_many) (defBody s__law_many) (defScope s__law_many) .none kV__law_many dc__law_many pm__law_many an__law_many cd__law_many ct__law_many), sl__law_many⟩)
    (c__law_many : PySem.W.codeIn K cd__law_many "_law_many" = true)
    (k__law_many : PySem.W.keepIn K (.ref f__law_many) = true)
    (a__law_refused : PySem.W.nsIn K mainGlobals "_law_refused" = some (some (.ref f__law_refused)))
    (l__law_refused : K.lookup f__law_refused = some ⟨oc__law_refused, od__law_refused, .func (PySem.W.fnOf "_law_refused" "_law_refused" (defArgs s__law_refused) (defBody s__law_refused) (defScope s__law_refused) .none kV__law_refused dc__law_refused pm__law_refused an__law_refused cd__law_refused ct__law_refused), sl__law_refused⟩)
    (c__law_refused : PySem.W.codeIn K cd__law_refused "_law_refused" = true)
    (k__law_refused : PySem.W.keepIn K (.ref f__law_refused) = true)
    (a_law : PySem.W.nsIn K mainGlobals "law" = some (some (.ref f_law)))
    (l_law : K.lookup f_law = some ⟨oc_law, od_law, .func (PySem.W.fnOf "law" "law" (defArgs s_law) (defBody s_law) (defScope s_law) .none kV_law dc_law pm_law an_law cd_law ct_law), sl_law⟩)
    (c_law : PySem.W.codeIn K cd_law "law" = true)
    (k_law : PySem.W.keepIn K (.ref f_law) = true)
    (a_Early___init__ : PySem.W.findIn K (.ref C_Early) "__init__" = some (some (.ref f_Early___init__)))
    (l_Early___init__ : K.lookup f_Early___init__ = some ⟨oc_Early___init__, od_Early___init__, .func (PySem.W.fnOf "__init__" "Early.__init__" (defArgs s_Early___init__) (defBody s_Early___init__) (defScope s_Early___init__) .none kV_Early___init__ dc_Early___init__ pm_Early___init__ an_Early___init__ cd_Early___init__ ct_Early___init__), sl_Early___init__⟩)
    (c_Early___init__ : PySem.W.codeIn K cd_Early___init__ "Early.__init__" = true)
    (k_Early___init__ : PySem.W.keepIn K (.ref f_Early___init__) = true)
    (i_Early___init__ : PySem.W.isFn K (.ref f_Early___init__) = true)
    (a_Late___init__ : PySem.W.findIn K (.ref C_Late) "__init__" = some (some (.ref f_Late___init__)))
    (l_Late___init__ : K.lookup f_Late___init__ = some ⟨oc_Late___init__, od_Late___init__, .func (PySem.W.fnOf "__init__" "Late.__init__" (defArgs s_Late___init__) (defBody s_Late___init__) (defScope s_Late___init__) .none kV_Late___init__ dc_Late___init__ pm_Late___init__ an_Late___init__ cd_Late___init__ ct_Late___init__), sl_Late___init__⟩)
    (c_Late___init__ : PySem.W.codeIn K cd_Late___init__ "Late.__init__" = true)
    (k_Late___init__ : PySem.W.keepIn K (.ref f_Late___init__) = true)
    (i_Late___init__ : PySem.W.isFn K (.ref f_Late___init__) = true)
    (oc_gt : PySem.W.specialIn K (.builtin "object.__class__") "__get__" = some (some (.builtin "getset_descriptor.__get__")))
    (oc_tk : PySem.W.takesIn K (.builtin "object.__class__") = some true)
    (pg_Uneven : PySem.W.plainGet K C_Uneven Str.empty = true)
    (hd_Uneven : PySem.W.hasDictIn K C_Uneven = true)
    (po_Uneven : PySem.W.plainOver K C_Uneven = true)
    (sa_Uneven : PySem.W.findIn K (.ref C_Uneven) "__setattr__" = some (some (.builtin "object.__setattr__")))
    (ca_Uneven : PySem.W.findIn K (.ref C_Uneven) "__class__" = some (some (.builtin "object.__class__")))
    (mo_Uneven : PySem.W.mroIn K C_Uneven (.type "object") = some true)
    (no_Uneven_text : PySem.W.findIn K (.ref C_Uneven) "text" = some none)
    (no_Uneven_many : PySem.W.findIn K (.ref C_Uneven) "many" = some none)
    (no_Uneven_levels : PySem.W.findIn K (.ref C_Uneven) "levels" = some none)
    (pg_Early : PySem.W.plainGet K C_Early Str.empty = true)
    (hd_Early : PySem.W.hasDictIn K C_Early = true)
    (po_Early : PySem.W.plainOver K C_Early = true)
    (sa_Early : PySem.W.findIn K (.ref C_Early) "__setattr__" = some (some (.builtin "object.__setattr__")))
    (ca_Early : PySem.W.findIn K (.ref C_Early) "__class__" = some (some (.builtin "object.__class__")))
    (mo_Early : PySem.W.mroIn K C_Early (.type "object") = some true)
    (no_Early_text : PySem.W.findIn K (.ref C_Early) "text" = some none)
    (no_Early_many : PySem.W.findIn K (.ref C_Early) "many" = some none)
    (no_Early_levels : PySem.W.findIn K (.ref C_Early) "levels" = some none)
    (pg_Late : PySem.W.plainGet K C_Late Str.empty = true)
    (hd_Late : PySem.W.hasDictIn K C_Late = true)
    (po_Late : PySem.W.plainOver K C_Late = true)
    (sa_Late : PySem.W.findIn K (.ref C_Late) "__setattr__" = some (some (.builtin "object.__setattr__")))
    (ca_Late : PySem.W.findIn K (.ref C_Late) "__class__" = some (some (.builtin "object.__class__")))
    (mo_Late : PySem.W.mroIn K C_Late (.type "object") = some true)
    (no_Late_text : PySem.W.findIn K (.ref C_Late) "text" = some none)
    (no_Late_many : PySem.W.findIn K (.ref C_Late) "many" = some none)
    (no_Late_levels : PySem.W.findIn K (.ref C_Late) "levels" = some none)
    (mk_Early : PySem.W.makesIn K C_Early = true)
    (kp_Early : PySem.W.keepIn K (.ref C_Early) = true)
    (mk_Late : PySem.W.makesIn K C_Late = true)
    (kp_Late : PySem.W.keepIn K (.ref C_Late) = true)
    (mk_Uneven : PySem.W.makesIn K C_Uneven = true)
    (kp_Uneven : PySem.W.keepIn K (.ref C_Uneven) = true)
    (in_Uneven : PySem.W.findIn K (.ref C_Uneven) "__init__" = some (some (.builtin "object.__init__")))
    (x_BracketError : XC K C_BracketError)
    (x_BadRow : XC K C_BadRow)
    (x_NoFilling : XC K C_NoFilling)
    (x_BadNumber : XC K C_BadNumber)
    (x_BadText : XC K C_BadText)
    (kt_NoFilling_BadRow : PySem.W.kitOne K (.ref C_NoFilling) (.ref C_BadRow) = some false)
    (kt_NoFilling_NoFilling : PySem.W.kitOne K (.ref C_NoFilling) (.ref C_NoFilling) = some true)
    (kt_NoFilling_BadNumber : PySem.W.kitOne K (.ref C_NoFilling) (.ref C_BadNumber) = some false)
    (kt_NoFilling_BadText : PySem.W.kitOne K (.ref C_NoFilling) (.ref C_BadText) = some false)
    (kt_NoFilling_BadPrices : PySem.W.kitOne K (.ref C_NoFilling) (.ref C_BadPrices) = some false)
    (kt_NoFilling_ValueError : PySem.W.kitOne K (.ref C_NoFilling) (.type "ValueError") = some true)
    (kt_BadNumber_BadRow : PySem.W.kitOne K (.ref C_BadNumber) (.ref C_BadRow) = some false)
    (kt_BadNumber_NoFilling : PySem.W.kitOne K (.ref C_BadNumber) (.ref C_NoFilling) = some false)
    (kt_BadNumber_BadNumber : PySem.W.kitOne K (.ref C_BadNumber) (.ref C_BadNumber) = some true)
    (kt_BadNumber_BadText : PySem.W.kitOne K (.ref C_BadNumber) (.ref C_BadText) = some false)
    (kt_BadNumber_BadPrices : PySem.W.kitOne K (.ref C_BadNumber) (.ref C_BadPrices) = some false)
    (kt_BadNumber_ValueError : PySem.W.kitOne K (.ref C_BadNumber) (.type "ValueError") = some true)
    (xga_NoFilling : PySem.W.findIn K (.ref C_NoFilling) "__getattribute__" = some (some (.builtin "BaseException.__getattribute__")))
    (xnh_NoFilling : PySem.W.findIn K (.ref C_NoFilling) "__getattr__" = some none)
    (xca_NoFilling : PySem.W.findIn K (.ref C_NoFilling) "__class__" = some (some (.builtin "object.__class__")))
    (xmo_NoFilling : PySem.W.mroIn K C_NoFilling (.type "object") = some true)
    (xmb_NoFilling : PySem.W.mroIn K C_NoFilling (.type "BaseException") = some true)
    (xci_NoFilling : PySem.W.clsIn K C_NoFilling = some xcd_NoFilling)
    (xm_NoFilling : PySem.W.mroIn K C_NoFilling (.ref C_BracketError) = some true)
    (xga_BadNumber : PySem.W.findIn K (.ref C_BadNumber) "__getattribute__" = some (some (.builtin "BaseException.__getattribute__")))
    (xnh_BadNumber : PySem.W.findIn K (.ref C_BadNumber) "__getattr__" = some none)
    (xca_BadNumber : PySem.W.findIn K (.ref C_BadNumber) "__class__" = some (some (.builtin "object.__class__")))
    (xmo_BadNumber : PySem.W.mroIn K C_BadNumber (.type "object") = some true)
    (xmb_BadNumber : PySem.W.mroIn K C_BadNumber (.type "BaseException") = some true)
    (xci_BadNumber : PySem.W.clsIn K C_BadNumber = some xcd_BadNumber)
    (xm_BadNumber : PySem.W.mroIn K C_BadNumber (.ref C_BracketError) = some true)
    (z_isinstance : PySem.W.nsIn K mainGlobals "isinstance" = some none)
    (z_str : PySem.W.nsIn K mainGlobals "str" = some none)
    (z_all : PySem.W.nsIn K mainGlobals "all" = some none)
    (z_any : PySem.W.nsIn K mainGlobals "any" = some none)
    (z_min : PySem.W.nsIn K mainGlobals "min" = some none)
    (z_max : PySem.W.nsIn K mainGlobals "max" = some none)
    (z_len : PySem.W.nsIn K mainGlobals "len" = some none)
    (z_enumerate : PySem.W.nsIn K mainGlobals "enumerate" = some none)
    (z_sum : PySem.W.nsIn K mainGlobals "sum" = some none)
    (z_range : PySem.W.nsIn K mainGlobals "range" = some none)
    (z_list : PySem.W.nsIn K mainGlobals "list" = some none)
    (z_bool : PySem.W.nsIn K mainGlobals "bool" = some none)
    (z_int : PySem.W.nsIn K mainGlobals "int" = some none)
    (z_tuple : PySem.W.nsIn K mainGlobals "tuple" = some none)
    (z_zip : PySem.W.nsIn K mainGlobals "zip" = some none)
    (z_set : PySem.W.nsIn K mainGlobals "set" = some none)
    (z_sorted : PySem.W.nsIn K mainGlobals "sorted" = some none)
    (z_ValueError : PySem.W.nsIn K mainGlobals "ValueError" = some none)
    : ∃ fd : FuncData, (∀ (s : Shared) (v : Value), BindsTo s fd ⟨[v], []⟩ [("_law_script", v)]) ∧ ∀ base : Heap, K.In base → base.Ns mainGlobals mg → FnOk l.prog w K mg base CX0 7 fa fd ["_law_script"] (sp_law K) := by
  have e := hfa.symm.trans (PySem.W.mg_of X G a_law)
  cases e
  have D_is_row : Def K mg "is_row" s_is_row f_is_row ["value"] := ⟨⟨_, fun_mk (st := s_is_row) l_is_row c_is_row k_is_row, (fun_mk (st := s_is_row) l_is_row c_is_row k_is_row).binds (ps := ["value"]) fun _ _ _ _ _ _ us hl => by obtain ⟨u0, rfl⟩ := us1 hl; rfl⟩, PySem.W.mg_of X G a_is_row⟩
  have D_check_row : Def K mg "check_row" s_check_row f_check_row ["row"] := ⟨⟨_, fun_mk (st := s_check_row) l_check_row c_check_row k_check_row, (fun_mk (st := s_check_row) l_check_row c_check_row k_check_row).binds (ps := ["row"]) fun _ _ _ _ _ _ us hl => by obtain ⟨u0, rfl⟩ := us1 hl; rfl⟩, PySem.W.mg_of X G a_check_row⟩
  have D_running_depths : Def K mg "running_depths" s_running_depths f_running_depths ["text"] := ⟨⟨_, fun_mk (st := s_running_depths) l_running_depths c_running_depths k_running_depths, (fun_mk (st := s_running_depths) l_running_depths c_running_depths k_running_depths).binds (ps := ["text"]) fun _ _ _ _ _ _ us hl => by obtain ⟨u0, rfl⟩ := us1 hl; rfl⟩, PySem.W.mg_of X G a_running_depths⟩
  have D_is_closed : Def K mg "is_closed" s_is_closed f_is_closed ["row"] := ⟨⟨_, fun_mk (st := s_is_closed) l_is_closed c_is_closed k_is_closed, (fun_mk (st := s_is_closed) l_is_closed c_is_closed k_is_closed).binds (ps := ["row"]) fun _ _ _ _ _ _ us hl => by obtain ⟨u0, rfl⟩ := us1 hl; rfl⟩, PySem.W.mg_of X G a_is_closed⟩
  have D_is_filling : Def K mg "is_filling" s_is_filling f_is_filling ["row", "text"] := ⟨⟨_, fun_mk (st := s_is_filling) l_is_filling c_is_filling k_is_filling, (fun_mk (st := s_is_filling) l_is_filling c_is_filling k_is_filling).binds (ps := ["row", "text"]) fun _ _ _ _ _ _ us hl => by obtain ⟨u0, u1, rfl⟩ := us2 hl; rfl⟩, PySem.W.mg_of X G a_is_filling⟩
  have D_overfull : Def K mg "overfull" s_overfull f_overfull ["row", "sign"] := ⟨⟨_, fun_mk (st := s_overfull) l_overfull c_overfull k_overfull, (fun_mk (st := s_overfull) l_overfull c_overfull k_overfull).binds (ps := ["row", "sign"]) fun _ _ _ _ _ _ us hl => by obtain ⟨u0, u1, rfl⟩ := us2 hl; rfl⟩, PySem.W.mg_of X G a_overfull⟩
  have D_what_bars : Def K mg "what_bars" s_what_bars f_what_bars ["row"] := ⟨⟨_, fun_mk (st := s_what_bars) l_what_bars c_what_bars k_what_bars, (fun_mk (st := s_what_bars) l_what_bars c_what_bars k_what_bars).binds (ps := ["row"]) fun _ _ _ _ _ _ us hl => by obtain ⟨u0, rfl⟩ := us1 hl; rfl⟩, PySem.W.mg_of X G a_what_bars⟩
  have D_check_fillable : Def K mg "check_fillable" s_check_fillable f_check_fillable ["row"] := ⟨⟨_, fun_mk (st := s_check_fillable) l_check_fillable c_check_fillable k_check_fillable, (fun_mk (st := s_check_fillable) l_check_fillable c_check_fillable k_check_fillable).binds (ps := ["row"]) fun _ _ _ _ _ _ us hl => by obtain ⟨u0, rfl⟩ := us1 hl; rfl⟩, PySem.W.mg_of X G a_check_fillable⟩
  have D_opened_early : Def K mg "opened_early" s_opened_early f_opened_early ["row"] := ⟨⟨_, fun_mk (st := s_opened_early) l_opened_early c_opened_early k_opened_early, (fun_mk (st := s_opened_early) l_opened_early c_opened_early k_opened_early).binds (ps := ["row"]) fun _ _ _ _ _ _ us hl => by obtain ⟨u0, rfl⟩ := us1 hl; rfl⟩, PySem.W.mg_of X G a_opened_early⟩
  have D_put_in_turn : Def K mg "put_in_turn" s_put_in_turn f_put_in_turn ["waiting", "entry"] := ⟨⟨_, fun_mk (st := s_put_in_turn) l_put_in_turn c_put_in_turn k_put_in_turn, (fun_mk (st := s_put_in_turn) l_put_in_turn c_put_in_turn k_put_in_turn).binds (ps := ["waiting", "entry"]) fun _ _ _ _ _ _ us hl => by obtain ⟨u0, u1, rfl⟩ := us2 hl; rfl⟩, PySem.W.mg_of X G a_put_in_turn⟩
  have D_opened_at_need : Def K mg "opened_at_need" s_opened_at_need f_opened_at_need ["row", "ranks"] := ⟨⟨_, fun_mk (st := s_opened_at_need) l_opened_at_need c_opened_at_need k_opened_at_need, (fun_mk (st := s_opened_at_need) l_opened_at_need c_opened_at_need k_opened_at_need).binds (ps := ["row", "ranks"]) fun _ _ _ _ _ _ us hl => by obtain ⟨u0, u1, rfl⟩ := us2 hl; rfl⟩, PySem.W.mg_of X G a_opened_at_need⟩
  have D_first : Def K mg "first" s_first f_first ["row"] := ⟨⟨_, fun_mk (st := s_first) l_first c_first k_first, (fun_mk (st := s_first) l_first c_first k_first).binds (ps := ["row"]) fun _ _ _ _ _ _ us hl => by obtain ⟨u0, rfl⟩ := us1 hl; rfl⟩, PySem.W.mg_of X G a_first⟩
  have D_last : Def K mg "last" s_last f_last ["row"] := ⟨⟨_, fun_mk (st := s_last) l_last c_last k_last, (fun_mk (st := s_last) l_last c_last k_last).binds (ps := ["row"]) fun _ _ _ _ _ _ us hl => by obtain ⟨u0, rfl⟩ := us1 hl; rfl⟩, PySem.W.mg_of X G a_last⟩
  have D_is_number : Def K mg "is_number" s_is_number f_is_number ["value"] := ⟨⟨_, fun_mk (st := s_is_number) l_is_number c_is_number k_is_number, (fun_mk (st := s_is_number) l_is_number c_is_number k_is_number).binds (ps := ["value"]) fun _ _ _ _ _ _ us hl => by obtain ⟨u0, rfl⟩ := us1 hl; rfl⟩, PySem.W.mg_of X G a_is_number⟩
  have D_ways_from : Def K mg "ways_from" s_ways_from f_ways_from ["row", "place", "behind"] := ⟨⟨_, fun_mk (st := s_ways_from) l_ways_from c_ways_from k_ways_from, (fun_mk (st := s_ways_from) l_ways_from c_ways_from k_ways_from).binds (ps := ["row", "place", "behind"]) fun _ _ _ _ _ _ us hl => by obtain ⟨u0, u1, u2, rfl⟩ := us3 hl; rfl⟩, PySem.W.mg_of X G a_ways_from⟩
  have D_ways_from_each : Def K mg "ways_from_each" s_ways_from_each f_ways_from_each ["row"] := ⟨⟨_, fun_mk (st := s_ways_from_each) l_ways_from_each c_ways_from_each k_ways_from_each, (fun_mk (st := s_ways_from_each) l_ways_from_each c_ways_from_each k_ways_from_each).binds (ps := ["row"]) fun _ _ _ _ _ _ us hl => by obtain ⟨u0, rfl⟩ := us1 hl; rfl⟩, PySem.W.mg_of X G a_ways_from_each⟩
  have D_ways_at : Def K mg "ways_at" s_ways_at f_ways_at ["ways", "depth"] := ⟨⟨_, fun_mk (st := s_ways_at) l_ways_at c_ways_at k_ways_at, (fun_mk (st := s_ways_at) l_ways_at c_ways_at k_ways_at).binds (ps := ["ways", "depth"]) fun _ _ _ _ _ _ us hl => by obtain ⟨u0, u1, rfl⟩ := us2 hl; rfl⟩, PySem.W.mg_of X G a_ways_at⟩
  have D_how_many : Def K mg "how_many" s_how_many f_how_many ["row"] := ⟨⟨_, fun_mk (st := s_how_many) l_how_many c_how_many k_how_many, (fun_mk (st := s_how_many) l_how_many c_how_many k_how_many).binds (ps := ["row"]) fun _ _ _ _ _ _ us hl => by obtain ⟨u0, rfl⟩ := us1 hl; rfl⟩, PySem.W.mg_of X G a_how_many⟩
  have D_told : Def K mg "told" s_told f_told ["row", "number"] := ⟨⟨_, fun_mk (st := s_told) l_told c_told k_told, (fun_mk (st := s_told) l_told c_told k_told).binds (ps := ["row", "number"]) fun _ _ _ _ _ _ us hl => by obtain ⟨u0, u1, rfl⟩ := us2 hl; rfl⟩, PySem.W.mg_of X G a_told⟩
  have D_number_of : Def K mg "number_of" s_number_of f_number_of ["row", "text"] := ⟨⟨_, fun_mk (st := s_number_of) l_number_of c_number_of k_number_of, (fun_mk (st := s_number_of) l_number_of c_number_of k_number_of).binds (ps := ["row", "text"]) fun _ _ _ _ _ _ us hl => by obtain ⟨u0, u1, rfl⟩ := us2 hl; rfl⟩, PySem.W.mg_of X G a_number_of⟩
  have D__law_row : Def K mg "_law_row" s__law_row f__law_row ["_law_script"] := ⟨⟨_, fun_mk (st := s__law_row) l__law_row c__law_row k__law_row, (fun_mk (st := s__law_row) l__law_row c__law_row k__law_row).binds (ps := ["_law_script"]) fun _ _ _ _ _ _ us hl => by obtain ⟨u0, rfl⟩ := us1 hl; rfl⟩, PySem.W.mg_of X G a__law_row⟩
  have D__law_closed : Def K mg "_law_closed" s__law_closed f__law_closed ["_law_text"] := ⟨⟨_, fun_mk (st := s__law_closed) l__law_closed c__law_closed k__law_closed, (fun_mk (st := s__law_closed) l__law_closed c__law_closed k__law_closed).binds (ps := ["_law_text"]) fun _ _ _ _ _ _ us hl => by obtain ⟨u0, rfl⟩ := us1 hl; rfl⟩, PySem.W.mg_of X G a__law_closed⟩
  have D__law_filling : Def K mg "_law_filling" s__law_filling f__law_filling ["_law_row_here", "_law_text"] := ⟨⟨_, fun_mk (st := s__law_filling) l__law_filling c__law_filling k__law_filling, (fun_mk (st := s__law_filling) l__law_filling c__law_filling k__law_filling).binds (ps := ["_law_row_here", "_law_text"]) fun _ _ _ _ _ _ us hl => by obtain ⟨u0, u1, rfl⟩ := us2 hl; rfl⟩, PySem.W.mg_of X G a__law_filling⟩
  have D__law_many : Def K mg "_law_many" s__law_many f__law_many ["_law_row_here"] := ⟨⟨_, fun_mk (st := s__law_many) l__law_many c__law_many k__law_many, (fun_mk (st := s__law_many) l__law_many c__law_many k__law_many).binds (ps := ["_law_row_here"]) fun _ _ _ _ _ _ us hl => by obtain ⟨u0, rfl⟩ := us1 hl; rfl⟩, PySem.W.mg_of X G a__law_many⟩
  have D__law_refused : Def K mg "_law_refused" s__law_refused f__law_refused ["_law_row_here", "_law_number", "_law_due"] := ⟨⟨_, fun_mk (st := s__law_refused) l__law_refused c__law_refused k__law_refused, (fun_mk (st := s__law_refused) l__law_refused c__law_refused k__law_refused).binds (ps := ["_law_row_here", "_law_number", "_law_due"]) fun _ _ _ _ _ _ us hl => by obtain ⟨u0, u1, u2, rfl⟩ := us3 hl; rfl⟩, PySem.W.mg_of X G a__law_refused⟩
  have F_law := fun_mk (st := s_law) l_law c_law k_law
  have D_Early___init__ : DefM K C_Early "__init__" "Early.__init__" s_Early___init__ ["self", "many"] := ⟨f_Early___init__, _, fun_mk (st := s_Early___init__) l_Early___init__ c_Early___init__ k_Early___init__, (fun_mk (st := s_Early___init__) l_Early___init__ c_Early___init__ k_Early___init__).binds (ps := ["self", "many"]) fun _ _ _ _ _ _ us hl => by obtain ⟨u0, u1, rfl⟩ := us2 hl; rfl, a_Early___init__, i_Early___init__⟩
  have D_Late___init__ : DefM K C_Late "__init__" "Late.__init__" s_Late___init__ ["self", "many"] := ⟨f_Late___init__, _, fun_mk (st := s_Late___init__) l_Late___init__ c_Late___init__ k_Late___init__, (fun_mk (st := s_Late___init__) l_Late___init__ c_Late___init__ k_Late___init__).binds (ps := ["self", "many"]) fun _ _ _ _ _ _ us hl => by obtain ⟨u0, u1, rfl⟩ := us2 hl; rfl, a_Late___init__, i_Late___init__⟩
  have O_Uneven : ObjC K mg "Uneven" C_Uneven := ⟨⟨⟨pg_Uneven, hd_Uneven, po_Uneven, sa_Uneven⟩, ca_Uneven, oc_gt, oc_tk, mo_Uneven⟩, PySem.W.mg_of X G n_Uneven, no_Uneven_text, no_Uneven_many, no_Uneven_levels⟩
  have O_Early : ObjC K mg "Early" C_Early := ⟨⟨⟨pg_Early, hd_Early, po_Early, sa_Early⟩, ca_Early, oc_gt, oc_tk, mo_Early⟩, PySem.W.mg_of X G n_Early, no_Early_text, no_Early_many, no_Early_levels⟩
  have O_Late : ObjC K mg "Late" C_Late := ⟨⟨⟨pg_Late, hd_Late, po_Late, sa_Late⟩, ca_Late, oc_gt, oc_tk, mo_Late⟩, PySem.W.mg_of X G n_Late, no_Late_text, no_Late_many, no_Late_levels⟩
  have M_Uneven : Mk0 K C_Uneven := ⟨mk_Uneven, in_Uneven, mo_Uneven, kp_Uneven⟩
  have X_BracketError : ExcC K mg "BracketError" C_BracketError := ⟨x_BracketError, PySem.W.mg_of X G n_BracketError⟩
  have m_BracketError := PySem.W.mg_of X G n_BracketError
  have X_BadRow : ExcC K mg "BadRow" C_BadRow := ⟨x_BadRow, PySem.W.mg_of X G n_BadRow⟩
  have m_BadRow := PySem.W.mg_of X G n_BadRow
  have X_NoFilling : ExcC K mg "NoFilling" C_NoFilling := ⟨x_NoFilling, PySem.W.mg_of X G n_NoFilling⟩
  have m_NoFilling := PySem.W.mg_of X G n_NoFilling
  have X_BadNumber : ExcC K mg "BadNumber" C_BadNumber := ⟨x_BadNumber, PySem.W.mg_of X G n_BadNumber⟩
  have m_BadNumber := PySem.W.mg_of X G n_BadNumber
  have X_BadText : ExcC K mg "BadText" C_BadText := ⟨x_BadText, PySem.W.mg_of X G n_BadText⟩
  have m_BadText := PySem.W.mg_of X G n_BadText
  have m_BadPrices := PySem.W.mg_of X G n_BadPrices
  have XA_NoFilling : XA K C_NoFilling := ⟨xga_NoFilling, xnh_NoFilling, xca_NoFilling, oc_gt, oc_tk, xmo_NoFilling, xmb_NoFilling, by rw [xci_NoFilling]; simp⟩
  have XA_BadNumber : XA K C_BadNumber := ⟨xga_BadNumber, xnh_BadNumber, xca_BadNumber, oc_gt, oc_tk, xmo_BadNumber, xmb_BadNumber, by rw [xci_BadNumber]; simp⟩
  have B : Bl mg := ⟨PySem.W.mg_none_of X G z_isinstance, PySem.W.mg_none_of X G z_str, PySem.W.mg_none_of X G z_all, PySem.W.mg_none_of X G z_any, PySem.W.mg_none_of X G z_min, PySem.W.mg_none_of X G z_max, PySem.W.mg_none_of X G z_len, PySem.W.mg_none_of X G z_enumerate, PySem.W.mg_none_of X G z_sum, PySem.W.mg_none_of X G z_range, PySem.W.mg_none_of X G z_list, PySem.W.mg_none_of X G z_bool, PySem.W.mg_none_of X G z_int, PySem.W.mg_none_of X G z_tuple, PySem.W.mg_none_of X G z_zip, PySem.W.mg_none_of X G z_set, PySem.W.mg_none_of X G z_sorted, PySem.W.mg_none_of X G z_ValueError⟩
  refine ⟨PySem.W.fnOf "law" "law" (defArgs s_law) (defBody s_law) (defScope s_law) .none kV_law dc_law pm_law an_law cd_law ct_law, fun s v => .of_eq rfl, fun base _ _ => ?_⟩
  have KT : KitN K := ⟨by kernel_rfl, by kernel_rfl⟩
  have XT : XcT K mg C_BracketError C_BadRow C_NoFilling C_BadNumber C_BadText C_BadPrices := ⟨x_BracketError, m_BracketError, m_BadRow, m_NoFilling, m_BadNumber, m_BadText, m_BadPrices⟩
  have KN : XcK K C_BracketError C_BadRow C_NoFilling C_BadNumber C_BadText C_BadPrices C_NoFilling false true false false false := ⟨XA_NoFilling, xm_NoFilling, kt_NoFilling_BadRow, kt_NoFilling_NoFilling, kt_NoFilling_BadNumber, kt_NoFilling_BadText, kt_NoFilling_BadPrices, kt_NoFilling_ValueError⟩
  have KM : XcK K C_BracketError C_BadRow C_NoFilling C_BadNumber C_BadText C_BadPrices C_BadNumber false false true false false := ⟨XA_BadNumber, xm_BadNumber, kt_BadNumber_BadRow, kt_BadNumber_NoFilling, kt_BadNumber_BadNumber, kt_BadNumber_BadText, kt_BadNumber_BadPrices, kt_BadNumber_ValueError⟩
  have G_is_row := ok_is_row (P := l.prog) (w := w) (base := base) D_is_row B
  have G_check_row := ok_check_row D_check_row X_BadRow G_is_row
  have G_running_depths := ok_running_depths (P := l.prog) (w := w) (base := base) D_running_depths
  have G_is_closed := ok_is_closed D_is_closed B G_running_depths
  have G_is_filling := ok_is_filling D_is_filling B G_is_row G_is_closed
  have I_Early := ok_Early_init (P := l.prog) (w := w) (base := base) D_Early___init__ O_Early mk_Early kp_Early
  have I_Late := ok_Late_init (P := l.prog) (w := w) (base := base) D_Late___init__ O_Late mk_Late kp_Late
  have G_overfull := ok_overfull (P := l.prog) (w := w) (base := base) D_overfull B
  have G_what_bars := ok_what_bars D_what_bars B O_Uneven M_Uneven I_Early I_Late G_overfull
  have G_opened_early := ok_opened_early (P := l.prog) (w := w) (base := base) D_opened_early B
  have G_check_fillable := ok_check_fillable D_check_fillable X_NoFilling G_check_row G_what_bars
  have G_first := ok_first D_first G_check_fillable.ok G_opened_early
  have G_put_in_turn := ok_put_in_turn (P := l.prog) (w := w) (base := base) D_put_in_turn B
  have G_opened_at_need := ok_opened_at_need D_opened_at_need B G_put_in_turn
  have G_last := ok_last D_last B G_check_fillable G_opened_at_need
  have G_is_number := ok_is_number (P := l.prog) (w := w) (base := base) D_is_number B
  have G_ways_from := ok_ways_from (P := l.prog) (w := w) (base := base) D_ways_from B
  have G_ways_from_each := ok_ways_from_each D_ways_from_each B G_ways_from
  have G_ways_at := ok_ways_at (P := l.prog) (w := w) (base := base) D_ways_at B
  have G_how_many := ok_how_many D_how_many B G_check_row G_ways_from
  have G_told := ok_told D_told B KT X_BadNumber G_check_fillable.ok G_is_number G_ways_from_each G_ways_at
  have G_number_of := ok_number_of D_number_of B X_BadText G_check_fillable.ok G_is_filling G_running_depths G_ways_from G_ways_at
  have G__law_row := ok__law_row (P := l.prog) (w := w) (base := base) D__law_row B
  have G__law_closed := ok__law_closed (P := l.prog) (w := w) (base := base) D__law_closed B
  have G__law_filling := ok__law_filling D__law_filling B G__law_closed
  have G__law_many := ok__law_many (P := l.prog) (w := w) (mg := mg) (base := base) D__law_many
  have G__law_refused := ok__law_refused D__law_refused B XT KN KM G_told
  exact ok_law F_law B G__law_row G_how_many G__law_many G__law_refused G_told G__law_filling G_number_of G_first G_last
theorem walk {l : PySem.W.OpenLaw} {q : Program} {loose : List Str} {XP : (Str → Option Value) → Heap → Prop} {YP : World → Heap → Prop} {d : DefRec} {K : Params → PySem.W.Frag} (hn : l.most = some 63) (hdf : d.params.defaults = [])
    (hY : ∀ (w : World) (h : Heap), YP w h → (K w.params).In h)
    (F : ∀ (w : World) (mg : Str → Option Value) (fa : Addr) (h : Heap), (K w.params).In h → h.Ns mainGlobals mg → mg d.name = some (.ref fa) →
      ∃ fd : FuncData, (∀ (s : Shared) (u : Value), BindsTo s fd ⟨[u], []⟩ [("_law_script", u)]) ∧ ∀ base : Heap, (K w.params).In base → base.Ns mainGlobals mg → FnOk l.prog w (K w.params) mg base CX0 7 fa fd ["_law_script"] (sp_law (K w.params))) :
    PySem.W.WalkO q loose XP YP l.row.toRowW d [] (fun f vs => PySem.call f vs) :=
  L2.walk_of (n := 63) (k := 7) (x := "_law_script") (CX := fun _ => CX0) (sp := fun w => sp_law (K w.params)) hn (by decide) hdf ⟨rfl, by decide, by decide⟩ hY F (fun _ _ a ns hl _ hS => ⟨a, ns, rfl, hS, hl, fun _ => rfl⟩) fun _ _ _ _ _ z => z
end HF
set_option maxRecDepth 100000 in
set_option maxHeartbeats 0 in
theorem HZ.walked : HZ.cap.2.1 := by
  delta HZ.cap; dsimp only
  k_fill
  refine HF.walk (l := PySem.Challenge.rw_halftold_k03_whole_counted) rfl rfl (fun w h Y => PySem.W.kIn_of Y) ?F
  case F =>
    intro w mg fa h KX G hmg
    refine' HF.all_mk KX G hmg ?n_Uneven ?n_Early ?n_Late ?n_BracketError ?n_BadRow ?n_NoFilling ?n_BadNumber ?n_BadText ?n_BadPrices ?a_is_row ?l_is_row ?c_is_row ?k_is_row ?a_check_row ?l_check_row ?c_check_row ?k_check_row ?a_running_depths ?l_running_depths ?c_running_depths ?k_running_depths ?a_is_closed ?l_is_closed ?c_is_closed ?k_is_closed ?a_is_filling ?l_is_filling ?c_is_filling ?k_is_filling ?a_overfull ?l_overfull ?c_overfull ?k_overfull ?a_what_bars ?l_what_bars ?c_what_bars ?k_what_bars ?a_check_fillable ?l_check_fillable ?c_check_fillable ?k_check_fillable ?a_opened_early ?l_opened_early ?c_opened_early ?k_opened_early ?a_put_in_turn ?l_put_in_turn ?c_put_in_turn ?k_put_in_turn ?a_opened_at_need ?l_opened_at_need ?c_opened_at_need ?k_opened_at_need ?a_first ?l_first ?c_first ?k_first ?a_last ?l_last ?c_last ?k_last ?a_is_number ?l_is_number ?c_is_number ?k_is_number ?a_ways_from ?l_ways_from ?c_ways_from ?k_ways_from ?a_ways_from_each ?l_ways_from_each ?c_ways_from_each ?k_ways_from_each ?a_ways_at ?l_ways_at ?c_ways_at ?k_ways_at ?a_how_many ?l_how_many ?c_how_many ?k_how_many ?a_told ?l_told ?c_told ?k_told ?a_number_of ?l_number_of ?c_number_of ?k_number_of ?a__law_row ?l__law_row ?c__law_row ?k__law_row ?a__law_closed ?l__law_closed ?c__law_closed ?k__law_closed ?a__law_filling ?l__law_filling ?c__law_filling ?k__law_filling ?a__law_many ?l__law_many ?c__law_many ?k__law_many ?a__law_refused ?l__law_refused ?c__law_refused ?k__law_refused ?a_law ?l_law ?c_law ?k_law ?a_Early___init__ ?l_Early___init__ ?c_Early___init__ ?k_Early___init__ ?i_Early___init__ ?a_Late___init__ ?l_Late___init__ ?c_Late___init__ ?k_Late___init__ ?i_Late___init__ ?oc_gt ?oc_tk ?pg_Uneven ?hd_Uneven ?po_Uneven ?sa_Uneven ?ca_Uneven ?mo_Uneven ?no_Uneven_text ?no_Uneven_many ?no_Uneven_levels ?pg_Early ?hd_Early ?po_Early ?sa_Early ?ca_Early ?mo_Early ?no_Early_text ?no_Early_many ?no_Early_levels ?pg_Late ?hd_Late ?po_Late ?sa_Late ?ca_Late ?mo_Late ?no_Late_text ?no_Late_many ?no_Late_levels ?mk_Early ?kp_Early ?mk_Late ?kp_Late ?mk_Uneven ?kp_Uneven ?in_Uneven ?x_BracketError ?x_BadRow ?x_NoFilling ?x_BadNumber ?x_BadText ?kt_NoFilling_BadRow ?kt_NoFilling_NoFilling ?kt_NoFilling_BadNumber ?kt_NoFilling_BadText ?kt_NoFilling_BadPrices ?kt_NoFilling_ValueError ?kt_BadNumber_BadRow ?kt_BadNumber_NoFilling ?kt_BadNumber_BadNumber ?kt_BadNumber_BadText ?kt_BadNumber_BadPrices ?kt_BadNumber_ValueError ?xga_NoFilling ?xnh_NoFilling ?xca_NoFilling ?xmo_NoFilling ?xmb_NoFilling ?xci_NoFilling ?xm_NoFilling ?xga_BadNumber ?xnh_BadNumber ?xca_BadNumber ?xmo_BadNumber ?xmb_BadNumber ?xci_BadNumber ?xm_BadNumber ?z_isinstance ?z_str ?z_all ?z_any ?z_min ?z_max ?z_len ?z_enumerate ?z_sum ?z_range ?z_list ?z_bool ?z_int ?z_tuple ?z_zip ?z_set ?z_sorted ?z_ValueError
    (case n_Uneven => k_is)
    (case n_Early => k_is)
    (case n_Late => k_is)
    (case n_BracketError => k_is)
    (case n_BadRow => k_is)
    (case n_NoFilling => k_is)
    (case n_BadNumber => k_is)
    (case n_BadText => k_is)
    (case n_BadPrices => k_is)
    (case a_is_row => k_is)
    (case l_is_row => k_is)
    (case c_is_row => k_is)
    (case k_is_row => k_is)
    (case a_check_row => k_is)
    (case l_check_row => k_is)
    (case c_check_row => k_is)
    (case k_check_row => k_is)
    (case a_running_depths => k_is)
    (case l_running_depths => k_is)
    (case c_running_depths => k_is)
    (case k_running_depths => k_is)
    (case a_is_closed => k_is)
    (case l_is_closed => k_is)
    (case c_is_closed => k_is)
    (case k_is_closed => k_is)
    (case a_is_filling => k_is)
    (case l_is_filling => k_is)
    (case c_is_filling => k_is)
    (case k_is_filling => k_is)
    (case a_overfull => k_is)
    (case l_overfull => k_is)
    (case c_overfull => k_is)
    (case k_overfull => k_is)
    (case a_what_bars => k_is)
    (case l_what_bars => k_is)
    (case c_what_bars => k_is)
    (case k_what_bars => k_is)
    (case a_check_fillable => k_is)
    (case l_check_fillable => k_is)
    (case c_check_fillable => k_is)
    (case k_check_fillable => k_is)
    (case a_opened_early => k_is)
    (case l_opened_early => k_is)
    (case c_opened_early => k_is)
    (case k_opened_early => k_is)
    (case a_put_in_turn => k_is)
    (case l_put_in_turn => k_is)
    (case c_put_in_turn => k_is)
    (case k_put_in_turn => k_is)
    (case a_opened_at_need => k_is)
    (case l_opened_at_need => k_is)
    (case c_opened_at_need => k_is)
    (case k_opened_at_need => k_is)
    (case a_first => k_is)
    (case l_first => k_is)
    (case c_first => k_is)
    (case k_first => k_is)
    (case a_last => k_is)
    (case l_last => k_is)
    (case c_last => k_is)
    (case k_last => k_is)
    (case a_is_number => k_is)
    (case l_is_number => k_is)
    (case c_is_number => k_is)
    (case k_is_number => k_is)
    (case a_ways_from => k_is)
    (case l_ways_from => k_is)
    (case c_ways_from => k_is)
    (case k_ways_from => k_is)
    (case a_ways_from_each => k_is)
    (case l_ways_from_each => k_is)
    (case c_ways_from_each => k_is)
    (case k_ways_from_each => k_is)
    (case a_ways_at => k_is)
    (case l_ways_at => k_is)
    (case c_ways_at => k_is)
    (case k_ways_at => k_is)
    (case a_how_many => k_is)
    (case l_how_many => k_is)
    (case c_how_many => k_is)
    (case k_how_many => k_is)
    (case a_told => k_is)
    (case l_told => k_is)
    (case c_told => k_is)
    (case k_told => k_is)
    (case a_number_of => k_is)
    (case l_number_of => k_is)
    (case c_number_of => k_is)
    (case k_number_of => k_is)
    (case a__law_row => k_is)
    (case l__law_row => k_is)
    (case c__law_row => k_is)
    (case k__law_row => k_is)
    (case a__law_closed => k_is)
    (case l__law_closed => k_is)
    (case c__law_closed => k_is)
    (case k__law_closed => k_is)
    (case a__law_filling => k_is)
    (case l__law_filling => k_is)
    (case c__law_filling => k_is)
    (case k__law_filling => k_is)
    (case a__law_many => k_is)
    (case l__law_many => k_is)
    (case c__law_many => k_is)
    (case k__law_many => k_is)
    (case a__law_refused => k_is)
    (case l__law_refused => k_is)
    (case c__law_refused => k_is)
    (case k__law_refused => k_is)
    (case a_law => k_is)
    (case l_law => k_is)
    (case c_law => k_is)
    (case k_law => k_is)
    (case a_Early___init__ => k_is)
    (case l_Early___init__ => k_is)
    (case c_Early___init__ => k_is)
    (case k_Early___init__ => k_is)
    (case i_Early___init__ => k_is)
    (case a_Late___init__ => k_is)
    (case l_Late___init__ => k_is)
    (case c_Late___init__ => k_is)
    (case k_Late___init__ => k_is)
    (case i_Late___init__ => k_is)
    (case oc_gt => k_is)
    (case oc_tk => k_is)
    (case pg_Uneven => k_is)
    (case hd_Uneven => k_is)
    (case po_Uneven => k_is)
    (case sa_Uneven => k_is)
    (case ca_Uneven => k_is)
    (case mo_Uneven => k_is)
    (case no_Uneven_text => k_is)
    (case no_Uneven_many => k_is)
    (case no_Uneven_levels => k_is)
    (case pg_Early => k_is)
    (case hd_Early => k_is)
    (case po_Early => k_is)
    (case sa_Early => k_is)
    (case ca_Early => k_is)
    (case mo_Early => k_is)
    (case no_Early_text => k_is)
    (case no_Early_many => k_is)
    (case no_Early_levels => k_is)
    (case pg_Late => k_is)
    (case hd_Late => k_is)
    (case po_Late => k_is)
    (case sa_Late => k_is)
    (case ca_Late => k_is)
    (case mo_Late => k_is)
    (case no_Late_text => k_is)
    (case no_Late_many => k_is)
    (case no_Late_levels => k_is)
    (case mk_Early => k_is)
    (case kp_Early => k_is)
    (case mk_Late => k_is)
    (case kp_Late => k_is)
    (case mk_Uneven => k_is)
    (case kp_Uneven => k_is)
    (case in_Uneven => k_is)
    (case x_BracketError => (unfold L2.XC; k_exc))
    (case x_BadRow => (unfold L2.XC; k_exc))
    (case x_NoFilling => (unfold L2.XC; k_exc))
    (case x_BadNumber => (unfold L2.XC; k_exc))
    (case x_BadText => (unfold L2.XC; k_exc))
    (case kt_NoFilling_BadRow => kernel_rfl)
    (case kt_NoFilling_NoFilling => kernel_rfl)
    (case kt_NoFilling_BadNumber => kernel_rfl)
    (case kt_NoFilling_BadText => kernel_rfl)
    (case kt_NoFilling_BadPrices => kernel_rfl)
    (case kt_NoFilling_ValueError => kernel_rfl)
    (case kt_BadNumber_BadRow => kernel_rfl)
    (case kt_BadNumber_NoFilling => kernel_rfl)
    (case kt_BadNumber_BadNumber => kernel_rfl)
    (case kt_BadNumber_BadText => kernel_rfl)
    (case kt_BadNumber_BadPrices => kernel_rfl)
    (case kt_BadNumber_ValueError => kernel_rfl)
    (case xga_NoFilling => k_is)
    (case xnh_NoFilling => k_is)
    (case xca_NoFilling => k_is)
    (case xmo_NoFilling => k_is)
    (case xmb_NoFilling => k_is)
    (case xci_NoFilling => k_is)
    (case xm_NoFilling => k_is)
    (case xga_BadNumber => k_is)
    (case xnh_BadNumber => k_is)
    (case xca_BadNumber => k_is)
    (case xmo_BadNumber => k_is)
    (case xmb_BadNumber => k_is)
    (case xci_BadNumber => k_is)
    (case xm_BadNumber => k_is)
    (case z_isinstance => k_is)
    (case z_str => k_is)
    (case z_all => k_is)
    (case z_any => k_is)
    (case z_min => k_is)
    (case z_max => k_is)
    (case z_len => k_is)
    (case z_enumerate => k_is)
    (case z_sum => k_is)
    (case z_range => k_is)
    (case z_list => k_is)
    (case z_bool => k_is)
    (case z_int => k_is)
    (case z_tuple => k_is)
    (case z_zip => k_is)
    (case z_set => k_is)
    (case z_sorted => k_is)
    (case z_ValueError => k_is)
theorem PySem.Challenge.cw_halftold_k03_whole_counted_holds : PySem.Challenge.rw_halftold_k03_whole_counted.Holds :=
  HZ.cap.2.2 HZ.left HZ.walked

