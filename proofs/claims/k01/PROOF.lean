import PyProof.Rows.All
import OpenK.KLine
import OpenK.KOwn
import KE.KxBytes
import KE.KPairTest
import KE.KDictOf
import OpenK.KEqL
import KE.KFromBytes
import KE.KIsAll
import KE.KItem
import PySem.Challenge.RW_halftold_k01_whole_filled
set_option Elab.async false
section
open PySem PySem.W PyProof.Rows
structure HZ.W1 (T : Prop) : Prop where
  out : T
structure HZ.W2 (T : Prop) : Prop where
  out : T
open Lean in
local macro_rules
  | `(tactic| refine $f:ident $args*) => do
    let mut met := false
    let mut as := #[]
    for a in args do
      if a.raw.isOfKind `Lean.Parser.Term.syntheticHole && a.raw[1].getId == `hl then
        met := true
        as := as.push ⟨(← `((HZ.W1.out (by assumption)))).raw⟩
      else if a.raw.isOfKind `Lean.Parser.Term.syntheticHole && a.raw[1].getId == `hc then
        as := as.push ⟨(← `((HZ.W2.out (by assumption)))).raw⟩
      else as := as.push a
    if met then `(tactic| refine $f:ident $as*) else Lean.Macro.throwUnsupported
set_option maxRecDepth 100000 in
set_option maxHeartbeats 0 in
noncomputable def HZ.cap : (T : Prop) ×' (C : Prop) ×' (T → C → PySem.Challenge.rw_halftold_k01_whole_filled.Holds) := ⟨_, _, by
  intro h1 h2
  have hT := HZ.W1.mk h1
  have hC := HZ.W2.mk h2
  clear h1 h2
  w_on; o_law; k_head
  w_witness2⟩
noncomputable def HZ.ofL : List Obj → Nat → BT → BT
  | [], _, t => t
  | o :: l, n, t => HZ.ofL l (n + 1) (t.ins n o)
noncomputable def HZ.runT (tb : String → Option Builtin) (p : Program) (w : World) (n₀ : Nat) (ann : Option Value) : Nat → SharedT → Thread → Option SharedT
  | 0, _, _ => none
  | n + 1, s, t => match through t with
    | true => some s
    | false => match stepOk n₀ ann t with
      | false => none
      | true => match stepT (denote tb) p w s t with
        | some (s', t') => HZ.runT tb p w n₀ ann n s' t'
        | none => none
theorem HZ.run_of {tb : String → Option Builtin} {p : Program} {w : World} {n₀ : Nat} {ann : Option Value} : ∀ {n : Nat} {s r : SharedT} {t : Thread}, HZ.runT tb p w n₀ ann n s t = some r → topRun tb p w n₀ ann n s.abs t = some r.abs
  | 0, _, _, _, h => by cases h
  | n + 1, s, r, t, h => by
    unfold HZ.runT at h
    unfold topRun
    cases he : through t with
    | true => rw [he] at h; cases h; rfl
    | false =>
      rw [he] at h
      cases hk : stepOk n₀ ann t with
      | false => rw [hk] at h; cases h
      | true =>
        rw [hk] at h
        cases hs : stepT (denote tb) p w s t with
        | none => rw [hs] at h; cases h
        | some q => obtain ⟨s₂, t₂⟩ := q; rw [hs] at h; rw [stepT_spec hs]; exact HZ.run_of h
noncomputable def HZ.bootT (P : Params) : BT := HZ.ofL (boot_heap P).objs.toList 0 .nil
noncomputable def HZ.bootS (w : World) (os : OsState) : SharedT := ⟨HZ.bootT w.params, (boot_heap w.params).objs.size, (boot_heap w.params).life, Array.mk [], boot_drawn, boot_toks, os⟩
set_option maxRecDepth 100000 in
set_option maxHeartbeats 0 in
theorem HZ.boot_abs (w : World) : absHeap (HZ.bootT w.params) (boot_heap w.params).objs.size (boot_heap w.params).life = boot_heap w.params := by kernel_rfl
theorem HZ.lift {p : Program} {N : Nat} {w : World} {os : OsState} {n₀ : Nat} {ann : Option Value} {t : Thread} {α : Type} {F : Shared → α} {a : α} (h : (HZ.runT treeTable p w n₀ ann N (HZ.bootS w os) t).map (fun r => F r.abs) = some a) :
    (topRun treeTable p w n₀ ann N ⟨boot_heap w.params, Array.mk [], boot_drawn, boot_toks, os⟩ t).map F = some a := by
  obtain ⟨r, h1, h2⟩ := Option.map_eq_some_iff.mp h
  have e := HZ.run_of h1
  have b : (HZ.bootS w os).abs = ⟨boot_heap w.params, Array.mk [], boot_drawn, boot_toks, os⟩ := congrArg (fun h => Shared.mk h (Array.mk []) boot_drawn boot_toks os) (HZ.boot_abs w)
  rw [b] at e
  rw [e]
  exact congrArg some h2
theorem HZ.two {α β γ : Type} {o : Option α} {f : α → β} {g : α → γ} {a : β} {b : γ} (h1 : o.map f = some a) (h2 : o.map g = some b) : o.map (fun s => (f s, g s)) = some (a, b) := by
  cases o with
  | none => cases h1
  | some x => cases h1; cases h2; rfl
theorem HZ.boot {p : Program} {N : Nat} {w : World} {α : Type} {F : Shared → α} {a : α} (b : (fencedOpening treeTable p w N).map (fun s => (s.heap, s.gens, s.drawn, s.toks)) = some (boot_heap w.params, Array.mk [], boot_drawn, boot_toks))
    (h : ∀ os, (topFrom treeTable p w N ⟨boot_heap w.params, Array.mk [], boot_drawn, boot_toks, os⟩).map F = some a) : (openEnds treeTable p w N).map F = some a := by
  obtain ⟨s, hs, hv⟩ := Option.map_eq_some_iff.mp b
  unfold openEnds
  rw [hs]
  obtain ⟨hp, g, d, t, os⟩ := s
  cases hv
  exact h os
theorem HZ.top {p : Program} {N : Nat} {w : World} {S : Shared} {α : Type} {F : Shared → α} {a : α} (c : (S.heap.isNs mainGlobals && S.gens.size == 0) = true)
    (r1 : (topRun treeTable p w S.heap.objs.size (S.heap.nsMap mainGlobals "__annotations__") N S (topStub p)).map (fun t => staticsOk (importedModules p.main.body) S.heap t.heap && namesBound p t.heap && gensDone t && laidKept S.heap t.heap) = some true)
    (r2 : (topRun treeTable p w S.heap.objs.size (S.heap.nsMap mainGlobals "__annotations__") N S (topStub p)).map F = some a) : (topFrom treeTable p w N S).map F = some a := by
  obtain ⟨t, h1, e1⟩ := Option.map_eq_some_iff.mp r1
  unfold topFrom
  rw [c]
  dsimp only
  rw [h1] at r2 ⊢
  rw [Option.bind_some, e1]
  exact r2
set_option maxRecDepth 100000 in
set_option maxHeartbeats 0 in
noncomputable def HZ.cut : (A : World → OsState → Prop) ×' (B : World → OsState → Prop) ×' (C : World → OsState → Prop) ×' (D : World → OsState → Prop) ×' (E : World → OsState → Prop) ×' (F : World → OsState → Prop) ×' (G : World → OsState → Prop) ×'
    ((∀ w os, A w os) → (∀ w os, B w os) → (∀ w os, C w os) → (∀ w os, D w os) → (∀ w os, E w os) → (∀ w os, F w os) → (∀ w os, G w os) → HZ.cap.1) := ⟨_, _, _, _, _, _, _, by
  delta HZ.cap; dsimp only
  exact fun h1 h2 h3 h4 h5 h6 h7 w => HZ.boot (boot_open rfl rfl (fun _ => rfl) w) fun os => HZ.top (by kernel_rfl) (HZ.lift (h1 w os)) (HZ.two (HZ.two (HZ.lift (h2 w os)) (HZ.two (HZ.lift (h3 w os)) (HZ.two (HZ.lift (h4 w os)) (HZ.two (HZ.lift (h5 w os)) (HZ.lift (h6 w os)))))) (HZ.lift (h7 w os)))⟩
set_option maxRecDepth 100000 in
set_option maxHeartbeats 0 in
theorem HZ.left1 : ∀ w os, HZ.cut.1 w os := by
  delta HZ.cut; dsimp only
  intro w os; kernel_rfl
set_option maxRecDepth 100000 in
set_option maxHeartbeats 0 in
theorem HZ.left2 : ∀ w os, HZ.cut.2.1 w os := by
  delta HZ.cut; dsimp only
  intro w os; kernel_rfl
set_option maxRecDepth 100000 in
set_option maxHeartbeats 0 in
theorem HZ.left3 : ∀ w os, HZ.cut.2.2.1 w os := by
  delta HZ.cut; dsimp only
  intro w os; kernel_rfl
set_option maxRecDepth 100000 in
set_option maxHeartbeats 0 in
theorem HZ.left4 : ∀ w os, HZ.cut.2.2.2.1 w os := by
  delta HZ.cut; dsimp only
  intro w os; kernel_rfl
set_option maxRecDepth 100000 in
set_option maxHeartbeats 0 in
theorem HZ.left5 : ∀ w os, HZ.cut.2.2.2.2.1 w os := by
  delta HZ.cut; dsimp only
  intro w os; kernel_rfl
set_option maxRecDepth 100000 in
set_option maxHeartbeats 0 in
theorem HZ.left6 : ∀ w os, HZ.cut.2.2.2.2.2.1 w os := by
  delta HZ.cut; dsimp only
  intro w os; kernel_rfl
set_option maxRecDepth 100000 in
set_option maxHeartbeats 0 in
theorem HZ.left7 : ∀ w os, HZ.cut.2.2.2.2.2.2.1 w os := by
  delta HZ.cut; dsimp only
  intro w os; kernel_rfl
theorem HZ.left : HZ.cap.1 := HZ.cut.2.2.2.2.2.2.2 HZ.left1 HZ.left2 HZ.left3 HZ.left4 HZ.left5 HZ.left6 HZ.left7
end
set_option Elab.async false
set_option linter.all false
set_option maxRecDepth 100000
namespace L2
open PySem PySem.Spec PyProof.Rows
/-- a key: an int or a str -/
abbrev Key := Sum Int Str
def keyIs : Key → Value → Bool
  | .inl k, v => Value.isInt k v
  | .inr x, v => Value.isStrOf x v
def keyH (w : World) : Key → Int
  | .inl k => hashInt k
  | .inr x => hashStr w x
theorem keyIs_shape : ∀ {k : Key} {v : Value}, keyIs k v = true → (∃ i t, k = Sum.inl i ∧ v = Value.int i t) ∨ (∃ x t, k = Sum.inr x ∧ v = Value.str x t)
  | .inl i, v, h => by
    obtain ⟨t, e⟩ := Value.isInt_shape (k := i) (v := v) h
    exact .inl ⟨i, t, rfl, e⟩
  | .inr x, v, h => by
    obtain ⟨t, e⟩ := Value.isStrOf_shape (x := x) (v := v) h
    exact .inr ⟨x, t, rfl, e⟩
theorem keyIs_int (i : Int) (t : Tok) : keyIs (.inl i) (.int i t) = true := by simp [keyIs, Value.isInt]
theorem keyIs_str (x : Str) (t : Tok) : keyIs (.inr x) (.str x t) = true := by simp [keyIs, Value.isStrOf]
theorem key_ll (a b : Int) : decide ((Sum.inl a : Key) = Sum.inl b) = (a == b) := by
  by_cases e : a = b
  · subst e; simp
  · have h : ¬ (Sum.inl a : Key) = Sum.inl b := fun q => e (Sum.inl.inj q)
    rw [decide_eq_false h]
    exact (beq_eq_false_iff_ne.mpr e).symm
theorem key_rr (a b : Str) : decide ((Sum.inr a : Key) = Sum.inr b) = decide (a = b) := by
  by_cases e : a = b
  · subst e; simp
  · have h : ¬ (Sum.inr a : Key) = Sum.inr b := fun q => e (Sum.inr.inj q)
    rw [decide_eq_false h, decide_eq_false e]
theorem key_lr (a : Int) (b : Str) : decide ((Sum.inl a : Key) = Sum.inr b) = false := decide_eq_false (fun q => nomatch q)
theorem key_rl (a : Str) (b : Int) : decide ((Sum.inr a : Key) = Sum.inl b) = false := decide_eq_false (fun q => nomatch q)
def mixKind (prog : Program) (w : World) : PySem.KeyKind prog w Key where
  is := keyIs
  hash := keyH w
  inj := fun v a b ha hb => by
    rcases keyIs_shape ha with ⟨i, t, rfl, rfl⟩ | ⟨x, t, rfl, rfl⟩
    · rcases keyIs_shape hb with ⟨j, u, rfl, e⟩ | ⟨y, u, rfl, e⟩
      · injection e with e1 _; rw [e1]
      · exact nomatch e
    · rcases keyIs_shape hb with ⟨j, u, rfl, e⟩ | ⟨y, u, rfl, e⟩
      · exact nomatch e
      · injection e with e1 _; rw [e1]
  byValue := fun k v h => by
    rcases keyIs_shape h with ⟨i, t, rfl, rfl⟩ | ⟨x, t, rfl, rfl⟩ <;> rfl
  pyHash := fun hv h => by
    rcases keyIs_shape hv with ⟨i, t, rfl, rfl⟩ | ⟨x, t, rfl, rfl⟩
    · exact wpAny_pyHash_int h
    · exact wpAny_pyHash_str h
  eqBool := fun hu hv h => by
    rcases keyIs_shape hu with ⟨i, t, rfl, rfl⟩ | ⟨x, t, rfl, rfl⟩
    · rcases keyIs_shape hv with ⟨j, u, rfl, rfl⟩ | ⟨y, u, rfl, rfl⟩
      · rw [key_ll] at h; exact wpAny_eqBool_int h
      · rw [key_lr] at h; exact SeqAt.EqAt.int_str i t y u _ _ _ _ h
    · rcases keyIs_shape hv with ⟨j, u, rfl, rfl⟩ | ⟨y, u, rfl, rfl⟩
      · rw [key_rl] at h; exact SeqAt.EqAt.str_int x t j u _ _ _ _ h
      · rw [key_rr] at h; exact wpAny_eqBool_str h
  «strs» := fun k x t v h => by
    rcases keyIs_shape h with ⟨i, u, rfl, e⟩ | ⟨y, u, rfl, e⟩
    · exact nomatch e
    · injection e with e1 _
      subst e1
      cases v <;> rfl
theorem mixKind_int (prog : Program) (w : World) (i : Int) (t : Tok) : (mixKind prog w).is (.inl i) (.int i t) = true := keyIs_int i t
theorem mixKind_str (prog : Program) (w : World) (x : Str) (t : Tok) : (mixKind prog w).is (.inr x) (.str x t) = true := keyIs_str x t
end L2
namespace L2
open PySem PySem.Spec PyProof.Rows
/-- a value, without the heap -/
inductive V where
  | non | bl (b : Bool) | int (i : Int) | str (x : Str) | byt (b : Array UInt8) | flt (b : UInt64) | ref (a : Addr) | ty (n : String)
  deriving DecidableEq
def RelV : V → Value → Prop
  | .non, u => u = Value.none
  | .bl b, u => u = Value.bool b
  | .int i, u => ∃ t, u = Value.int i t
  | .str x, u => ∃ t, u = Value.str x t
  | .byt b, u => ∃ t, u = Value.bytes b t
  | .flt b, u => ∃ t, u = Value.float b t
  | .ref a, u => u = Value.ref a
  | .ty n, u => u = Value.type n
abbrev Vals : List V → List Value → Prop := Paired RelV
theorem Vals.length {xs : List V} {us : List Value} (r : Vals xs us) : xs.length = us.length := Paired.length r
theorem Vals.get : ∀ {xs : List V} {us : List Value} {i : Nat} {x : V}, Vals xs us → xs[i]? = some x → ∃ u, us[i]? = some u ∧ RelV x u
  | _, _, _, _, .nil, e => by simp at e
  | _, _, 0, _, .cons r _, e => by simp at e; subst e; exact ⟨_, rfl, r⟩
  | _, _, i + 1, x, .cons _ t, e => by
    obtain ⟨u, h1, h2⟩ := Vals.get (i := i) (x := x) t (by simpa using e)
    exact ⟨u, by simpa using h1, h2⟩
theorem Vals.set {x : V} {u : Value} (r : RelV x u) : ∀ {xs : List V} {us : List Value} (i : Nat), Vals xs us → Vals (xs.set i x) (us.set i u)
  | _, _, _, .nil => .nil
  | _, _, 0, .cons _ t => .cons r t
  | _, _, i + 1, .cons q t => .cons q (Vals.set r i t)
theorem Vals.append : ∀ {xs ys : List V} {us ws : List Value}, Vals xs us → Vals ys ws → Vals (xs ++ ys) (us ++ ws)
  | _, _, _, _, .nil, s => s
  | _, _, _, _, .cons r t, s => .cons r (Vals.append t s)
theorem Vals.take : ∀ {xs : List V} {us : List Value} (n : Nat), Vals xs us → Vals (xs.take n) (us.take n)
  | _, _, 0, _ => .nil
  | _, _, _ + 1, .nil => .nil
  | _, _, n + 1, .cons r t => .cons r (Vals.take n t)
theorem Vals.drop : ∀ {xs : List V} {us : List Value} (n : Nat), Vals xs us → Vals (xs.drop n) (us.drop n)
  | _, _, 0, r => r
  | _, _, _ + 1, .nil => .nil
  | _, _, n + 1, .cons _ t => Vals.drop n t
theorem Vals.none_of : ∀ {xs : List V} {us : List Value} {i : Nat}, Vals xs us → xs[i]? = none → us[i]? = none := fun {xs us i} r e => by
  have h1 := r.length
  have h2 : xs.length ≤ i := List.getElem?_eq_none_iff.mp e
  exact List.getElem?_eq_none_iff.mpr (by omega)
def RelO : Option V → Option Value → Prop
  | some v, some u => RelV v u
  | none, none => True
  | _, _ => False
def KV {κ : Type} : List (κ × V) → List (κ × Value) → Prop := Paired fun (p : κ × V) (q : κ × Value) => p.1 = q.1 ∧ RelV p.2 q.2
/-- a key of a dict (00_mix): an int or a text -/
def kV : Key → V
  | .inl i => .int i
  | .inr x => .str x
/-- what stands at a tracked address -/
inductive HO where
  /-- a list -/
  | lst (xs : List V)
  /-- a tuple (never changes) -/
  | tup (xs : List V)
  /-- a dict whose keys are ints and texts; one whose keys are tuples of ints and texts (the empty one is both) -/
  | dK (kvs : List (Key × V)) | dT (kvs : List (List Key × V))
  /-- a set of ints: its members, its size -/
  | set (S : Int → Bool) (n : Nat)
  /-- an instance of the class at C, its dict at dx, its attributes -/
  | ins (C dx : Addr) (fs : List (Str × V))
  /-- the dict of the instance at x -/
  | own (x : Addr)
  /-- the dict of an exception -/
  | xd (fs : List (Str × V))
  /-- a bound method, f of x -/
  | met (f x : Addr)
  /-- a range object lo, lo + 1, .. below hi -/
  | rng (lo hi : Int)
  /-- a thing that is known to the object (the script; a dict while a loop walks it): read, never written while it is so -/
  | frz (o : Obj) (u : HO)
  /-- a code object's table -/
  | tbl (ps : Array Value)
  /-- any other thing, by what is true of its one object (a def of one's own: SetO a S n := HO.ext fun h => ..) -/
  | ext (φ : Heap → Prop)
abbrev Hp := Addr → Option HO
def upd (H : Hp) (a : Addr) (o : HO) : Hp := fun b => if b = a then some o else H b
theorem upd_same {H : Hp} {a : Addr} {o : HO} : upd H a o a = some o := by unfold upd; rw [if_pos rfl]
theorem upd_ne {H : Hp} {a b : Addr} {o : HO} (h : b ≠ a) : upd H a o b = H b := by unfold upd; rw [if_neg h]
theorem ne_of_none {H : Hp} {a b : Addr} {o : HO} (h : H a = some o) (h' : H b = none) : a ≠ b := by
  intro e; subst e; rw [h] at h'; cases h'
section
variable (P : Program) (w : World)
def ObjOk (H : Hp) (h : Heap) (a : Addr) : HO → Prop
  | .lst xs => xs.length ≤ sizeLine ∧ ∃ (its : List Value) (n : Nat), Vals xs its ∧ h.get? a = some { cls := .type "list", data := .seq its.toArray n }
  | .tup xs => xs.length ≤ sizeLine ∧ ∃ its : List Value, Vals xs its ∧ IsTup h a its.toArray
  | .dK kvs => kvs.length ≤ sizeLine ∧ (a == sysModules) = false ∧ ∃ vs, KV kvs vs ∧ h.DictOf (mixKind P w) a vs
  | .dT kvs => kvs.length ≤ sizeLine ∧ (a == sysModules) = false ∧ ∃ xs : List (List Key × Addr × Value),
      Paired (fun (p : List Key × V) (q : List Key × Addr × Value) => p.1 = q.1 ∧ H q.2.1 = some (.tup (p.1.map kV)) ∧ RelV p.2 q.2.2) kvs xs ∧
      ∃ o es ep, h.get? a = some o ∧ o.ExactDict ∧ o.data = .dict es ep ∧ es.toList = xs.map (entryOfKey (tupleKind (mixKind P w))) ∧ (xs.map (·.1)).Nodup
  | .set S n => h.SetOf (intKind P w) a S n
  | .ins C dx fs => H dx = some (.own a) ∧ fs.length ≤ 1000 ∧ dx ≠ a ∧ h.get? a = some (PySem.W.instObj C dx) ∧
      ∃ mA, h.Ns1 dx mA ∧ (∀ f, RelO (fs.lookup f) (mA f)) ∧ PySem.Within mA (fs.map (·.1))
  | .own _ => ∃ o, h.get? a = some o
  | .xd fs => ∃ mA, h.Ns1 a mA ∧ ∀ f, RelO (fs.lookup f) (mA f)
  | .rng lo hi => ∃ t u v, h.get? a = some { cls := .type "range", data := .fields #[.int lo t, .int hi u, .int 1 v] }
  | .frz o u => h.get? a = some o ∧ ObjOk H h a u
  | .tbl ps => h.get? a = some { cls := .none, data := .fields ps }
  | .met f x => h.get? a = some (PySem.W.methodObj (.ref f) (.ref x))
  | .ext φ => φ h ∧ (∃ o, h.get? a = some o) ∧ ∀ h1 h2 : Heap, φ h1 → (∀ o, h1.get? a = some o → h2.get? a = some o) → φ h2
/-- the abstract heap is held -/
def HOk (H : Hp) (h : Heap) : Prop := ∀ a o, H a = some o → ObjOk P w H h a o
end
section
variable {P : Program} {w : World} {H H' : Hp} {h h' : Heap} {a : Addr} {o : HO}
theorem ObjOk.lt (x : ObjOk P w H h a o) : a < h.objs.size := by
  cases o with
  | lst xs => obtain ⟨_, _, _, _, e⟩ := x; exact Heap.lt_size e
  | tup xs => obtain ⟨_, _, _, p⟩ := x; exact p.lt
  | dK kvs => obtain ⟨_, _, _, _, o, _, _, e, _⟩ := x; exact Heap.lt_size e
  | dT kvs => obtain ⟨_, _, _, _, o, _, _, e, _⟩ := x; exact Heap.lt_size e
  | set S n => obtain ⟨o, _, _, _, e, _⟩ := x; exact Heap.lt_size e
  | ins C dx fs => obtain ⟨_, _, _, e, _⟩ := x; exact Heap.lt_size e
  | own y => obtain ⟨_, e⟩ := x; exact Heap.lt_size e
  | xd fs => obtain ⟨_, ⟨_, _, _, e, _⟩, _⟩ := x; exact Heap.lt_size e
  | rng lo hi => obtain ⟨_, _, _, e⟩ := x; exact Heap.lt_size e
  | frz ob u => obtain ⟨e, _⟩ := x; exact Heap.lt_size e
  | tbl ps => exact Heap.lt_size (show h.get? a = some _ from x)
  | met f y => exact Heap.lt_size (show h.get? a = some _ from x)
  | ext φ => obtain ⟨_, ⟨_, e⟩, _⟩ := x; exact Heap.lt_size e
theorem Paired.mapP {α β : Type} {F G : α → β → Prop} : ∀ {l₁ : List α} {l₂ : List β}, Paired F l₁ l₂ → (∀ a b, F a b → G a b) → Paired G l₁ l₂
  | _, _, .nil, _ => .nil
  | _, _, .cons r t, f => .cons (f _ _ r) (Paired.mapP t f)
theorem Paired.imp' {α β : Type} {F G : α → β → Prop} (f : ∀ a b, F a b → G a b) {l₁ : List α} {l₂ : List β} (r : Paired F l₁ l₂) : Paired G l₁ l₂ := Paired.mapP r f
/-- what an object's description leans on: its own object, its own dict, the tuples -/
theorem ObjOk.stay (x : ObjOk P w H h a o) (k : ∀ b u, (b = a ∨ H b = some (.own a)) → h.get? b = some u → h'.get? b = some u)
    (ho : ∀ b, H b = some (.own a) → H' b = some (.own a)) (ht : ∀ b xs, H b = some (.tup xs) → H' b = some (.tup xs)) : ObjOk P w H' h' a o := by
  induction o with
  | lst xs => obtain ⟨z, its, n, r, e⟩ := x; exact ⟨z, its, n, r, k _ _ (.inl rfl) e⟩
  | tup xs => obtain ⟨z, its, r, ob, e, c⟩ := x; exact ⟨z, its, r, ob, k _ _ (.inl rfl) e, c⟩
  | dK kvs => obtain ⟨z, y, vs, r, ob, es, ep, e, c⟩ := x; exact ⟨z, y, vs, r, ob, es, ep, k _ _ (.inl rfl) e, c⟩
  | dT kvs =>
    obtain ⟨z, y, xs, r, ob, es, ep, e, c⟩ := x
    exact ⟨z, y, xs, Paired.mapP r fun p q z => ⟨z.1, ht _ _ z.2.1, z.2.2⟩, ob, es, ep, k _ _ (.inl rfl) e, c⟩
  | set S n => obtain ⟨ob, es, ep, t, e, c⟩ := x; exact ⟨ob, es, ep, t, k _ _ (.inl rfl) e, c⟩
  | ins C dx fs =>
    obtain ⟨d, z, ne, e, mA, ⟨od, es, ep, e2, c⟩, r⟩ := x
    exact ⟨ho _ d, z, ne, k _ _ (.inl rfl) e, mA, ⟨od, es, ep, k _ _ (.inr d) e2, c⟩, r⟩
  | own y => obtain ⟨ob, e⟩ := x; exact ⟨ob, k _ _ (.inl rfl) e⟩
  | xd fs => obtain ⟨mA, ⟨od, es, ep, e, c⟩, r⟩ := x; exact ⟨mA, ⟨od, es, ep, k _ _ (.inl rfl) e, c⟩, r⟩
  | rng lo hi => obtain ⟨t, u, v, e⟩ := x; exact ⟨t, u, v, k _ _ (.inl rfl) e⟩
  | frz ob u ih => obtain ⟨e, q⟩ := x; exact ⟨k _ _ (.inl rfl) e, ih q⟩
  | tbl ps =>
    have e : h.get? a = some { cls := .none, data := .fields ps } := x
    show h'.get? a = some { cls := .none, data := .fields ps }
    exact k a _ (.inl rfl) e
  | met f y =>
    have e : h.get? a = some (PySem.W.methodObj (.ref f) (.ref y)) := x
    show h'.get? a = some (PySem.W.methodObj (.ref f) (.ref y))
    exact k a _ (.inl rfl) e
  | ext φ => obtain ⟨p, ⟨o, e⟩, st⟩ := x; exact ⟨st _ _ p fun o q => k _ _ (.inl rfl) q, ⟨o, k _ _ (.inl rfl) e⟩, st⟩
theorem HOk.lt (x : HOk P w H h) (e : H a = some o) : a < h.objs.size := (x a o e).lt
theorem HOk.fresh (x : HOk P w H h) (e : h.objs.size ≤ a) : H a = none := by
  cases q : H a with
  | none => rfl
  | some u => exact absurd (Nat.lt_of_lt_of_le (x.lt q) e) (Nat.lt_irrefl _)
/-- every object of the heap is kept -/
theorem HOk.kept (x : HOk P w H h) (k : ∀ b u, h.get? b = some u → h'.get? b = some u) : HOk P w H h' := fun a o e =>
  (x a o e).stay (fun b u _ q => k b u q) (fun _ q => q) fun _ _ q => q
/-- a new object is laid and tracked -/
theorem HOk.laid (x : HOk P w H h) (k : ∀ b u, h.get? b = some u → h'.get? b = some u) (hp : h.objs.size ≤ a) (new : ObjOk P w (upd H a o) h' a o) : HOk P w (upd H a o) h' := fun b u e => by
  have hn := x.fresh hp
  by_cases hb : b = a
  · subst hb; rw [upd_same] at e; cases e; exact new
  · rw [upd_ne hb] at e
    exact (x b u e).stay (fun c v _ q => k c v q) (fun c q => by rw [upd_ne (ne_of_none q hn)]; exact q) fun c xs q => by rw [upd_ne (ne_of_none q hn)]; exact q
end
/-- what may be read as u: it is u, or a known u -/
def Rd (H : Hp) (a : Addr) (u : HO) : Prop := H a = some u ∨ ∃ o, H a = some (.frz o u)
theorem Rd.of {H : Hp} {a : Addr} {u : HO} (h : H a = some u) : Rd H a u := .inl h
theorem Rd.ok {P : Program} {w : World} {H : Hp} {h : Heap} {a : Addr} {u : HO} (r : Rd H a u) (x : HOk P w H h) : ObjOk P w H h a u := by
  rcases r with r | ⟨o, r⟩
  · exact x a u r
  · obtain ⟨_, q⟩ := x a _ r
    exact q
/-- what may be written -/
def Mut : Option HO → Prop
  | some (.lst _) => True
  | some (.dK _) => True
  | some (.dT _) => True
  | some (.set _ _) => True
  | some (.ins _ _ _) => True
  | some (.ext _) => True
  | _ => False
section
variable {P : Program} {w : World} {H : Hp} {h h' : Heap} {x e : Addr} {o' : HO}
/-- the object at e is changed: x itself, or the dict of the instance x -/
theorem HOk.write (ok : HOk P w H h) (mu : Mut (H x)) (he : e = x ∨ H e = some (.own x)) (k : ∀ b u, b ≠ e → h.get? b = some u → h'.get? b = some u) (heo : ∃ u, h'.get? e = some u)
    (new : ObjOk P w (upd H x o') h' x o') : HOk P w (upd H x o') h' := fun b u q => by
  have nown : ∀ c y, H c = some (.own y) → c ≠ x := fun c y r z => by subst z; rw [r] at mu; exact mu
  have ntup : ∀ c xs, H c = some (.tup xs) → c ≠ x := fun c xs r z => by subst z; rw [r] at mu; exact mu
  by_cases hb : b = x
  · subst hb; rw [upd_same] at q; cases q; exact new
  · rw [upd_ne hb] at q
    by_cases hbe : b = e
    · have q' : H b = some (.own x) := by
        rcases he with z | z
        · exact absurd (hbe.trans z) hb
        · rw [hbe]; exact z
      rw [q] at q'; cases q'
      obtain ⟨v, hv⟩ := heo
      exact ⟨v, by rw [hbe]; exact hv⟩
    · refine (ok b u q).stay (fun c v hc r => k c v ?_ r) (fun c r => by rw [upd_ne (nown c b r)]; exact r) fun c xs r => by rw [upd_ne (ntup c xs r)]; exact r
      rcases hc with rfl | hc
      · exact hbe
      · rintro rfl
        rcases he with z | z
        · exact nown c b hc z
        · rw [hc] at z; cases z; exact hb rfl
end
structure Un (fs ex : List Addr) (H H' : Hp) (h h' : Heap) : Prop where
  keep : ∀ b o, h.get? b = some o → H b = none → b ∉ fs → b ∉ ex → h'.get? b = some o
  slot : ∀ b o, h.get? b = some o → H b = none → b ∈ fs → b ∉ ex → ∃ sl, h'.get? b = some { o with slots := sl }
  free : ∀ b o, h.get? b = some o → H b = none → b ∉ ex → H' b = none
  there : ∀ b o, h.get? b = some o → b ∉ ex → ∃ o', h'.get? b = some o'
  tups : ∀ b xs, H b = some (.tup xs) → H' b = some (.tup xs)
  frzs : ∀ b o u, H b = some (.frz o u) → H' b = some (.frz o u)
  tbls : ∀ b ps, H b = some (.tbl ps) → ∃ more, H' b = some (.tbl (ps ++ more))
section
variable {fs fs' ex ex' : List Addr} {H H1 H2 : Hp} {h h1 h2 h' : Heap} {a x e : Addr} {o : HO}
theorem Un.any (u : Un fs ex H H1 h h1) {b : Addr} {ob : Obj} (q : h.get? b = some ob) (n : H b = none) (hx : b ∉ ex) : ∃ sl, h1.get? b = some { ob with slots := sl } := by
  by_cases hb : b ∈ fs
  · exact u.slot b ob q n hb hx
  · exact ⟨ob.slots, u.keep b ob q n hb hx⟩
theorem Un.trans (a : Un fs ex H H1 h h1) (b : Un fs ex H1 H2 h1 h2) : Un fs ex H H2 h h2 where
  keep := fun c ob q n hc hx => b.keep c ob (a.keep c ob q n hc hx) (a.free c ob q n hx) hc hx
  slot := fun c ob q n hc hx => by
    obtain ⟨sl, e1⟩ := a.slot c ob q n hc hx
    obtain ⟨sl', e2⟩ := b.slot c _ e1 (a.free c ob q n hx) hc hx
    exact ⟨sl', e2⟩
  free := fun c ob q n hx => by
    obtain ⟨o', e1⟩ := a.there c ob q hx
    exact b.free c o' e1 (a.free c ob q n hx) hx
  there := fun c ob q hx => by
    obtain ⟨o', e1⟩ := a.there c ob q hx
    exact b.there c o' e1 hx
  tups := fun c xs q => b.tups c xs (a.tups c xs q)
  frzs := fun c ob xs q => b.frzs c ob xs (a.frzs c ob xs q)
  tbls := fun c ps q => by
    obtain ⟨m1, e1⟩ := a.tbls c ps q
    obtain ⟨m2, e2⟩ := b.tbls c _ e1
    exact ⟨m1 ++ m2, by rw [e2, Array.append_assoc]⟩
theorem Un.kept (k : ∀ b u, h.get? b = some u → h'.get? b = some u) : Un fs ex H H h h' :=
  ⟨fun b ob q _ _ _ => k b ob q, fun b ob q _ _ _ => ⟨ob.slots, k b ob q⟩, fun _ _ _ n _ => n, fun b ob q _ => ⟨ob, k b ob q⟩, fun _ _ q => q, fun _ _ _ q => q, fun _ ps q => ⟨#[], by rw [q]; simp⟩⟩
theorem Un.refl : Un fs ex H H h h := Un.kept fun _ _ q => q
theorem Un.laid (k : ∀ b u, h.get? b = some u → h'.get? b = some u) (hp : h.objs.size ≤ a) (hn : H a = none) : Un fs ex H (upd H a o) h h' where
  keep := fun b u q _ _ _ => k b u q
  slot := fun b u q _ _ _ => ⟨u.slots, k b u q⟩
  free := fun b u q n _ => by rw [upd_ne (Nat.ne_of_lt (Nat.lt_of_lt_of_le (Heap.lt_size q) hp))]; exact n
  there := fun b u q _ => ⟨u, k b u q⟩
  tups := fun b xs q => by rw [upd_ne (ne_of_none q hn)]; exact q
  frzs := fun b u xs q => by rw [upd_ne (ne_of_none q hn)]; exact q
  tbls := fun b ps q => ⟨#[], by rw [upd_ne (ne_of_none q hn), q]; simp⟩
theorem Un.write (mu : Mut (H x)) (he : e = x ∨ H e = some (.own x)) (k : ∀ b u, b ≠ e → h.get? b = some u → h'.get? b = some u) (heo : ∃ u, h'.get? e = some u) : Un fs ex H (upd H x o) h h' := by
  have hx : ∀ b, H b = none → b ≠ x := fun b n z => by subst z; rw [n] at mu; exact mu
  have hb : ∀ b, H b = none → b ≠ e := fun b n z => by
    subst z
    rcases he with r | r
    · exact hx b n r
    · rw [n] at r; cases r
  have hm : ∀ b u, H b = some u → ¬ Mut (some u) → b ≠ x := fun b u q nm z => by subst z; rw [q] at mu; exact nm mu
  refine ⟨fun b u q n _ _ => k b u (hb b n) q, fun b u q n _ _ => ⟨u.slots, k b u (hb b n) q⟩, fun b u q n _ => by rw [upd_ne (hx b n)]; exact n, fun b u q _ => ?_,
    fun b xs q => by rw [upd_ne (hm b _ q fun z => z)]; exact q, fun b u xs q => by rw [upd_ne (hm b _ q fun z => z)]; exact q, fun b ps q => ⟨#[], by rw [upd_ne (hm b _ q fun z => z), q]; simp⟩⟩
  by_cases hbe : b = e
  · subst hbe; exact heo
  · exact ⟨u, k b u hbe q⟩
theorem Un.mono (u : Un fs ex H H1 h h1) (hs : ∀ b ∈ fs, b ∈ fs') (hx : ∀ b ∈ ex, b ∈ ex') : Un fs' ex' H H1 h h1 :=
  ⟨fun b ob q n hb he => u.keep b ob q n (fun z => hb (hs b z)) fun z => he (hx b z), fun _ _ q n _ he => u.any q n fun z => he (hx _ z), fun b ob q n he => u.free b ob q n fun z => he (hx b z), fun b ob q he => u.there b ob q fun z => he (hx b z), u.tups, u.frzs, u.tbls⟩
end
def trk (h : Heap) (H : Hp) : List Addr := (List.range h.objs.size).filter fun a => (H a).isSome
def hidT (h : Heap) (H : Hp) : Heap := PySem.W.hideAll h (trk h H)
theorem hidT_size (h : Heap) (H : Hp) : (hidT h H).objs.size = h.objs.size := PySem.W.hideAll_size _ _
theorem hidT_get {h : Heap} {H : Hp} {b : Addr} {o : Obj} (e : h.get? b = some o) (n : H b = none) : (hidT h H).get? b = some o :=
  PySem.W.hideAll_get _ e fun hm => by
    have q : (H b).isSome = true := (List.mem_filter.mp hm).2
    rw [n] at q; simp at q
theorem of_hidT {h : Heap} {H : Hp} {b : Addr} {o : Obj} (e : (hidT h H).get? b = some o) : h.get? b = some o ∧ H b = none := by
  have e' : h.get? b = some o := PySem.W.of_hideAll (trk h H) e
  refine ⟨e', ?_⟩
  cases q : H b with
  | none => rfl
  | some x =>
    have hm : b ∈ trk h H := List.mem_filter.mpr ⟨List.mem_range.mpr (Heap.lt_size e'), by simp [q]⟩
    have z : (hidT h H).get? b = none := PySem.W.hideAll_none (trk h H) hm
    rw [z] at e; cases e
def allNews (g h : Heap) (L : Addr) : List (Addr × Obj) := (List.range h.objs.size).filterMap fun a => if a = L ∨ (g.get? a).isSome = true then none else (h.get? a).map fun o => (a, o)
def rest (g h : Heap) (L d : Addr) : List (Addr × Obj) := (allNews g h L).filter fun p => decide (p.1 ≠ d)
end L2
namespace L2
open PySem PySem.Spec PyProof.Rows
/-- the module's facts, over the base: the heap at the law's entry without what is tracked there -/
structure Mod (K : PySem.W.Frag) (mg : Str → Option Value) (base : Heap) : Prop where
  kin : K.In base
  glob : base.Ns mainGlobals mg
  blt : ∃ mb, base.Ns builtinsNs mb ∧ ∀ x : Str, x ≠ "__name__" → mb x = bootBuiltins x
  nolimit : base.NoLimit
/-- the context: a def's body (or a comprehension's block) running. base: fixed through the whole law; s₀, H₀: the entry; outer: the frames whose slots others may change (a def's callers); stack: all frames that run;
   ex: iterators that were made ahead of the entry and are walked here (a comprehension's); fn: the names whose cells were made at the entry (a def: all; a comprehension's block: its own); calm: not within an except suite; pn: pins that every state bears; xe: what is wanted of an exception that leaves the code -/
structure Cx where
  prog : Program
  w : World
  K : PySem.W.Frag
  mg : Str → Option Value
  base : Heap
  A : Around
  N : List Str
  s₀ : Shared
  H₀ : Hp
  env : Env
  outer : List Env
  stack : List Env
  ex : List Addr
  fn : Str → Bool
  calm : Bool
  pn : List (Addr × Obj)
  xe : Value → Shared → Prop
/-- the callers' frames -/
def frs (l : List Env) : List Addr := l.filterMap (·.frame)
abbrev Cx.fs (X : Cx) : List Addr := frs X.outer
def Vis (sc : Scope) (x : Str) : Prop := sc.names.lookup x = some .local ∨ sc.names.lookup x = some .cell ∨ sc.names.lookup x = some .free
def Loc (sc : Scope) (x : Str) : Prop := sc.names.lookup x = some .local ∨ sc.names.lookup x = some .cell
def Look (env : Env) (h : Heap) (m : Str → Option Value) (x : Str) (u : Value) : Prop :=
  (env.kindOf x = some .local ∧ m x = some u) ∨ ((env.kindOf x = some .cell ∨ env.kindOf x = some .free) ∧ ∃ c, env.cells.lookup x = some c ∧ h.IsCell c (some u))
structure Cx.Ok (X : Cx) : Prop where
  mod : Mod X.K X.mg X.base
  kind : X.env.scope.kind = .function
  glob : X.env.globals = mainGlobals
  blt : X.env.builtins = builtinsNs
  above : X.s₀.heap.objs.size ≤ X.env.locals
  inj : ∀ x y c, X.env.cells.lookup x = some c → X.env.cells.lookup y = some c → x = y
  has : ∀ x, (X.env.kindOf x = some .cell ∨ X.env.kindOf x = some .free) → ∃ c, X.env.cells.lookup x = some c
  cab : ∀ x c, X.fn x = true → X.env.cells.lookup x = some c → X.s₀.heap.objs.size ≤ c
  hd : X.calm = true → X.A.handled = none
  frames : X.A.frames = some X.stack
  stk : X.stack = X.outer ∨ (X.stack = X.env :: X.outer ∧ X.env.frame = some X.env.locals)
  exf : ∀ b ∈ X.ex, b ≠ X.env.locals ∧ ∀ x c, X.env.cells.lookup x = some c → c ≠ b
  bs : ∀ b o, X.base.get? b = some o → X.s₀.heap.get? b = some o ∧ X.H₀ b = none
  bsz : X.base.objs.size ≤ X.s₀.heap.objs.size
  noex : ∀ b o, X.base.get? b = some o → b ∉ X.ex
  exfs : ∀ b ∈ X.ex, b ∉ X.fs
  funs : X.s₀.heap.FunFrames X.base X.outer
  frf : ∀ b ∈ X.fs, X.H₀ b = none
structure Inv (X : Cx) (pins : List (Addr × Obj)) (σ : List (Option V)) (H : Hp) (s : Shared) : Prop where
  ok : X.Ok
  os : s.os = X.s₀.os
  bare : AllBare s.gens
  base : Un X.fs X.ex X.H₀ H X.s₀.heap s.heap
  loc : ∃ m, s.heap.Ns X.env.locals m ∧ ∀ (i : Nat) (x : Str) (v : V), X.N[i]? = some x → σ[i]? = some (some v) → Vis X.env.scope x → ∃ u, RelV v u ∧ Look X.env s.heap m x u
  cell : ∀ x c, X.env.cells.lookup x = some c → ∃ v, s.heap.IsCell c v
  free : H X.env.locals = none
  freeC : ∀ x c, X.env.cells.lookup x = some c → H c = none
  pin : ∀ p ∈ X.pn ++ pins, s.heap.get? p.1 = some p.2 ∧ H p.1 = none ∧ p.1 ≠ X.env.locals ∧ p.1 ∉ X.fs ∧ ∀ v, p.2.data ≠ .cell v
  hok : HOk X.prog X.w H s.heap
  len : σ.length = X.N.length
section
variable {X : Cx} {pins : List (Addr × Obj)} {σ : List (Option V)} {H H' : Hp} {s : Shared} {h' : Heap}
theorem Cx.Ok.nofr (ok : X.Ok) {b : Addr} {o : Obj} (e : X.base.get? b = some o) : b ∉ X.fs := fun hb => by
  have := (ok.funs.mem hb).1
  rw [e] at this; cases this
theorem Inv.bs (I : Inv X pins σ H s) : ∀ b o, X.base.get? b = some o → s.heap.get? b = some o ∧ H b = none := fun b o e =>
  ⟨I.base.keep b o (I.ok.bs b o e).1 (I.ok.bs b o e).2 (I.ok.nofr e) (I.ok.noex b o e), I.base.free b o (I.ok.bs b o e).1 (I.ok.bs b o e).2 (I.ok.noex b o e)⟩
theorem Inv.bk (I : Inv X pins σ H s) : ∀ b o, X.base.get? b = some o → s.heap.get? b = some o := fun b o e => (I.bs b o e).1
theorem Inv.mod (I : Inv X pins σ H s) : Mod X.K X.mg X.base := I.ok.mod
theorem Inv.kIn (I : Inv X pins σ H s) : X.K.In s.heap := I.ok.mod.kin.keeps I.bk
theorem Inv.nolimit (I : Inv X pins σ H s) : s.heap.NoLimit := I.ok.mod.nolimit.keeps I.bk
theorem Inv.lt (I : Inv X pins σ H s) : X.env.locals < s.heap.objs.size := let ⟨_, hn, _⟩ := I.loc; hn.lt
theorem Inv.sz (I : Inv X pins σ H s) : X.s₀.heap.objs.size ≤ s.heap.objs.size := Nat.le_trans I.ok.above (Nat.le_of_lt I.lt)
theorem Inv.nofs (I : Inv X pins σ H s) {a : Addr} (h : s.heap.objs.size ≤ a) : a ∉ X.fs := fun hb => by
  obtain ⟨_, o, ho, _⟩ := I.ok.funs.mem hb
  exact absurd (Nat.lt_of_lt_of_le (Heap.lt_size ho) (Nat.le_trans I.sz h)) (Nat.lt_irrefl _)
theorem Inv.cne (I : Inv X pins σ H s) : ∀ x c, X.env.cells.lookup x = some c → c ≠ X.env.locals := fun x c e z => by
  obtain ⟨v, o, ho, hd⟩ := I.cell x c e
  obtain ⟨m, ⟨o', es, ep, ho', hd', _⟩, _⟩ := I.loc
  rw [z, ho'] at ho; cases ho; rw [hd'] at hd; cases hd
theorem Inv.funs (I : Inv X pins σ H s) : s.heap.FunFrames X.base X.outer := by
  have all : ∀ (l : List Env), (∀ b ∈ frs l, b ∈ X.fs) → X.s₀.heap.FunFrames X.base l → s.heap.FunFrames X.base l := by
    intro l
    induction l with
    | nil => intro _ _; trivial
    | cons env r ih =>
      intro hs hl
      obtain ⟨hk, ⟨L, o, hf, hn, ho, hd⟩, hr⟩ := hl
      have hL : L ∈ X.fs := hs L (by unfold frs; rw [List.filterMap_cons, hf]; exact List.mem_cons_self)
      obtain ⟨sl, e⟩ := I.base.slot L o ho (I.ok.frf L hL) hL fun z => I.ok.exfs L z hL
      exact ⟨hk, ⟨L, _, hf, hn, e, hd⟩, ih (fun b hb => hs b (by unfold frs; rw [List.filterMap_cons, hf]; exact List.mem_cons_of_mem _ hb)) hr⟩
  exact all X.outer (fun _ hb => hb) I.ok.funs
/-- the frames that run, for a call -/
theorem Inv.stack (I : Inv X pins σ H s) : s.heap.FunFrames X.base X.stack := by
  rcases I.ok.stk with e | ⟨e, hf⟩
  · rw [e]; exact I.funs
  · rw [e]
    obtain ⟨m, hn, _⟩ := I.loc
    refine .cons (by rw [I.ok.kind]; decide) hf hn ?_ I.funs
    exact Heap.get?_none_of_le (Nat.le_trans I.ok.bsz I.ok.above)
theorem Inv.stkSub (I : Inv X pins σ H s) : ∀ b ∈ frs X.stack, b ∈ X.env.locals :: X.fs := fun b hb => by
  rcases I.ok.stk with e | ⟨e, hf⟩
  · rw [e] at hb; exact List.mem_cons_of_mem _ hb
  · rw [e] at hb
    unfold frs at hb
    rw [List.filterMap_cons, hf] at hb
    exact hb
theorem Inv.stkFree (I : Inv X pins σ H s) : ∀ b ∈ frs X.stack, H b = none := fun b hb => by
  rcases List.mem_cons.mp (I.stkSub b hb) with e | hb
  · rw [e]; exact I.free
  · obtain ⟨_, o, ho, _⟩ := I.ok.funs.mem hb
    exact I.base.free b o ho (I.ok.frf b hb) fun z => I.ok.exfs b z hb
/-- THE STEP: the untracked objects but the frame and the records at ch are kept (the callers' frames up to slots), the frame's map is kept, the new abstract heap is held -/
theorem Inv.step {g' : Array GenState} {t' : Nat} {d' : Drawn} {ch : List Addr} (I : Inv X pins σ H s)
    (hch : ∀ b ∈ ch, (b ∈ X.ex ∨ X.s₀.heap.objs.size ≤ b) ∧ b ≠ X.env.locals ∧ (∀ x c, X.env.cells.lookup x = some c → c ≠ b) ∧ ∀ p ∈ X.pn ++ pins, p.1 ≠ b)
    (keep : ∀ b o, b ≠ X.env.locals → b ∉ X.fs → b ∉ ch → s.heap.get? b = some o → H b = none → h'.get? b = some o)
    (slot : ∀ b o, b ≠ X.env.locals → b ∈ X.fs → b ∉ ch → s.heap.get? b = some o → H b = none → ∃ sl, h'.get? b = some { o with slots := sl }) (free : ∀ b o, b ∉ ch → s.heap.get? b = some o → H b = none → H' b = none)
    (there : ∀ b o, b ∉ ch → s.heap.get? b = some o → ∃ o', h'.get? b = some o')
    (tups : ∀ b xs, H b = some (.tup xs) → H' b = some (.tup xs)) (frzs : ∀ b o u, H b = some (.frz o u) → H' b = some (.frz o u)) (tbls : ∀ b ps, H b = some (.tbl ps) → ∃ more, H' b = some (.tbl (ps ++ more)))
    (ns : ∀ m, s.heap.Ns X.env.locals m → h'.Ns X.env.locals m) (hok : HOk X.prog X.w H' h') (hg : AllBare g') :
    Inv X pins σ H' { s with heap := h', gens := g', drawn := d', toks := t' } := by
  have neL : ∀ b o, X.s₀.heap.get? b = some o → b ≠ X.env.locals := fun b o e => Nat.ne_of_lt (Nat.lt_of_lt_of_le (Heap.lt_size e) I.ok.above)
  have neC : ∀ b o, X.s₀.heap.get? b = some o → b ∉ X.ex → b ∉ ch := fun b o e hx hb => by
    rcases (hch b hb).1 with z | z
    · exact hx z
    · exact absurd (Nat.lt_of_lt_of_le (Heap.lt_size e) z) (Nat.lt_irrefl _)
  have cellK : ∀ x c, X.env.cells.lookup x = some c → ∀ v, s.heap.IsCell c v → h'.IsCell c v := fun x c e v ⟨o, ho, hd⟩ => by
    have nch : c ∉ ch := fun z => (hch c z).2.2.1 x c e rfl
    by_cases hc : c ∈ X.fs
    · obtain ⟨sl, q⟩ := slot c o (I.cne x c e) hc nch ho (I.freeC x c e)
      exact ⟨_, q, hd⟩
    · exact ⟨o, keep c o (I.cne x c e) hc nch ho (I.freeC x c e), hd⟩
  refine ⟨I.ok, I.os, hg, ⟨fun b o e n hb hx => ?_, fun b o e n hb hx => ?_, fun b o e n hx => ?_, fun b o e hx => ?_, fun b xs e => tups b xs (I.base.tups b xs e), fun b o xs e => frzs b o xs (I.base.frzs b o xs e), fun b ps e => ?_⟩, ?_, fun x c e => ?_, ?_, fun x c e => ?_, fun p hp => ?_, hok, I.len⟩
  · exact keep b o (neL b o e) hb (neC b o e hx) (I.base.keep b o e n hb hx) (I.base.free b o e n hx)
  · obtain ⟨sl, e1⟩ := I.base.slot b o e n hb hx
    obtain ⟨sl', e2⟩ := slot b _ (neL b o e) hb (neC b o e hx) e1 (I.base.free b o e n hx)
    exact ⟨sl', e2⟩
  · obtain ⟨o', e1⟩ := I.base.there b o e hx
    exact free b o' (neC b o e hx) e1 (I.base.free b o e n hx)
  · obtain ⟨o', e1⟩ := I.base.there b o e hx
    exact there b o' (neC b o e hx) e1
  · obtain ⟨m1, e1⟩ := I.base.tbls b ps e
    obtain ⟨m2, e2⟩ := tbls b _ e1
    exact ⟨m1 ++ m2, by rw [e2, Array.append_assoc]⟩
  · obtain ⟨m, hn, hl⟩ := I.loc
    refine ⟨m, ns m hn, fun i x v e1 e2 e3 => ?_⟩
    obtain ⟨u, r, l⟩ := hl i x v e1 e2 e3
    refine ⟨u, r, ?_⟩
    rcases l with l | ⟨k, c, e, z⟩
    · exact .inl l
    · exact .inr ⟨k, c, e, cellK x c e _ z⟩
  · obtain ⟨v, z⟩ := I.cell x c e
    exact ⟨v, cellK x c e v z⟩
  · obtain ⟨m, ⟨o, _, _, ho, _⟩, _⟩ := I.loc
    exact free _ o (fun z => (hch _ z).2.1 rfl) ho I.free
  · obtain ⟨v, o, ho, hd⟩ := I.cell x c e
    exact free c o (fun z => (hch c z).2.2.1 x c e rfl) ho (I.freeC x c e)
  · obtain ⟨e, n, ne, nf, d⟩ := I.pin p hp
    have nch : p.1 ∉ ch := fun z => (hch p.1 z).2.2.2 p hp rfl
    exact ⟨keep p.1 p.2 ne nf nch e n, free p.1 p.2 nch e n, ne, nf, d⟩
/-- .. where the frame's own object is kept too -/
theorem Inv.un {t' : Nat} (I : Inv X pins σ H s) (u : Un X.fs [] H H' s.heap h') (hok : HOk X.prog X.w H' h') : Inv X pins σ H' { s with heap := h', toks := t' } := by
  obtain ⟨m, ⟨o, es, ep, ho, r⟩, _⟩ := id I.loc
  obtain ⟨sl, hL⟩ := u.any ho I.free (by simp)
  exact I.step (g' := s.gens) (d' := s.drawn) (ch := []) (fun _ z => nomatch z) (fun b o _ hb _ e n => u.keep b o e n hb (by simp)) (fun b o _ hb _ e n => u.slot b o e n hb (by simp)) (fun b o _ e n => u.free b o e n (by simp)) (fun b o _ e => u.there b o e (by simp)) u.tups u.frzs u.tbls (fun m' hm => by
    obtain ⟨o', es', ep', ho', r'⟩ := hm
    rw [ho] at ho'; cases ho'
    exact ⟨_, es', ep', hL, r'⟩) hok I.bare
/-- behind a call (or a comprehension's block): the slots of this frame may have changed too, the records at ch may have turned -/
theorem Inv.call {g' : Array GenState} {t' : Nat} {d' : Drawn} {ch : List Addr} (I : Inv X pins σ H s) (u : Un (frs X.stack) ch H H' s.heap h') (hok : HOk X.prog X.w H' h') (hg : AllBare g')
    (hch : ∀ b ∈ ch, (b ∈ X.ex ∨ X.s₀.heap.objs.size ≤ b) ∧ b ≠ X.env.locals ∧ (∀ x c, X.env.cells.lookup x = some c → c ≠ b) ∧ ∀ p ∈ X.pn ++ pins, p.1 ≠ b) :
    Inv X pins σ H' { s with heap := h', gens := g', drawn := d', toks := t' } := by
  obtain ⟨m, ⟨o, es, ep, ho, r⟩, _⟩ := id I.loc
  obtain ⟨sl, hL⟩ := u.any ho I.free fun z => (hch _ z).2.1 rfl
  exact I.step (ch := ch) hch (fun b o hL hb hc e n => u.keep b o e n (fun z => (List.mem_cons.mp (I.stkSub b z)).elim hL hb) hc) (fun b o _ _ hc e n => u.any e n hc) (fun b o hc e n => u.free b o e n hc) (fun b o hc e => u.there b o e hc) u.tups u.frzs u.tbls (fun m' hm => by
    obtain ⟨o', es', ep', ho', r'⟩ := hm
    rw [ho] at ho'; cases ho'
    exact ⟨_, es', ep', hL, r'⟩) hok hg
/-- an untracked record of ours (an iterator) has turned -/
theorem Inv.turned {t' : Nat} {it : Addr} (I : Inv X pins σ H s) (k : ∀ b o, b ≠ it → s.heap.get? b = some o → h'.get? b = some o) (hn : H it = none) (hL : it ≠ X.env.locals)
    (h1 : it ∈ X.ex ∨ X.s₀.heap.objs.size ≤ it) (h2 : ∀ x c, X.env.cells.lookup x = some c → c ≠ it) (h3 : ∀ p ∈ X.pn ++ pins, p.1 ≠ it) : Inv X pins σ H { s with heap := h', toks := t' } := by
  have nit : ∀ b u, H b = some u → b ≠ it := fun b u e z => by rw [z, hn] at e; cases e
  refine I.step (g' := s.gens) (d' := s.drawn) (ch := [it]) (fun b hb => ?_) (fun b o _ _ hc e _ => k b o (fun z => hc (by simp [z])) e) (fun b o _ _ hc e _ => ⟨o.slots, k b o (fun z => hc (by simp [z])) e⟩) (fun _ _ _ _ n => n)
    (fun b o hc e => ⟨o, k b o (fun z => hc (by simp [z])) e⟩) (fun _ _ e => e) (fun _ _ _ e => e) (fun b ps e => ⟨#[], by rw [e]; simp⟩) (fun m hm => ?_) (fun b u e => ?_) I.bare
  · have e : b = it := by simpa using hb
    subst e
    exact ⟨h1, hL, h2, h3⟩
  · obtain ⟨o, es, ep, ho, r⟩ := hm
    exact ⟨o, es, ep, k _ o (Ne.symm hL) ho, r⟩
  · refine (I.hok b u e).stay (fun c v hc q => k c v ?_ q) (fun _ q => q) fun _ _ q => q
    rcases hc with z | z
    · rw [z]; exact nit b u e
    · exact nit c _ z
theorem Inv.tok (I : Inv X pins σ H s) (t : Nat) : Inv X pins σ H { s with toks := t } := I.un (h' := s.heap) (t' := t) Un.refl I.hok
/-- all objects kept -/
theorem Inv.kept {t' : Nat} (I : Inv X pins σ H s) (k : ∀ b u, s.heap.get? b = some u → h'.get? b = some u) : Inv X pins σ H { s with heap := h', toks := t' } := I.un (Un.kept k) (I.hok.kept k)
/-- a new object laid and tracked -/
theorem Inv.laid {a : Addr} {o : HO} {t' : Nat} (I : Inv X pins σ H s) (k : ∀ b u, s.heap.get? b = some u → h'.get? b = some u) (hp : s.heap.objs.size ≤ a) (new : ObjOk X.prog X.w (upd H a o) h' a o) :
    Inv X pins σ (upd H a o) { s with heap := h', toks := t' } := I.un (Un.laid k hp (I.hok.fresh hp)) (I.hok.laid k hp new)
/-- an object written -/
theorem Inv.write {x e : Addr} {o : HO} {t' : Nat} (I : Inv X pins σ H s) (mu : Mut (H x)) (he : e = x ∨ H e = some (.own x)) (k : ∀ b u, b ≠ e → s.heap.get? b = some u → h'.get? b = some u) (heo : ∃ u, h'.get? e = some u)
    (new : ObjOk X.prog X.w (upd H x o) h' x o) : Inv X pins σ (upd H x o) { s with heap := h', toks := t' } := I.un (Un.write mu he k heo) (I.hok.write mu he k heo new)
theorem Inv.pins_of {pins' : List (Addr × Obj)} (I : Inv X pins σ H s) (h : ∀ p ∈ pins', s.heap.get? p.1 = some p.2 ∧ H p.1 = none ∧ p.1 ≠ X.env.locals ∧ p.1 ∉ X.fs ∧ ∀ v, p.2.data ≠ .cell v) : Inv X pins' σ H s :=
  ⟨I.ok, I.os, I.bare, I.base, I.loc, I.cell, I.free, I.freeC, fun p hp => (List.mem_append.mp hp).elim (fun z => I.pin p (List.mem_append_left _ z)) (h p), I.hok, I.len⟩
theorem nodup_ix {N : List Str} (hN : N.Nodup) {i j : Nat} {x : Str} (a : N[i]? = some x) (b : N[j]? = some x) : i = j := by
  obtain ⟨h1, e1⟩ := List.getElem?_eq_some_iff.mp a
  obtain ⟨h2, e2⟩ := List.getElem?_eq_some_iff.mp b
  exact (List.getElem_inj hN).mp (e1.trans e2.symm)
/-- a name is stored; what changed -/
theorem store_ok2 {M : Model} {A : Around} {E : Value → Shared → Prop} {i : Nat} {x : Str} {v : V} {u : Value} {Q : Unit → Shared → Prop} (I : Inv X pins σ H s) (hN : X.N.Nodup) (hi : X.N[i]? = some x) (hx : Loc X.env.scope x) (r : RelV v u)
    (h : ∀ s', Inv X pins (σ.set i (some v)) H s' → (∃ a, Heap.SameBut a s.heap s'.heap ∧ (a = X.env.locals ∨ X.env.cells.lookup x = some a)) → Q () s') (hf : X.fn x = true ∨ X.env.scope.names.lookup x = some .local := by first | exact .inl rfl | exact .inr rfl | assumption) : wpAny M A (storeName X.env x u) Q E s := by
  obtain ⟨m, hn, hl⟩ := id I.loc
  have hcls : (X.env.scope.kind == .class || (X.env.scope.kind == .module && X.env.locals != X.env.globals)) = false := by rw [I.ok.kind]; rfl
  have hiσ : i < σ.length := by rw [I.len]; exact (List.getElem?_eq_some_iff.mp hi).1
  have cne := I.cne
  have tracked : ∀ {a : Addr} {h' : Heap}, (∃ o, s.heap.get? a = some o ∧ H a = none) → Heap.SameBut a s.heap h' → HOk X.prog X.w H h' := fun {a h'} ha hs b ob e => by
    obtain ⟨_, _, hfree⟩ := ha
    refine (I.hok b ob e).stay (fun c w' hc q => (hs.2 c ?_).trans q) (fun _ q => q) fun _ _ q => q
    rintro rfl
    rcases hc with rfl | hc
    · rw [hfree] at e; cases e
    · rw [hfree] at hc; cases hc
  rcases hx with hk | hk
  · refine wpAny_storeName_local hk hn (fun h' hn' hs => ?_) hcls
    obtain ⟨oL, _, _, hoL, _⟩ := id hn
    refine h _ ⟨I.ok, I.os, I.bare, ⟨fun b o e n hb hx => ?_, fun b o e n hb hx => ?_, I.base.free, fun b o e hx => ?_, I.base.tups, I.base.frzs, I.base.tbls⟩, ⟨_, hn', fun j y v' e1 e2 e3 => ?_⟩, fun y c e => ?_, I.free, I.freeC, fun p hp => ?_, tracked ⟨oL, hoL, I.free⟩ hs, by simpa using I.len⟩ ⟨_, hs, .inl rfl⟩
    · exact (hs.2 b (Nat.ne_of_lt (Nat.lt_of_lt_of_le (Heap.lt_size e) I.ok.above))).trans (I.base.keep b o e n hb hx)
    · obtain ⟨sl, e1⟩ := I.base.slot b o e n hb hx
      exact ⟨sl, (hs.2 b (Nat.ne_of_lt (Nat.lt_of_lt_of_le (Heap.lt_size e) I.ok.above))).trans e1⟩
    · obtain ⟨o', e1⟩ := I.base.there b o e hx
      exact ⟨o', (hs.2 b (Nat.ne_of_lt (Nat.lt_of_lt_of_le (Heap.lt_size e) I.ok.above))).trans e1⟩
    · by_cases hj : j = i
      · subst hj
        rw [hi] at e1; cases e1
        rw [List.getElem?_set_self hiσ] at e2
        cases e2
        exact ⟨u, r, .inl ⟨hk, by simp⟩⟩
      · rw [List.getElem?_set_ne (Ne.symm hj)] at e2
        obtain ⟨u', r', q⟩ := hl j y v' e1 e2 e3
        refine ⟨u', r', ?_⟩
        rcases q with ⟨k, e⟩ | ⟨k, c, e, z⟩
        · refine .inl ⟨k, ?_⟩
          have : y ≠ x := fun e => hj (nodup_ix hN e1 (e ▸ hi))
          simp [this, e]
        · exact .inr ⟨k, c, e, z.sameBut hs (cne y c e)⟩
    · obtain ⟨w', z⟩ := I.cell y c e
      exact ⟨w', z.sameBut hs (cne y c e)⟩
    · obtain ⟨e, n, ne, nf, d⟩ := I.pin p hp
      exact ⟨(hs.2 p.1 ne).trans e, n, ne, nf, d⟩
  · have hfn : X.fn x = true := by
      rcases hf with z | z
      · exact z
      · rw [z] at hk; cases hk
    obtain ⟨c, hc⟩ := I.ok.has x (.inl hk)
    obtain ⟨w', z⟩ := I.cell x c hc
    refine wpAny_storeName_cell I.ok.kind hk hc z (fun h' hc' hs => ?_)
    obtain ⟨oc, hoc, hocd⟩ := id z
    refine h { s with heap := h' } ⟨I.ok, I.os, I.bare, ⟨fun b o e n hb hx => ?_, fun b o e n hb hx => ?_, I.base.free, fun b o e hx => ?_, I.base.tups, I.base.frzs, I.base.tbls⟩, ⟨m, hn.sameBut hs (Ne.symm (cne x c hc)), fun j y v' e1 e2 e3 => ?_⟩, fun y c' e => ?_, I.free, I.freeC, fun p hp => ?_, tracked ⟨oc, hoc, I.freeC x c hc⟩ hs, by simpa using I.len⟩ ⟨c, hs, .inr hc⟩
    · exact (hs.2 b (Nat.ne_of_lt (Nat.lt_of_lt_of_le (Heap.lt_size e) (I.ok.cab x c hfn hc)))).trans (I.base.keep b o e n hb hx)
    · obtain ⟨sl, e1⟩ := I.base.slot b o e n hb hx
      exact ⟨sl, (hs.2 b (Nat.ne_of_lt (Nat.lt_of_lt_of_le (Heap.lt_size e) (I.ok.cab x c hfn hc)))).trans e1⟩
    · obtain ⟨o', e1⟩ := I.base.there b o e hx
      exact ⟨o', (hs.2 b (Nat.ne_of_lt (Nat.lt_of_lt_of_le (Heap.lt_size e) (I.ok.cab x c hfn hc)))).trans e1⟩
    · by_cases hj : j = i
      · subst hj
        rw [hi] at e1; cases e1
        rw [List.getElem?_set_self hiσ] at e2
        cases e2
        exact ⟨u, r, .inr ⟨.inl hk, c, hc, hc'⟩⟩
      · rw [List.getElem?_set_ne (Ne.symm hj)] at e2
        obtain ⟨u', r', q⟩ := hl j y v' e1 e2 e3
        refine ⟨u', r', ?_⟩
        rcases q with q | ⟨k, c', e, z'⟩
        · exact .inl q
        · refine .inr ⟨k, c', e, z'.sameBut hs ?_⟩
          rintro rfl
          exact hj (nodup_ix hN e1 (I.ok.inj _ _ _ e hc ▸ hi))
    · by_cases hcc : c' = c
      · subst hcc; exact ⟨_, hc'⟩
      · obtain ⟨w2, z2⟩ := I.cell y c' e
        exact ⟨w2, z2.sameBut hs hcc⟩
    · obtain ⟨e, n, ne, nf, d⟩ := I.pin p hp
      refine ⟨(hs.2 p.1 ?_).trans e, n, ne, nf, d⟩
      intro q
      rw [q, hoc] at e
      have q' : oc = p.2 := Option.some.inj e
      exact d w' (by rw [← q']; exact hocd)
theorem store_ok {M : Model} {A : Around} {E : Value → Shared → Prop} {i : Nat} {x : Str} {v : V} {u : Value} {Q : Unit → Shared → Prop} (I : Inv X pins σ H s) (hN : X.N.Nodup) (hi : X.N[i]? = some x) (hx : Loc X.env.scope x) (r : RelV v u)
    (h : ∀ s', Inv X pins (σ.set i (some v)) H s' → Q () s') (hf : X.fn x = true ∨ X.env.scope.names.lookup x = some .local := by first | exact .inl rfl | exact .inr rfl | assumption) : wpAny M A (storeName X.env x u) Q E s :=
  store_ok2 I hN hi hx r (fun s' I' _ => h s' I') hf
/-- behind a call or a block, the state as it is -/
theorem Inv.call' {s' : Shared} {ch : List Addr} (I : Inv X pins σ H s) (ho : s'.os = s.os) (u : Un (frs X.stack) ch H H' s.heap s'.heap) (hok : HOk X.prog X.w H' s'.heap) (hg : AllBare s'.gens)
    (hch : ∀ b ∈ ch, (b ∈ X.ex ∨ X.s₀.heap.objs.size ≤ b) ∧ b ≠ X.env.locals ∧ (∀ x c, X.env.cells.lookup x = some c → c ≠ b) ∧ ∀ p ∈ X.pn ++ pins, p.1 ≠ b) : Inv X pins σ H' s' := by
  obtain ⟨h', g', d', t', o'⟩ := s'
  have e : o' = s.os := ho
  subst e
  exact I.call (g' := g') (t' := t') (d' := d') u hok hg hch
end
/-- an exception: its class, its own dict's address (where it has one), the abstract heap behind it -/
abbrev XK := Value → Option Addr → Hp → Prop
abbrev St := List (Option V)
abbrev VK := V → Hp → Prop
/-- an expression's reading; a test's; an argument list's -/
abbrev TE := St → Hp → VK → Prop
abbrev TT := St → Hp → (Bool → Hp → Prop) → Prop
abbrev TA := St → Hp → (List V → Hp → Prop) → Prop
/-- what is wanted behind a statement -/
structure Ends where
  nx : St → Hp → Prop
  rt : VK
  bk : St → Hp → Prop := fun _ _ => False
  ct : St → Hp → Prop := fun _ _ => False
abbrev TS := Ends → St → Hp → Prop
def EP (X : Cx) (pins : List (Addr × Obj)) (σ : St) (Q : VK) (u : Value) (s' : Shared) : Prop := ∃ v H', Inv X pins σ H' s' ∧ RelV v u ∧ Q v H'
def TP (X : Cx) (pins : List (Addr × Obj)) (σ : St) (Q : Bool → Hp → Prop) (b : Bool) (s' : Shared) : Prop := ∃ H', Inv X pins σ H' s' ∧ Q b H'
def AP (X : Cx) (pins : List (Addr × Obj)) (σ : St) (Q : List V → Hp → Prop) (us : List Value) (s' : Shared) : Prop := ∃ vs H', Inv X pins σ H' s' ∧ Vals vs us ∧ Q vs H'
def SP (X : Cx) (pins : List (Addr × Obj)) (D : Ends) (f : Flow) (s' : Shared) : Prop :=
  match f with
  | .next => ∃ σ' H', Inv X pins σ' H' s' ∧ D.nx σ' H'
  | .brk => ∃ σ' H', Inv X pins σ' H' s' ∧ D.bk σ' H'
  | .cont => ∃ σ' H', Inv X pins σ' H' s' ∧ D.ct σ' H'
  | .ret u => ∃ v σ' H', Inv X pins σ' H' s' ∧ RelV v u ∧ D.rt v H'
def PE (X : Cx) (e : Expr) (t : TE) : Prop :=
  ∀ (pins : List (Addr × Obj)) (s : Shared) (σ : St) (H : Hp) (Q : VK), Inv X pins σ H s → t σ H Q → wpAny (model X.prog X.w) X.A (eval e X.env) (EP X pins σ Q) X.xe s
def PT (X : Cx) (e : Expr) (t : TT) : Prop :=
  ∀ (pins : List (Addr × Obj)) (s : Shared) (σ : St) (H : Hp) (Q : Bool → Hp → Prop), Inv X pins σ H s → t σ H Q → wpAny (model X.prog X.w) X.A (isTrue e X.env (eval e X.env)) (TP X pins σ Q) X.xe s
/-- a test whatever its 'whole' is (and, or) -/
def PW (X : Cx) (e : Expr) (t : TT) : Prop :=
  ∀ (whole : Sem Value) (pins : List (Addr × Obj)) (s : Shared) (σ : St) (H : Hp) (Q : Bool → Hp → Prop), Inv X pins σ H s → t σ H Q → wpAny (model X.prog X.w) X.A (isTrue e X.env whole) (TP X pins σ Q) X.xe s
theorem PW.pt {X : Cx} {e : Expr} {t : TT} (h : PW X e t) : PT X e t := h _
/-- an argument list (no star), from the left -/
def PA (X : Cx) (es : List Expr) (t : TA) : Prop :=
  ∀ (pos : Pos) (pins : List (Addr × Obj)) (s : Shared) (σ : St) (H : Hp) (Q : List V → Hp → Prop), Inv X pins σ H s → t σ H Q → wpAny (model X.prog X.w) X.A (spliced (backTo pos (starEach es X.env))) (AP X pins σ Q) X.xe s
def PS (X : Cx) (st : Stmt) (t : TS) : Prop :=
  ∀ (pins : List (Addr × Obj)) (s : Shared) (σ : St) (H : Hp) (D : Ends), Inv X pins σ H s → t D σ H → wpAny (model X.prog X.w) X.A (exec st X.env) (SP X pins D) X.xe s
def PSs (X : Cx) (st : List Stmt) (t : TS) : Prop :=
  ∀ (pins : List (Addr × Obj)) (s : Shared) (σ : St) (H : Hp) (D : Ends), Inv X pins σ H s → t D σ H → wpAny (model X.prog X.w) X.A (execs st X.env) (SP X pins D) X.xe s
/-- weaken the end -/
theorem thn {α : Type} {t : Sem α} {Q Q' : α → Shared → Prop} {M : Model} {A : Around} {E : Value → Shared → Prop} {s : Shared} (h : wpAny M A t Q E s) (hQ : ∀ a s, Q a s → Q' a s) : wpAny M A t Q' E s := wpAny_mono h hQ fun _ _ x => x
end L2
namespace L2
open PySem PySem.Spec PyProof.Rows
section
variable {X : Cx}
def tVar (i : Nat) : TE := fun σ H Q => ∃ v, σ[i]? = some (some v) ∧ Q v H
def tC (v : V) : TE := fun _ H Q => Q v H
theorem pe_var {i : Nat} {x : Str} {pos : Pos} (hN : X.N[i]? = some x) (hv : Vis X.env.scope x) (hd : (x == ("__debug__" : Str)) = false := by decide) (hcd : (x == ("__classdict__" : Str)) = false := by decide) : PE X (.Name x pos) (tVar i) := by
  intro pins s σ H Q I h
  obtain ⟨v, e, h⟩ := h
  obtain ⟨m, hn, hl⟩ := I.loc
  obtain ⟨u, r, l⟩ := hl i x v hN e hv
  have fin : EP X pins σ Q u s := ⟨v, H, I, r, h⟩
  rcases l with ⟨hk, hm⟩ | ⟨hk, c, hc, hcell⟩
  · exact wpAny_Name (wpAny_loadName_local I.ok.kind hk hn hm fin) hd
  · rcases hk with hk | hk
    · exact wpAny_Name (wpAny_loadName_cell I.ok.kind hk hc hcell fin) hd
    · exact wpAny_Name (wpAny_loadName_free I.ok.kind hk hc hcell fin hcd) hd
theorem pe_int {i j pos} : PE X (.Constant (.int i) j pos) (tC (.int i)) := fun _ _ _ H _ I h => wpAny_Constant_int ⟨.int i, H, I.tok _, ⟨_, rfl⟩, h⟩
theorem pe_bl {b j pos} : PE X (.Constant (.bool b) j pos) (tC (.bl b)) := fun _ _ _ H _ I h => Constant_bool ⟨.bl b, H, I, rfl, h⟩
theorem pe_non {j pos} : PE X (.Constant .none j pos) (tC .non) := fun _ _ _ H _ I h => Constant_none ⟨.non, H, I, rfl, h⟩
theorem pe_str {x j pos} : PE X (.Constant (.str x) j pos) (tC (.str x)) := fun _ _ _ H _ I h => Calls.Constant_str ⟨.str x, H, I.tok _, ⟨_, rfl⟩, h⟩
/-- a global name of the def -/
def Gl (X : Cx) (x : Str) : Prop := X.env.kindOf x = some .globalImplicit
theorem ld_glob {E : Value → Shared → Prop} {pins : List (Addr × Obj)} {s : Shared} {σ : St} {H : Hp} {x : Str} {u : Value} {pos : Pos} {Q : Value → Shared → Prop} (I : Inv X pins σ H s) (hg : Gl X x) (hm : X.mg x = some u) (h : Q u s)
    (hd : (x == ("__debug__" : Str)) = false := by decide) : wpAny (model X.prog X.w) X.A (eval (.Name x pos) X.env) Q E s :=
  Calls.Name_function_global I.ok.kind hg (Calls.loadGlobal_global (by rw [I.ok.glob]; exact I.mod.glob.keeps I.bk) hm h) hd
theorem ld_blt {E : Value → Shared → Prop} {pins : List (Addr × Obj)} {s : Shared} {σ : St} {H : Hp} {x : Str} {u : Value} {pos : Pos} {Q : Value → Shared → Prop} (I : Inv X pins σ H s) (hg : Gl X x) (hm : X.mg x = none) (hv : bootBuiltins x = some u) (h : Q u s)
    (hn : x ≠ "__name__" := by decide) (hd : (x == ("__debug__" : Str)) = false := by decide) : wpAny (model X.prog X.w) X.A (eval (.Name x pos) X.env) Q E s := by
  obtain ⟨mb, h1, h2⟩ := I.mod.blt
  exact Calls.Name_function_global I.ok.kind hg (Calls.loadGlobal_builtin (by rw [I.ok.glob]; exact I.mod.glob.keeps I.bk) hm (by rw [I.ok.blt]; exact h1.keeps I.bk) ((h2 x hn).trans hv) h) hd
/-- a module's constant, a class, a function, as a value -/
theorem pe_glob {x : Str} {v : V} {u : Value} {pos : Pos} (hg : Gl X x) (hm : X.mg x = some u) (r : RelV v u) (hd : (x == ("__debug__" : Str)) = false := by decide) : PE X (.Name x pos) (tC v) :=
  fun _ _ _ H _ I h => ld_glob I hg hm ⟨v, H, I, r, h⟩ hd
theorem pe_bltn {x : Str} {v : V} {u : Value} {pos : Pos} (hg : Gl X x) (hm : X.mg x = none) (hv : bootBuiltins x = some u) (r : RelV v u) (hn : x ≠ "__name__" := by decide) (hd : (x == ("__debug__" : Str)) = false := by decide) : PE X (.Name x pos) (tC v) :=
  fun _ _ _ H _ I h => ld_blt I hg hm hv ⟨v, H, I, r, h⟩ hn hd
variable {a b : Expr} {ta tb : TE} {pos : Pos}
/-- a comparison as a value, as a test -/
def tB (t : TE) : TT := fun σ H Q => t σ H fun x H1 => ∃ c, x = .bl c ∧ Q c H1
/-- an expression whose value is a bool, as a test -/
theorem pt_val {e : Expr} {t : TE} (h : PE X e t) (he : ∀ whole, isTrue e X.env whole = (do let v ← whole; standAt e.pos; holding [v] (truthy v)) := by intro _; rfl) : PT X e (tB t) := by
  intro pins s σ H Q I hw
  refine isTrue_plain (thn (h pins s σ H _ I hw) fun v s1 ⟨x, H1, I1, r1, q1⟩ => ?_) (he _)
  obtain ⟨d, rfl, q⟩ := q1
  cases r1
  exact wpAny_truthy_bool ⟨H1, I1, q⟩
variable {tA tB' : TT} {rest : List Expr}
def tAnd (t u : TT) : TT := fun σ H Q => t σ H fun c H1 => if c = true then u σ H1 Q else Q false H1
def tOr (t u : TT) : TT := fun σ H Q => t σ H fun c H1 => if c = true then Q true H1 else u σ H1 Q
def tNot (t : TT) : TT := fun σ H Q => t σ H fun c H1 => Q (!c) H1
theorem pw_and1 (ha : PT X a tA) : PW X (.BoolOp .And [a] pos) tA := by
  intro wh pins s σ H Q I h
  refine isTrue_and (thn (ha pins s σ H Q I h) fun c s1 e => ?_)
  cases c with
  | true => exact isTrue_and_nil e
  | false => exact e
theorem pw_or1 (ha : PT X a tA) : PW X (.BoolOp .Or [a] pos) tA := by
  intro wh pins s σ H Q I h
  refine isTrue_or (thn (ha pins s σ H Q I h) fun c s1 e => ?_)
  cases c with
  | false => exact isTrue_or_nil e
  | true => exact e
theorem pw_and (ha : PT X a tA) (hb : PW X (.BoolOp .And (b :: rest) pos) tB') : PW X (.BoolOp .And (a :: b :: rest) pos) (tAnd tA tB') := by
  intro wh pins s σ H Q I h
  refine isTrue_and (thn (ha pins s σ H _ I h) fun c s1 ⟨H1, I1, q1⟩ => ?_)
  cases c with
  | true => exact hb wh pins s1 σ H1 Q I1 q1
  | false => exact ⟨H1, I1, q1⟩
theorem pw_or (ha : PT X a tA) (hb : PW X (.BoolOp .Or (b :: rest) pos) tB') : PW X (.BoolOp .Or (a :: b :: rest) pos) (tOr tA tB') := by
  intro wh pins s σ H Q I h
  refine isTrue_or (thn (ha pins s σ H _ I h) fun c s1 ⟨H1, I1, q1⟩ => ?_)
  cases c with
  | true => exact ⟨H1, I1, q1⟩
  | false => exact hb wh pins s1 σ H1 Q I1 q1
theorem pt_not (ha : PT X a tA) : PT X (.UnaryOp .Not a pos) (tNot tA) := by
  intro pins s σ H Q I h
  exact isTrue_not (ha pins s σ H (fun c H1 => Q (!c) H1) I h)
/-- .. as values (bools) -/
def tAndV (ta tb : TE) : TE := fun σ H Q => ta σ H fun x H1 => ∃ c, x = .bl c ∧ if c = true then tb σ H1 Q else Q (.bl false) H1
def tOrV (ta tb : TE) : TE := fun σ H Q => ta σ H fun x H1 => ∃ c, x = .bl c ∧ if c = true then Q (.bl true) H1 else tb σ H1 Q
def tNotV (ta : TE) : TE := fun σ H Q => ta σ H fun x H1 => ∃ c, x = .bl c ∧ Q (.bl (!c)) H1
theorem pe_one {op} {t : TE} (h : PE X a t) : PE X (.BoolOp op [a] pos) t := fun pins s σ H Q I hw => BoolOp_one (h pins s σ H Q I hw)
theorem pe_and (ha : PE X a ta) (hb : PE X (.BoolOp .And (b :: rest) pos) tb) : PE X (.BoolOp .And (a :: b :: rest) pos) (tAndV ta tb) := by
  intro pins s σ H Q I h
  refine BoolOp_and (thn (ha pins s σ H _ I h) fun v s1 ⟨x, H1, I1, r1, q1⟩ => ?_)
  obtain ⟨c, rfl, q1⟩ := q1
  cases r1
  refine wpAny_truthy_bool ?_
  cases c with
  | true => exact hb pins s1 σ H1 Q I1 q1
  | false => exact ⟨.bl false, H1, I1, rfl, q1⟩
theorem pe_or (ha : PE X a ta) (hb : PE X (.BoolOp .Or (b :: rest) pos) tb) : PE X (.BoolOp .Or (a :: b :: rest) pos) (tOrV ta tb) := by
  intro pins s σ H Q I h
  refine BoolOp_or (thn (ha pins s σ H _ I h) fun v s1 ⟨x, H1, I1, r1, q1⟩ => ?_)
  obtain ⟨c, rfl, q1⟩ := q1
  cases r1
  refine wpAny_truthy_bool ?_
  cases c with
  | false => exact hb pins s1 σ H1 Q I1 q1
  | true => exact ⟨.bl true, H1, I1, rfl, q1⟩
/-- a if t else b -/
def tIf (t : TT) (ta tb : TE) : TE := fun σ H Q => t σ H fun c H1 => if c = true then ta σ H1 Q else tb σ H1 Q
theorem pe_ifExp {c : Expr} (hc : PT X c tA) (ha : PE X a ta) (hb : PE X b tb) : PE X (.IfExp c a b pos) (tIf tA ta tb) := by
  intro pins s σ H Q I h
  refine wpAny_IfExp (thn (hc pins s σ H _ I h) fun d s1 ⟨H1, I1, q1⟩ => ?_)
  cases d with
  | true => exact ha pins s1 σ H1 Q I1 q1
  | false => exact hb pins s1 σ H1 Q I1 q1
end
end L2
namespace L2
open PySem PySem.Spec PyProof.Rows
def SqL (K : PySem.W.Frag) (H : Hp) (a : Addr) (xs : List V) : Prop :=
  Rd H a (.lst xs) ∨
    ∃ (o : Obj) (its : Array Value) (n : Nat), K.lookup a = some o ∧ o.cls = .type "list" ∧ o.dict = none ∧ o.data = .seq its n ∧ its.size ≤ sizeLine ∧ Vals xs its.toList
def SqT (K : PySem.W.Frag) (H : Hp) (a : Addr) (xs : List V) : Prop :=
  Rd H a (.tup xs) ∨
    ∃ (o : Obj) (its : Array Value) (n : Nat), K.lookup a = some o ∧ o.cls = .type "tuple" ∧ o.data = .seq its n ∧ its.size ≤ sizeLine ∧ Vals xs its.toList
def absV : Value → Option V
  | .none => some .non
  | .bool b => some (.bl b)
  | .int i _ => some (.int i)
  | .str x _ => some (.str x)
  | .bytes b _ => some (.byt b)
  | .float b _ => some (.flt b)
  | .ref a => some (.ref a)
  | .type n => some (.ty n)
  | _ => none
theorem RelV.abs {x : V} {u : Value} (r : RelV x u) : absV u = some x := by
  cases x with
  | non => cases r; rfl
  | bl _ => cases r; rfl
  | int _ => obtain ⟨t, rfl⟩ := r; rfl
  | str _ => obtain ⟨t, rfl⟩ := r; rfl
  | byt _ => obtain ⟨t, rfl⟩ := r; rfl
  | flt _ => obtain ⟨t, rfl⟩ := r; rfl
  | ref _ => cases r; rfl
  | ty _ => cases r; rfl
theorem RelV.inj {x y : V} {u : Value} (r : RelV x u) (q : RelV y u) : x = y := Option.some.inj (r.abs.symm.trans q.abs)
theorem Vals.inj : ∀ {xs ys : List V} {us : List Value}, Vals xs us → Vals ys us → xs = ys
  | _, _, _, .nil, .nil => rfl
  | _, _, _, .cons r t, .cons r' t' => by rw [r.inj r', Vals.inj t t']
section
variable {X : Cx} {pins : List (Addr × Obj)} {σ : St} {H : Hp} {s : Shared} {a : Addr} {xs ys : List V}
theorem SqL.of {K : PySem.W.Frag} (h : H a = some (.lst xs)) : SqL K H a xs := .inl (.inl h)
theorem SqT.of {K : PySem.W.Frag} (h : H a = some (.tup xs)) : SqT K H a xs := .inl (.inl h)
theorem Inv.list (I : Inv X pins σ H s) (h : SqL X.K H a xs) : ∃ its : List Value, Vals xs its ∧ PlainL s.heap a its.toArray ∧ xs.length ≤ sizeLine := by
  rcases h with h | ⟨o, its, n, hk, hc, hd, hs, hz, r⟩
  · obtain ⟨z, its, n, r, e⟩ := h.ok I.hok
    exact ⟨its, r, ⟨_, n, e, rfl, rfl, rfl⟩, z⟩
  · refine ⟨its.toList, r, ⟨o, n, I.kIn a o hk, hc, hd, by simpa using hs⟩, ?_⟩
    have e := r.length
    simp only [Array.length_toList] at e
    omega
theorem Inv.tuple (I : Inv X pins σ H s) (h : SqT X.K H a xs) : ∃ its : List Value, Vals xs its ∧ IsTup s.heap a its.toArray ∧ xs.length ≤ sizeLine := by
  rcases h with h | ⟨o, its, n, hk, hc, hs, hz, r⟩
  · obtain ⟨z, its, r, p⟩ := h.ok I.hok
    exact ⟨its, r, p, z⟩
  · refine ⟨its.toList, r, ⟨o, I.kIn a o hk, hc, n, by simpa using hs⟩, ?_⟩
    have e := r.length
    simp only [Array.length_toList] at e
    omega
theorem Inv.list_inj (I : Inv X pins σ H s) (h : SqL X.K H a xs) (h' : SqL X.K H a ys) : xs = ys := by
  obtain ⟨its, r, ⟨o, n, e, _, _, d⟩, _⟩ := I.list h
  obtain ⟨its', r', ⟨o', n', e', _, _, d'⟩, _⟩ := I.list h'
  rw [e] at e'; cases e'
  rw [d] at d'
  injection d' with d1 _
  have : its = its' := by simpa using congrArg Array.toList d1
  subst this
  exact r.inj r'
end
abbrev Cx.wish (X : Cx) (E : Value → Shared → Prop) : Cx := { X with xe := E }
/-- no exception leaves -/
abbrev Cx.nox (X : Cx) : Cx := X.wish fun _ _ => False
theorem Cx.Ok.wish {X : Cx} (ok : X.Ok) (E : Value → Shared → Prop) : (X.wish E).Ok :=
  ⟨ok.mod, ok.kind, ok.glob, ok.blt, ok.above, ok.inj, ok.has, ok.cab, ok.hd, ok.frames, ok.stk, ok.exf, ok.bs, ok.bsz, ok.noex, ok.exfs, ok.funs, ok.frf⟩
theorem Cx.Ok.unwish {X : Cx} {E : Value → Shared → Prop} (ok : (X.wish E).Ok) : X.Ok :=
  ⟨ok.mod, ok.kind, ok.glob, ok.blt, ok.above, ok.inj, ok.has, ok.cab, ok.hd, ok.frames, ok.stk, ok.exf, ok.bs, ok.bsz, ok.noex, ok.exfs, ok.funs, ok.frf⟩
section
variable {X : Cx} {pins : List (Addr × Obj)} {σ : St} {H : Hp} {s : Shared} {E : Value → Shared → Prop}
theorem Inv.wish (I : Inv X pins σ H s) (E : Value → Shared → Prop) : Inv (X.wish E) pins σ H s := ⟨I.ok.wish E, I.os, I.bare, I.base, I.loc, I.cell, I.free, I.freeC, I.pin, I.hok, I.len⟩
theorem Inv.unwish (I : Inv (X.wish E) pins σ H s) : Inv X pins σ H s := ⟨I.ok.unwish, I.os, I.bare, I.base, I.loc, I.cell, I.free, I.freeC, I.pin, I.hok, I.len⟩
theorem SP.unwish {D : Ends} {f : Flow} {s' : Shared} (h : SP (X.wish E) pins D f s') : SP X pins D f s' := by
  cases f with
  | next => obtain ⟨σ', H', I, q⟩ := h; exact ⟨σ', H', I.unwish, q⟩
  | brk => obtain ⟨σ', H', I, q⟩ := h; exact ⟨σ', H', I.unwish, q⟩
  | cont => obtain ⟨σ', H', I, q⟩ := h; exact ⟨σ', H', I.unwish, q⟩
  | ret u => obtain ⟨v, σ', H', I, r, q⟩ := h; exact ⟨v, σ', H', I.unwish, r, q⟩
theorem PE.nox {e : Expr} {t : TE} (h : PE X.nox e t) : PE X e t := fun pins s σ H Q I hw =>
  wpAny_mono (h pins s σ H Q (I.wish _) hw) (fun _ _ ⟨v, H', I', r, q⟩ => ⟨v, H', I'.unwish, r, q⟩) fun _ _ z => False.elim z
theorem PT.nox {e : Expr} {t : TT} (h : PT X.nox e t) : PT X e t := fun pins s σ H Q I hw =>
  wpAny_mono (h pins s σ H Q (I.wish _) hw) (fun _ _ ⟨H', I', q⟩ => ⟨H', I'.unwish, q⟩) fun _ _ z => False.elim z
theorem PSs.nox {st : List Stmt} {t : TS} (h : PSs X.nox st t) : PSs X st t := fun pins s σ H D I hw =>
  wpAny_mono (h pins s σ H D (I.wish _) hw) (fun _ _ q => q.unwish) fun _ _ z => False.elim z
end
section
variable {X : Cx} {st : Stmt} {rest : List Stmt} {t u : TS} {e : Expr} {te : TE} {pos : Pos}
def tNext : TS := fun D σ H => D.nx σ H
def tSeq (t u : TS) : TS := fun D σ H => t { D with nx := u D } σ H
theorem pss_nil : PSs X [] tNext := fun _ _ σ H _ I h => wpAny_execs_nil ⟨σ, H, I, h⟩
theorem pss_cons (h1 : PS X st t) (h2 : PSs X rest u) : PSs X (st :: rest) (tSeq t u) := by
  intro pins s σ H D I h
  refine wpAny_execs_cons (thn (h1 pins s σ H { D with nx := u D } I h) fun f s1 q => ?_)
  cases f with
  | next =>
    obtain ⟨σ', H', I', q⟩ := q
    exact h2 pins s1 σ' H' D I' q
  | ret v => exact q
  | brk => exact q
  | cont => exact q
theorem pss_one (h1 : PS X st t) : PSs X [st] t := by
  intro pins s σ H D I h
  refine wpAny_execs_cons (thn (h1 pins s σ H D I h) fun f s1 q => ?_)
  cases f with
  | next => exact wpAny_execs_nil q
  | ret v => exact q
  | brk => exact q
  | cont => exact q
/-- in a def's body nothing is shown -/
theorem Inv.quiet {pins : List (Addr × Obj)} {σ : St} {H : Hp} {s : Shared} (I : Inv X pins σ H s) : interactive X.env = false := by simp [interactive, I.ok.kind]
/-- an expression whose value is dropped -/
def tDrop (te : TE) : TS := fun D σ H => te σ H fun _ H1 => D.nx σ H1
theorem ps_expr (he : PE X e te) (hs : swapsWith e none pos.line X.env = pure false := by rfl) : PS X (.Expr e pos) (tDrop te) := by
  intro pins s σ H D I h
  exact wpAny_Expr_any (thn (he pins s σ H _ I h) fun v s1 ⟨x, H1, I1, r1, q1⟩ => ⟨σ, H1, I1, q1⟩) I.quiet hs
def tRet (te : TE) : TS := fun D σ H => te σ H D.rt
theorem ps_ret (he : PE X e te) : PS X (.Return (some e) pos) (tRet te) := by
  intro pins s σ H D I h
  exact wpAny_Return_some (thn (he pins s σ H _ I h) fun v s1 ⟨x, H1, I1, r1, q1⟩ => ⟨x, σ, H1, I1, r1, q1⟩)
def tRetN : TS := fun D _ H => D.rt .non H
def tIfS (c : TT) (t u : TS) : TS := fun D σ H => c σ H fun b H1 => if b = true then t D σ H1 else u D σ H1
theorem ps_if {c : Expr} {a b : List Stmt} {tc : TT} (hc : PT X c tc) (ha : PSs X a t) (hb : PSs X b u) : PS X (.If c a b pos) (tIfS tc t u) := by
  intro pins s σ H D I h
  refine wpAny_If (thn (hc pins s σ H _ I h) fun d s1 ⟨H1, I1, q1⟩ => ?_)
  cases d with
  | true => exact ha pins s1 σ H1 D I1 q1
  | false => exact hb pins s1 σ H1 D I1 q1
end
abbrev TG := V → St → Hp → (St → Hp → Prop) → Prop
abbrev TGs := List V → St → Hp → (St → Hp → Prop) → Prop
def PG (X : Cx) (target : Expr) (t : TG) : Prop :=
  ∀ (pins : List (Addr × Obj)) (s : Shared) (σ : St) (H : Hp) (v : V) (u : Value) (Q : St → Hp → Prop), Inv X pins σ H s → RelV v u → t v σ H Q →
    wpAny (model X.prog X.w) X.A (assign target X.env u) (fun _ s' => ∃ σ' H', Inv X pins σ' H' s' ∧ Q σ' H') X.xe s
/-- several targets, one after another -/
def PGs (X : Cx) (ts : List Expr) (t : TGs) : Prop :=
  ∀ (pins : List (Addr × Obj)) (s : Shared) (σ : St) (H : Hp) (vs : List V) (us : List Value) (Q : St → Hp → Prop), Inv X pins σ H s → Vals vs us → t vs σ H Q →
    wpAny (model X.prog X.w) X.A (assignInOrder ((assignEach ts X.env).map (·.2)) us) (fun _ s' => ∃ σ' H', Inv X pins σ' H' s' ∧ Q σ' H') X.xe s
/-- o[i] = v, by values -/
abbrev TSet := V → V → V → Hp → (Hp → Prop) → Prop
def PSet (X : Cx) (t : TSet) : Prop :=
  ∀ (pins : List (Addr × Obj)) (s : Shared) (σ : St) (H : Hp) (o i v : V) (ov iv u : Value) (Q : Hp → Prop), Inv X pins σ H s → RelV o ov → RelV i iv → RelV v u → t o i v H Q →
    wpAny (model X.prog X.w) X.A (setItem ov iv u) (fun _ s' => ∃ H', Inv X pins σ H' s' ∧ Q H') X.xe s
/-- a op= b, by values -/
abbrev TIp := V → V → Hp → VK → Prop
def PIp (X : Cx) (op : Operator) (t : TIp) : Prop :=
  ∀ (pins : List (Addr × Obj)) (s : Shared) (σ : St) (H : Hp) (x y : V) (v u : Value) (Q : VK), Inv X pins σ H s → RelV x v → RelV y u → t x y H Q →
    wpAny (model X.prog X.w) X.A (inplaceOp op v u) (EP X pins σ Q) X.xe s
section
variable {X : Cx} {pos : Pos}
def gName (i : Nat) : TG := fun v σ H Q => Q (σ.set i (some v)) H
theorem pg_name {i : Nat} {x : Str} (hN : X.N.Nodup) (hi : X.N[i]? = some x) (hx : Loc X.env.scope x) (hf : X.fn x = true ∨ X.env.scope.names.lookup x = some .local := by first | exact .inl rfl | exact .inr rfl | assumption) : PG X (.Name x pos) (gName i) := by
  intro pins s σ H v u Q I r h
  exact wpAny_assign_Name (store_ok I hN hi hx r (fun s' I' => ⟨_, H, I', h⟩) hf)
def gNil : TGs := fun vs σ H Q => vs = [] ∧ Q σ H
def gCons (t : TG) (u : TGs) : TGs := fun vs σ H Q => ∃ v r, vs = v :: r ∧ t v σ H fun σ' H' => u r σ' H' Q
theorem pgs_nil : PGs X [] gNil := by
  intro pins s σ H vs us Q I r h
  obtain ⟨e, h⟩ := h
  subst e
  cases r
  exact assignInOrder_nil ⟨σ, H, I, h⟩
theorem pgs_cons {e : Expr} {es : List Expr} {t : TG} {u : TGs} (h1 : PG X e t) (h2 : PGs X es u)
    (hs : (assignEach (e :: es) X.env).map (·.2) = assign e X.env :: (assignEach es X.env).map (·.2) := by rfl) : PGs X (e :: es) (gCons t u) := by
  intro pins s σ H vs us Q I r h
  obtain ⟨v, vr, e1, h⟩ := h
  subst e1
  cases r with
  | cons r rr =>
    rw [hs]
    refine assignInOrder_cons (thn (h1 pins s σ H _ _ _ I r h) fun _ s1 ⟨σ1, H1, I1, q1⟩ => ?_)
    exact h2 pins s1 σ1 H1 _ _ Q I1 rr q1
/-- (a, b, ..) = a tuple of that length -/
def gTup (K : PySem.W.Frag) (n : Nat) (t : TGs) : TG := fun v σ H Q => ∃ a xs, v = .ref a ∧ SqT K H a xs ∧ xs.length = n ∧ t xs σ H Q
theorem pg_tup {es : List Expr} {k : Nat} {t : TGs} {n : Nat} (hc : X.calm = true) (h : PGs X es t)
    (hn : (assignEach es X.env).length = n := by rfl) (hst : (assignEach es X.env).findIdx? (·.1) = none := by rfl) : PG X (.Tuple es k pos) (gTup X.K n t) := by
  intro pins s σ H v u Q I r hw
  obtain ⟨a, xs, e1, hq, hl, hw⟩ := hw
  subst e1
  cases r
  obtain ⟨its, rv, ht, hz⟩ := I.tuple hq
  refine assign_Tuple_tuple (I.ok.hd hc) ht (by simp [hn, ← hl, rv.length]) hst fun h' hx => ?_
  have I1 : Inv X pins σ H { s with heap := h' } := I.kept (t' := s.toks) fun b o e => hx b o (Nat.ne_of_lt (Heap.lt_size e)) e
  exact h pins _ σ H xs _ Q I1 (by simpa using rv) hw
/-- o[i] = .. -/
def gSub (to ti : TE) (t : TSet) : TG := fun v σ H Q => to σ H fun o H1 => ti σ H1 fun i H2 => t o i v H2 fun H3 => Q σ H3
theorem pg_sub {o i : Expr} {to ti : TE} {t : TSet} (ho : PE X o to) (hi : PE X i ti) (hs : PSet X t)
    (ha : ∀ v, assign (.Subscript o i pos) X.env v = (do
      let ov ← holding [v] (eval o X.env)
      let iv ← holding [v, ov] (eval i X.env)
      standAt pos
      holding [v, ov, iv] (setItem ov iv v)
      release [v, ov, iv] []) := by intro _; rfl) : PG X (.Subscript o i pos) (gSub to ti t) := by
  intro pins s σ H v u Q I r h
  rw [ha]
  refine wpAny_bind (wpAny_holding (thn (ho pins s σ H _ I h) fun ov s1 ⟨x, H1, I1, r1, q1⟩ => ?_))
  refine wpAny_bind (wpAny_holding (thn (hi pins s1 σ H1 _ I1 q1) fun iv s2 ⟨y, H2, I2, r2, q2⟩ => ?_))
  refine wpAny_bind (wpAny_standAt (wpAny_bind (wpAny_holding (thn (hs pins s2 σ H2 x y v ov iv u _ I2 r1 r2 r q2) fun _ s3 ⟨H3, I3, q3⟩ => ?_))))
  exact wpAny_release ⟨σ, H3, I3, q3⟩
/-- target = value -/
def tAsg (te : TE) (g : TG) : TS := fun D σ H => te σ H fun x H1 => g x σ H1 D.nx
theorem ps_asg {tg e : Expr} {te : TE} {g : TG} (he : PE X e te) (hg : PG X tg g) (hs : swapsWithSole [tg] e pos.line X.env = pure false := by rfl) (hw : swappedStores [tg] e X.env = pure none := by rfl)
    (h1 : (assignEach [tg] X.env).map (·.2) = [assign tg X.env] := by rfl) : PS X (.Assign [tg] e pos) (tAsg te g) := by
  intro pins s σ H D I h
  refine wpAny_Assign_stores (thn (he pins s σ H _ I h) fun v s1 ⟨x, H1, I1, r1, q1⟩ => ?_) hs hw
  rw [h1]
  exact thn (hg pins s1 σ H1 x v _ I1 r1 q1) fun _ s2 q => q
/-- name = value -/
theorem ps_set {i : Nat} {x : Str} {e : Expr} {te : TE} {pos' : Pos} (hN : X.N.Nodup) (hi : X.N[i]? = some x) (hx : Loc X.env.scope x) (he : PE X e te) (hs : swapsWith e (some (.Name x pos')) pos.line X.env = pure false := by rfl) (hf : X.fn x = true ∨ X.env.scope.names.lookup x = some .local := by first | exact .inl rfl | exact .inr rfl | assumption) :
    PS X (.Assign [.Name x pos'] e pos) (tAsg te (gName i)) := by
  intro pins s σ H D I h
  refine wpAny_Assign_Name (thn (he pins s σ H _ I h) fun v s1 ⟨y, H1, I1, r1, q1⟩ => ?_) hs
  exact store_ok I1 hN hi hx r1 (fun s2 I2 => ⟨_, H1, I2, q1⟩) hf
/-- name op= e -/
def tAug (i : Nat) (te : TE) (ti : TIp) : TS := fun D σ H => ∃ x, σ[i]? = some (some x) ∧ te σ H fun y H1 => ti x y H1 fun z H2 => D.nx (σ.set i (some z)) H2
theorem ps_aug {i : Nat} {x : Str} {e : Expr} {te : TE} {op : Operator} {ti : TIp} {pos' : Pos} (hN : X.N.Nodup) (hi : X.N[i]? = some x) (hx : Loc X.env.scope x) (he : PE X e te) (ho : PIp X op ti) (hf : X.fn x = true ∨ X.env.scope.names.lookup x = some .local := by first | exact .inl rfl | exact .inr rfl | assumption) :
    PS X (.AugAssign (.Name x pos') op e pos) (tAug i te ti) := by
  intro pins s σ H D I h
  obtain ⟨v, e1, h⟩ := h
  obtain ⟨m, hn, hl⟩ := I.loc
  have vis : Vis X.env.scope x := by rcases hx with k | k; exact .inl k; exact .inr (.inl k)
  obtain ⟨u, r, l⟩ := hl i x v hi e1 vis
  refine wpAny_AugAssign_Name ?_
  have go : wpAny (model X.prog X.w) X.A (eval e X.env) (fun w s₂ => wpAny (model X.prog X.w) X.A (inplaceOp op u w) (fun r s₃ => wpAny (model X.prog X.w) X.A (storeName X.env x r) (fun _ => SP X pins D .next) X.xe s₃) X.xe s₂) X.xe s := by
    refine thn (he pins s σ H _ I h) fun w s1 ⟨y, H1, I1, r1, q1⟩ => ?_
    refine thn (ho pins s1 σ H1 v y u w _ I1 r r1 q1) fun z s2 ⟨zv, H2, I2, r2, q2⟩ => ?_
    exact store_ok I2 hN hi hx r2 (fun s3 I3 => ⟨_, H2, I3, q2⟩) hf
  rcases l with ⟨hk, hm⟩ | ⟨hk, c, hc, hcell⟩
  · exact wpAny_loadName_local I.ok.kind hk hn hm go
  · rcases hk with hk | hk
    · exact wpAny_loadName_cell I.ok.kind hk hc hcell go
    · rcases hx with k | k
      · have : X.env.scope.names.lookup x = some .free := hk
        rw [k] at this; cases this
      · have : X.env.scope.names.lookup x = some .free := hk
        rw [k] at this; cases this
/-- ints -/
def ipI (f : Int → Int → Int) : TIp := fun x y H Q => ∃ i j, x = .int i ∧ y = .int j ∧ Q (.int (f i j)) H
theorem ip_add : PIp X .Add (ipI fun i j => i + j) := by
  intro pins s σ H x y v u Q I r1 r2 h
  obtain ⟨i, j, e1, e2, q⟩ := h
  subst e1; subst e2
  obtain ⟨t, rfl⟩ := r1
  obtain ⟨t', rfl⟩ := r2
  exact iadd_int ⟨.int _, H, I.tok _, ⟨_, rfl⟩, q⟩
end
section
variable {X : Cx} {pos : Pos}
end
/-- at turn i: it yields x (the heap may grow), or it stops -/
structure It where
  go : Nat → Hp → Prop
  yld : Nat → Hp → V → Hp → Prop
  stop : Nat → Hp → Prop
/-- the iterator's own objects may turn: they are not the frame's, not pinned, younger than the entry (or a comprehension's own) -/
def FpOk (X : Cx) (pins : List (Addr × Obj)) (H : Hp) (b : Addr) : Prop :=
  H b = none ∧ b ≠ X.env.locals ∧ b ∉ X.fs ∧ (b ∈ X.ex ∨ X.s₀.heap.objs.size ≤ b) ∧ (∀ x c, X.env.cells.lookup x = some c → c ≠ b) ∧ ∀ p ∈ X.pn ++ pins, p.1 ≠ b
theorem Inv.fpOk {X : Cx} {pins : List (Addr × Obj)} {σ : St} {H H' : Hp} {s : Shared} {b : Addr} (I : Inv X pins σ H s) (hb : s.heap.objs.size ≤ b) (hn : H' b = none) : FpOk X pins H' b := by
  refine ⟨hn, Nat.ne_of_gt (Nat.lt_of_lt_of_le I.lt hb), I.nofs hb, .inr (Nat.le_trans I.sz hb), fun x c e z => ?_, fun p hp z => ?_⟩
  · obtain ⟨v, q⟩ := I.cell x c e
    exact absurd (Nat.lt_of_lt_of_le q.lt (by rw [z]; exact hb)) (Nat.lt_irrefl _)
  · exact absurd (Nat.lt_of_lt_of_le (Heap.lt_size (I.pin p hp).1) (by rw [z]; exact hb)) (Nat.lt_irrefl _)
structure Turn (P : Program) (w : World) (K : PySem.W.Frag) (tg : Expr) (J : It) (fp : List Addr) (it : Addr) (tn : Nat → Heap → Prop) : Prop where
  mem : it ∈ fp
  obj : ∀ i h, tn i h → ∀ b ∈ fp, ∃ o, h.get? b = some o ∧ ∀ v, o.data ≠ .cell v
  keep : ∀ i h h', tn i h → (∀ b ∈ fp, ∀ o, h.get? b = some o → h'.get? b = some o) → tn i h'
  item : ∀ (X : Cx), X.prog = P → X.w = w → X.K = K → X.calm = true → ∀ (i : Nat) (pins : List (Addr × Obj)) (s : Shared) (σ : St) (H : Hp) (E : Value → Shared → Prop), Inv X pins σ H s → (∀ b ∈ fp, FpOk X pins H b) → tn i s.heap → J.go i H →
    wpAny (model P w) X.A (pyNext (.ref it)) (fun r s1 => ∃ u, r = some u ∧
      wpAny (model P w) X.A (letOwnedTupleGo tg (.ref it) u) (fun _ s2 => ∃ x H', Inv X pins σ H' s2 ∧ RelV x u ∧ J.yld i H x H' ∧ tn (i + 1) s2.heap ∧ ∀ b ∈ fp, H' b = none) E s1) E s
  done : ∀ (X : Cx), X.prog = P → X.w = w → X.K = K → X.calm = true → ∀ (i : Nat) (pins : List (Addr × Obj)) (s : Shared) (σ : St) (H : Hp) (E : Value → Shared → Prop), Inv X pins σ H s → (∀ b ∈ fp, FpOk X pins H b) → tn i s.heap → J.stop i H →
    wpAny (model P w) X.A (pyNext (.ref it)) (fun r s1 => r = none ∧ Inv X pins σ H s1) E s
  self : ∀ (A : Around) (i : Nat) (s : Shared) (Q : Value → Shared → Prop) (E : Value → Shared → Prop), tn i s.heap → Q (.ref it) s → wpAny (model P w) A (pyIter (.ref it)) Q E s
abbrev TI := St → Hp → (It → Hp → Prop) → Prop
/-- an iterator has come -/
def PIE (X : Cx) (pins : List (Addr × Obj)) (σ : St) (tg : Expr) (R : It → Hp → Prop) (itv : Value) (s2 : Shared) : Prop :=
  ∃ (it : Addr) (fp : List Addr) (tn : Nat → Heap → Prop) (J : It) (H' : Hp), itv = .ref it ∧ Inv X pins σ H' s2 ∧ Turn X.prog X.w X.K tg J fp it tn ∧ tn 0 s2.heap ∧ (∀ b ∈ fp, FpOk X pins H' b) ∧ R J H'
def PI (X : Cx) (tg iter : Expr) (wi : TI) : Prop :=
  ∀ (pins : List (Addr × Obj)) (s : Shared) (σ : St) (H : Hp) (R : It → Hp → Prop), Inv X pins σ H s → wi σ H R →
    wpAny (model X.prog X.w) X.A (eval iter X.env) (fun v s1 => wpAny (model X.prog X.w) X.A (pyIter v) (PIE X pins σ tg R) X.xe s1) X.xe s
/-- the step ahead of the store is nothing for an iterator that keeps no tuple -/
theorem go_of {M : Model} {A : Around} {E : Value → Shared → Prop} {s : Shared} {tg : Expr} {it : Addr} {u : Value} {o : Obj} {n : String} {vs : Array Value} {Q : Unit → Shared → Prop} (ho : s.heap.get? it = some o) (hc : o.cls = .type n) (hd : o.data = .fields vs)
    (hn : ["enumerate", "zip", "dict_itemiterator", "dict_reverseitemiterator", "odict_iterator", "itertools.zip_longest", "itertools.pairwise"].contains n = false) (hQ : Q () s) : wpAny M A (letOwnedTupleGo tg (.ref it) u) Q E s := by
  unfold letOwnedTupleGo
  cases tg <;> first
    | exact wpAny_pure hQ
    | (cases u <;> first
        | exact wpAny_pure hQ
        | (refine wpAny_bind (wpAny_load ho ?_)
           rw [hc, hd]
           show wpAny M A (if (["enumerate", "zip", "dict_itemiterator", "dict_reverseitemiterator", "odict_iterator", "itertools.zip_longest", "itertools.pairwise"].contains n && vs[0]? == some (rawInt _)) = true then _ else _) Q E s
           rw [if_neg (by intro h; rw [hn, Bool.false_and] at h; cases h)]
           exact wpAny_pure hQ))
/-- the list at a, as it stands at each turn (a loop may append to it) -/
def Itl (K : PySem.W.Frag) (a : Addr) : It :=
  ⟨fun i H => ∃ xs x, SqL K H a xs ∧ xs[i]? = some x, fun i H x H' => H' = H ∧ ∀ xs, SqL K H a xs → xs[i]? = some x, fun i H => ∃ xs, SqL K H a xs ∧ xs.length ≤ i⟩
/-- lo, lo + 1, .. (n of them) -/
def Itr (lo : Int) (n : Nat) : It := ⟨fun i _ => i < n, fun i H x H' => H' = H ∧ x = .int (lo + i), fun i _ => n ≤ i⟩
theorem turn_list {P : Program} {w : World} {K : PySem.W.Frag} {tg : Expr} (a it : Addr) : Turn P w K tg (Itl K a) [it] it (fun i h => h.IsListIter it a i) where
  mem := by simp
  obj := fun i h st b hb => by
    have e : b = it := by simpa using hb
    subst e
    obtain ⟨o, e, c, d⟩ := st
    exact ⟨o, e, fun v z => by rw [d] at z; cases z⟩
  keep := fun i h h' st k => st.at fun o e => k it (by simp) o e
  item := by
    intro X hP hw hK hc i pins s σ H E I hf st hg
    subst hP hw hK
    obtain ⟨xs, x, hq, hx⟩ := hg
    obtain ⟨its, rv, p, hz⟩ := I.list hq
    obtain ⟨u, hu, ru⟩ := rv.get hx
    obtain ⟨f0, f1, f2, f3, f4, f5⟩ := hf it (by simp)
    refine wpAny_pyNext_list_item st p.isList (x := u) (by simpa using hu) fun h' st' sb => ?_
    have I1 : Inv X pins σ H { s with heap := h' } := I.turned (t' := s.toks) (fun b o hb e => (sb.2 b hb).trans e) f0 f1 f3 f4 f5
    obtain ⟨o, e, c, d⟩ := id st'
    exact ⟨u, rfl, go_of (s := { s with heap := h' }) e c d (by decide) ⟨x, H, I1, ru, ⟨rfl, fun ys hy => by rw [I.list_inj hy hq]; exact hx⟩, st', fun b hb => (hf b hb).1⟩⟩
  done := by
    intro X hP hw hK hc i pins s σ H E I hf st hg
    subst hP hw hK
    obtain ⟨xs, hq, hx⟩ := hg
    obtain ⟨its, rv, p, hz⟩ := I.list hq
    obtain ⟨f0, f1, f2, f3, f4, f5⟩ := hf it (by simp)
    have hl := rv.length
    exact wpAny_pyNext_list_end (I.ok.hd hc) st p.isList (by simp; omega) fun h' eb => ⟨rfl, I.turned (t' := s.toks) (fun b o hb e => eb b o hb e) f0 f1 f3 f4 f5⟩
  self := fun _ _ _ _ _ st h => wpAny_pyIter_listiter st h
theorem turn_range {P : Program} {w : World} {K : PySem.W.Frag} {tg : Expr} (it : Addr) (lo : Int) (n : Nat) : Turn P w K tg (Itr lo n) [it] it (fun i h => IsRangeIter h it (lo + (i : Nat) * 1) ((n : Int) - (i : Nat)) 1) where
  mem := by simp
  obj := fun i h st b hb => by
    have e : b = it := by simpa using hb
    subst e
    exact ⟨_, st, fun v z => by
      have z' : Data.fields _ = Data.cell v := z
      cases z'⟩
  keep := fun i h h' st k => k it (by simp) _ st
  item := by
    intro X hP hw hK hc i pins s σ H E I hf st hg
    subst hP hw hK
    obtain ⟨f0, f1, f2, f3, f4, f5⟩ := hf it (by simp)
    have W := Walks.range (prog := X.prog) (w := X.w) (I.ok.hd hc) it lo 1 n
    refine W.item i s _ _ hg st fun v h' tk hv st' kk => ?_
    obtain ⟨t, rfl⟩ := hv
    have I1 : Inv X pins σ H { s with heap := h', toks := tk } := I.turned (fun b o hb e => kk b o (by simpa using hb) e) f0 f1 f3 f4 f5
    refine ⟨_, rfl, go_of (s := { s with heap := h', toks := tk }) (n := "range_iterator") st' rfl rfl (by decide) ⟨.int (lo + i), H, I1, ⟨t, ?_⟩, ⟨rfl, rfl⟩, st', fun b hb => (hf b hb).1⟩⟩
    rw [Int.mul_one]
  done := by
    intro X hP hw hK hc i pins s σ H E I hf st hg
    subst hP hw hK
    obtain ⟨f0, f1, f2, f3, f4, f5⟩ := hf it (by simp)
    exact wpAny_pyNext_range_end (I.ok.hd hc) st (by have : n ≤ i := hg; omega) fun h' eb => ⟨rfl, I.turned (t' := s.toks) (fun b o hb e => eb b o hb e) f0 f1 f3 f4 f5⟩
  self := fun _ _ _ _ _ st h => wpAny_pyIter_rangeiter st h
end L2
namespace L2
open PySem PySem.Spec PyProof.Rows
section
variable {X : Cx} {tg : Expr}
def iList (K : PySem.W.Frag) (tl : TE) : TI := fun σ H R => tl σ H fun x H1 => ∃ a, x = .ref a ∧ (∃ xs, SqL K H1 a xs) ∧ R (Itl K a) H1
theorem pi_list {l : Expr} {tl : TE} (hl : PE X l tl) : PI X tg l (iList X.K tl) := by
  intro pins s σ H R I h
  refine thn (hl pins s σ H _ I h) fun v s1 ⟨x, H1, I1, r1, q1⟩ => ?_
  obtain ⟨a, e, ⟨xs, hq⟩, q⟩ := q1
  subst e
  cases r1
  obtain ⟨its, rv, p, hz⟩ := I1.list hq
  refine wpAny_pyIter_list p.isList ?_
  refine ⟨s1.heap.objs.size, [s1.heap.objs.size], _, _, H1, rfl, I1.kept (t' := s1.toks) fun b o e => Heap.get?_push_of_some _ e, turn_list a _, ⟨_, Heap.get?_push_size _ rfl, rfl, rfl⟩, fun b hb => ?_, q⟩
  have e : b = s1.heap.objs.size := by simpa using hb
  subst e
  exact I1.fpOk (Nat.le_refl _) (I1.hok.fresh (Nat.le_refl _))
/-- a range object just made, walked -/
theorem range_it {pins : List (Addr × Obj)} {σ : St} {H : Hp} {s : Shared} {R : It → Hp → Prop} {E : Value → Shared → Prop} {lo hi : Int} {t u v : Tok} {tk : Nat} (I : Inv X pins σ H s) (h1 : -(2 ^ 62) ≤ lo) (h2 : lo < 2 ^ 62) (h3 : -(2 ^ 62) ≤ hi) (h4 : hi < 2 ^ 62)
    (q : R (Itr lo (hi - lo).toNat) H) : wpAny (model X.prog X.w) X.A (pyIter (.ref s.heap.objs.size)) (PIE X pins σ tg R) E { s with heap := s.heap.push { cls := .type "range", data := .fields #[.int lo t, .int hi u, .int 1 v] }, toks := tk } := by
  refine wpAny_pyIter_range (IsRange.new ..) (small_one h1 h2 h3 h4) ?_
  have I1 : Inv X pins σ H { s with heap := s.heap.push { cls := .type "range", data := .fields #[.int lo t, .int hi u, .int 1 v] }, toks := tk } := I.kept fun b o e => Heap.get?_push_of_some _ e
  refine ⟨(s.heap.push { cls := .type "range", data := .fields #[.int lo t, .int hi u, .int 1 v] }).objs.size, [(s.heap.push { cls := .type "range", data := .fields #[.int lo t, .int hi u, .int 1 v] }).objs.size], _, _, H, rfl,
    I1.kept (t' := tk) fun b o e => Heap.get?_push_of_some _ e, turn_range _ lo (hi - lo).toNat, ?_, fun b hb => ?_, q⟩
  · have e1 : lo + ((0 : Nat) : Int) * 1 = lo := by simp
    have e2 : (((hi - lo).toNat : Nat) : Int) - ((0 : Nat) : Int) = Builtin.Range.rangeSize lo hi 1 := by rw [rangeSize_one]; split <;> omega
    show IsRangeIter _ _ (lo + ((0 : Nat) : Int) * 1) ((((hi - lo).toNat : Nat) : Int) - ((0 : Nat) : Int)) 1
    rw [e1, e2]
    exact Heap.get?_push_size _ rfl
  · have e : b = (s.heap.push { cls := .type "range", data := .fields #[.int lo t, .int hi u, .int 1 v] }).objs.size := by simpa using hb
    subst e
    exact I1.fpOk (Nat.le_refl _) (I1.hok.fresh (Nat.le_refl _))
def iRng1 (ta : TA) : TI := fun σ H R => ta σ H fun vs H1 => ∃ j : Int, vs = [.int j] ∧ -(2 ^ 62) ≤ j ∧ j < 2 ^ 62 ∧ R (Itr 0 j.toNat) H1
def iRng2 (ta : TA) : TI := fun σ H R => ta σ H fun vs H1 => ∃ i j : Int, vs = [.int i, .int j] ∧ (-(2 ^ 62) ≤ i ∧ i < 2 ^ 62 ∧ -(2 ^ 62) ≤ j ∧ j < 2 ^ 62) ∧ R (Itr i (j - i).toNat) H1
theorem pi_range1 {a : Expr} {ta : TA} {p pos : Pos} (hg : Gl X "range") (hm : X.mg "range" = none) (ha : PA X [a] ta) (hs : starEach [a] X.env = [(false, eval a X.env)] := by rfl) : PI X tg (.Call (.Name "range" p) [a] [] pos) (iRng1 ta) := by
  intro pins s σ H R I h
  refine Call_ (ld_blt I hg hm boot_range (PyProof.Rows.callWith_type1 (thn (ha pos pins s σ H _ I h) fun us s1 ⟨vs, H1, I1, r1, q1⟩ => ?_) hs rfl))
  obtain ⟨j, e, q1, q2, q⟩ := q1
  subst e
  cases r1 with
  | cons r rr =>
    cases rr
    obtain ⟨t, rfl⟩ := r
    exact call_range_1 (range_it I1 (by omega) (by omega) q1 q2 (by simpa using q))
/-- W: the invariant by the turn and a measure; N: what the body is to reach -/
def tFor (wi : TI) (g : TG) (tb : TS) : TS := fun D σ H => wi σ H fun J H1 => ∃ W : Nat → Nat → St → Hp → Prop, (∃ m, W 0 m σ H1) ∧ ∀ i m σ H, W i m σ H →
  (J.stop i H ∧ D.nx σ H) ∨ (J.go i H ∧ ∃ N : St → Hp → Prop, (∀ σ' H', N σ' H' → ∃ m', m' < m ∧ W (i + 1) m' σ' H') ∧ ∀ x H', J.yld i H x H' → g x σ H' fun σ2 H2 => tb { D with nx := N, ct := N, bk := D.nx } σ2 H2)
/-- the records at fp as they stand -/
def pinsAt (fp : List Addr) (h : Heap) : List (Addr × Obj) := fp.filterMap fun b => (h.get? b).map fun o => (b, o)
theorem mem_pinsAt {fp : List Addr} {h : Heap} {b : Addr} {o : Obj} (hb : b ∈ fp) (e : h.get? b = some o) : (b, o) ∈ pinsAt fp h := List.mem_filterMap.mpr ⟨b, hb, by rw [e]; rfl⟩
theorem of_pinsAt {fp : List Addr} {h : Heap} {p : Addr × Obj} (hp : p ∈ pinsAt fp h) : p.1 ∈ fp ∧ h.get? p.1 = some p.2 := by
  obtain ⟨b, hb, e⟩ := List.mem_filterMap.mp hp
  cases q : h.get? b with
  | none => rw [q] at e; cases e
  | some o =>
    rw [q] at e
    have e' : (b, o) = p := Option.some.inj e
    subst e'
    exact ⟨hb, q⟩
theorem Inv.pinned {pins : List (Addr × Obj)} {σ : St} {H : Hp} {s : Shared} {fp : List Addr} (I : Inv X pins σ H s) (hf : ∀ b ∈ fp, FpOk X pins H b) (ho : ∀ b ∈ fp, ∃ o, s.heap.get? b = some o ∧ ∀ v, o.data ≠ .cell v) : Inv X (pins ++ pinsAt fp s.heap) σ H s :=
  I.pins_of fun p hp => (List.mem_append.mp hp).elim (fun z => I.pin p (List.mem_append_right _ z)) fun z => by
    obtain ⟨hb, e⟩ := of_pinsAt z
    obtain ⟨f0, f1, f2, _⟩ := hf p.1 hb
    obtain ⟨o, e', d⟩ := ho p.1 hb
    rw [e] at e'; cases e'
    exact ⟨e, f0, f1, f2, d⟩
theorem Inv.unpinned {pins pl : List (Addr × Obj)} {σ : St} {H : Hp} {s : Shared} (I : Inv X (pins ++ pl) σ H s) : Inv X pins σ H s := I.pins_of fun p hp => I.pin p (List.mem_append_right _ (List.mem_append_left _ hp))
theorem ps_for {iter : Expr} {body : List Stmt} {wi : TI} {g : TG} {tb : TS} {pos : Pos} (hp : PassesOwn (model X.prog X.w) X.A X.env X.xe) (hc : X.calm = true) (hi : PI X tg iter wi) (hg : PG X tg g) (hb : PSs X body tb)
    (hs : ∀ x, foldedSetIterable iter X.env x = pure x := by intro _; rfl) : PS X (.For tg iter body [] pos) (tFor wi g tb) := by
  intro pins s σ H D I h
  refine wpAny_For (thn (hi pins s σ H _ I h) fun v s1 h1 => thn h1 fun itv s2 h2 => ?_) hs
  obtain ⟨it, fp, tn, J, H2, e, I2, T, st2, f2, W, ⟨m0, w0⟩, turn⟩ := h2
  subst e
  -- what stays true of the iterator's objects through the loop
  have stat : ∀ {H' : Hp}, (∀ b ∈ fp, H' b = none) → ∀ b ∈ fp, FpOk X pins H' b := fun hn b hb => ⟨hn b hb, (f2 b hb).2⟩
  refine codeAny_forLoop_any (fun n s' => ∃ i σ' H', Inv X pins σ' H' s' ∧ tn i s'.heap ∧ (∀ b ∈ fp, H' b = none) ∧ W i n σ' H') ?_ m0 ⟨0, σ, H2, I2, st2, fun b hb => (f2 b hb).1, w0⟩
  rintro n s3 ⟨i, σ3, H3, I3, st3, fr3, w3⟩
  rcases turn i n σ3 H3 w3 with ⟨stop, qn⟩ | ⟨go, N, hN, step⟩
  · refine wpAny_passesOwn hp (thn (T.done X rfl rfl rfl hc i pins s3 σ3 H3 X.xe I3 (stat fr3) st3 stop) fun r s4 ⟨hr, I4⟩ => ?_)
    subst hr
    exact wpAny_execs_nil ⟨σ3, H3, I4, qn⟩
  · refine wpAny_passesOwn hp (thn (T.item X rfl rfl rfl hc i pins s3 σ3 H3 X.xe I3 (stat fr3) st3 go) fun r s4 ⟨u, hr, h4⟩ => ?_)
    subst hr
    refine wpAny_passesOwn hp (thn h4 fun _ s5 ⟨x, H5, I5, r5, y5, st5, fr5⟩ => ?_)
    have I5' := I5.pinned (stat fr5) (T.obj _ _ st5)
    refine wpAny_passesOwn hp (thn (hg _ s5 σ3 H5 x u _ I5' r5 (step x H5 y5)) fun _ s6 ⟨σ6, H6, I6, q6⟩ => ?_)
    refine wpAny_passesOwn hp (thn (hb _ s6 σ6 H6 _ I6 q6) fun f s7 q7 => ?_)
    have again : ∀ {σ7 : St} {H7 : Hp}, Inv X (pins ++ pinsAt fp s5.heap) σ7 H7 s7 → N σ7 H7 → ∃ m, m < n ∧ ∃ i σ' H', Inv X pins σ' H' s7 ∧ tn i s7.heap ∧ (∀ b ∈ fp, H' b = none) ∧ W i m σ' H' := fun {σ7 H7} I7 n7 => by
      obtain ⟨m', hm, w7⟩ := hN σ7 H7 n7
      refine ⟨m', hm, i + 1, σ7, H7, I7.unpinned, T.keep _ _ _ st5 fun b hb o e => (I7.pin (b, o) (List.mem_append_right _ (List.mem_append_right _ (mem_pinsAt hb e)))).1, fun b hb => ?_, w7⟩
      obtain ⟨o, e, d⟩ := T.obj _ _ st5 b hb
      exact (I7.pin (b, o) (List.mem_append_right _ (List.mem_append_right _ (mem_pinsAt hb e)))).2.1
    cases f with
    | next => obtain ⟨σ7, H7, I7, n7⟩ := q7; exact again I7 n7
    | cont => obtain ⟨σ7, H7, I7, n7⟩ := q7; exact again I7 n7
    | brk => obtain ⟨σ7, H7, I7, q7⟩ := q7; exact ⟨σ7, H7, I7.unpinned, q7⟩
    | ret v => obtain ⟨x7, σ7, H7, I7, r7, q7⟩ := q7; exact ⟨x7, σ7, H7, I7.unpinned, r7, q7⟩
end
/-- over a list that the body leaves as it is -/
theorem for_list {K : PySem.W.Frag} {a : Addr} {xs : List V} {g : TG} {tb : TS} {D : Ends} {σ : St} {H : Hp} (Pv : Nat → St → Hp → Prop) (h0 : Pv 0 σ H) (hl : ∀ i σ H, i ≤ xs.length → Pv i σ H → SqL K H a xs)
    (hs : ∀ i x σ H, xs[i]? = some x → Pv i σ H → g x σ H fun σ2 H2 => tb { D with nx := Pv (i + 1), ct := Pv (i + 1), bk := D.nx } σ2 H2) (hd : ∀ σ H, Pv xs.length σ H → D.nx σ H) :
    ∃ W : Nat → Nat → St → Hp → Prop, (∃ m, W 0 m σ H) ∧ ∀ i m σ H, W i m σ H →
      ((Itl K a).stop i H ∧ D.nx σ H) ∨ ((Itl K a).go i H ∧ ∃ N : St → Hp → Prop, (∀ σ' H', N σ' H' → ∃ m', m' < m ∧ W (i + 1) m' σ' H') ∧ ∀ x H', (Itl K a).yld i H x H' → g x σ H' fun σ2 H2 => tb { D with nx := N, ct := N, bk := D.nx } σ2 H2) := by
  refine ⟨fun i m σ H => m = xs.length - i ∧ i ≤ xs.length ∧ Pv i σ H, ⟨xs.length, by simp, Nat.zero_le _, h0⟩, ?_⟩
  rintro i m σ H ⟨rfl, hi, p⟩
  have q := hl i σ H hi p
  by_cases hlt : i < xs.length
  · refine .inr ⟨⟨xs, xs[i], q, by simp [hlt]⟩, Pv (i + 1), fun σ' H' p' => ⟨xs.length - (i + 1), by omega, rfl, hlt, p'⟩, fun x H' y => ?_⟩
    obtain ⟨e, y⟩ := y
    subst e
    exact hs i x σ _ (y xs q) p
  · have e : i = xs.length := by omega
    subst e
    exact .inl ⟨⟨xs, q, Nat.le_refl _⟩, hd σ H p⟩
end L2
namespace L2
open PySem PySem.Spec PyProof.Rows
abbrev R2 := V → V → Hp → VK → Prop
/-- a two-place operation on values: f is binaryOp op, inplaceOp op or compareOp op -/
def OpR (X : Cx) (f : Value → Value → Sem Value) (r : R2) : Prop :=
  ∀ (pins : List (Addr × Obj)) (s : Shared) (σ : St) (H : Hp) (x y : V) (v u : Value) (Q : VK), Inv X pins σ H s → RelV x v → RelV y u → r x y H Q →
    wpAny (model X.prog X.w) X.A (f v u) (EP X pins σ Q) X.xe s
/-- a one-place operation -/
def UnR (X : Cx) (f : Value → Sem Value) (r : V → Hp → VK → Prop) : Prop :=
  ∀ (pins : List (Addr × Obj)) (s : Shared) (σ : St) (H : Hp) (x : V) (v : Value) (Q : VK), Inv X pins σ H s → RelV x v → r x H Q →
    wpAny (model X.prog X.w) X.A (f v) (EP X pins σ Q) X.xe s
/-- a call of a value that is known (a builtin, a type) with values -/
def CallR (X : Cx) (f : Value) (r : List V → Hp → VK → Prop) : Prop :=
  ∀ (pins : List (Addr × Obj)) (s : Shared) (σ : St) (H : Hp) (xs : List V) (us : List Value) (Q : VK), Inv X pins σ H s → Vals xs us → r xs H Q →
    wpAny (model X.prog X.w) X.A (call f us) (EP X pins σ Q) X.xe s
def tOp (r : R2) (ta tb : TE) : TE := fun σ H Q => ta σ H fun x H1 => tb σ H1 fun y H2 => r x y H2 Q
def tUn (r : V → Hp → VK → Prop) (ta : TE) : TE := fun σ H Q => ta σ H fun x H1 => r x H1 Q
/-- ints in, under C, and a value out -/
def rI (C : Int → Int → Prop) (g : Int → Int → V) : R2 := fun x y H Q => ∃ i j, x = .int i ∧ y = .int j ∧ C i j ∧ Q (g i j) H
def rI0 (g : Int → Int → V) : R2 := fun x y H Q => ∃ i j, x = .int i ∧ y = .int j ∧ Q (g i j) H
def rU (g : Int → V) : V → Hp → VK → Prop := fun x H Q => ∃ i, x = .int i ∧ Q (g i) H
section
variable {X : Cx} {a b c : Expr} {ta tb tc : TE} {pos : Pos}
theorem binT (ha : PE X a ta) (hb : PE X b tb) {pins : List (Addr × Obj)} {s : Shared} {σ : St} {H : Hp} {R : V → V → Hp → Prop} (I : Inv X pins σ H s)
    (h : ta σ H fun x H1 => tb σ H1 fun y H2 => R x y H2) {Q : Value → Shared → Prop} {f : Value → Value → Sem Value}
    (hf : ∀ v u s2 x y H2, Inv X pins σ H2 s2 → RelV x v → RelV y u → R x y H2 → wpAny (model X.prog X.w) X.A (f v u) Q X.xe s2) :
    wpAny (model X.prog X.w) X.A (eval a X.env) (fun v s₁ => wpAny (model X.prog X.w) X.A (eval b X.env) (fun u s₂ => wpAny (model X.prog X.w) X.A (f v u) Q X.xe s₂) X.xe s₁) X.xe s := by
  refine thn (ha pins s σ H _ I h) fun v s1 ⟨x, H1, I1, r1, q1⟩ => ?_
  refine thn (hb pins s1 σ H1 _ I1 q1) fun u s2 ⟨y, H2, I2, r2, q2⟩ => ?_
  exact hf v u s2 x y H2 I2 r1 r2 q2
theorem pe_op {op : Operator} {r : R2} (ho : OpR X (binaryOp op) r) (ha : PE X a ta) (hb : PE X b tb) : PE X (.BinOp a op b pos) (tOp r ta tb) := by
  intro pins s σ H Q I h
  exact wpAny_BinOp (binT ha hb I h fun v u s2 x y H2 I2 rx ry q => ho pins s2 σ H2 x y v u Q I2 rx ry q)
theorem pe_un {op : UnaryOp} {r : V → Hp → VK → Prop} (ho : UnR X (unaryOp op) r) (ha : PE X a ta) : PE X (.UnaryOp op a pos) (tUn r ta) := by
  intro pins s σ H Q I h
  exact UnaryOp_ (thn (ha pins s σ H _ I h) fun v s1 ⟨x, H1, I1, r1, q1⟩ => ho pins s1 σ H1 x v Q I1 r1 q1)
theorem opI {f : Value → Value → Sem Value} {C : Int → Int → Prop} {g : Int → Int → Int}
    (rule : ∀ (i j : Int) (t u : Tok) (s : Shared) (Q : Value → Shared → Prop) (E : Value → Shared → Prop), C i j → Q (.int (g i j) s.toks) { s with toks := s.toks + 1 } → wpAny (model X.prog X.w) X.A (f (.int i t) (.int j u)) Q E s) :
    OpR X f (rI C fun i j => .int (g i j)) := by
  intro pins s σ H x y v u Q I rx ry h
  obtain ⟨i, j, rfl, rfl, hc, q⟩ := h
  obtain ⟨t, rfl⟩ := rx
  obtain ⟨t', rfl⟩ := ry
  exact rule i j t t' s _ _ hc ⟨.int (g i j), H, I.tok _, ⟨_, rfl⟩, q⟩
theorem opI0 {f : Value → Value → Sem Value} {g : Int → Int → Int}
    (rule : ∀ (i j : Int) (t u : Tok) (s : Shared) (Q : Value → Shared → Prop) (E : Value → Shared → Prop), Q (.int (g i j) s.toks) { s with toks := s.toks + 1 } → wpAny (model X.prog X.w) X.A (f (.int i t) (.int j u)) Q E s) :
    OpR X f (rI0 fun i j => .int (g i j)) := by
  intro pins s σ H x y v u Q I rx ry h
  obtain ⟨i, j, rfl, rfl, q⟩ := h
  obtain ⟨t, rfl⟩ := rx
  obtain ⟨t', rfl⟩ := ry
  exact rule i j t t' s _ _ ⟨.int (g i j), H, I.tok _, ⟨_, rfl⟩, q⟩
theorem opB0 {f : Value → Value → Sem Value} {g : Int → Int → Bool}
    (rule : ∀ (i j : Int) (t u : Tok) (s : Shared) (Q : Value → Shared → Prop) (E : Value → Shared → Prop), Q (.bool (g i j)) s → wpAny (model X.prog X.w) X.A (f (.int i t) (.int j u)) Q E s) :
    OpR X f (rI0 fun i j => .bl (g i j)) := by
  intro pins s σ H x y v u Q I rx ry h
  obtain ⟨i, j, rfl, rfl, q⟩ := h
  obtain ⟨t, rfl⟩ := rx
  obtain ⟨t', rfl⟩ := ry
  exact rule i j t t' s _ _ ⟨.bl (g i j), H, I, rfl, q⟩
def CDiv (i j : Int) : Prop := 0 < j ∧ j < 1073741824
def CMul (i j : Int) : Prop := (-(2 ^ 64) < i ∧ i < 2 ^ 64) ∨ (-(2 ^ 64) < j ∧ j < 2 ^ 64)
theorem CMul.ok {i j : Int} (h : CMul i j) : IntMulOk i j := by
  rcases h with ⟨h1, h2⟩ | ⟨h1, h2⟩
  · exact .of_left (intBits_le_64 h1 h2)
  · exact .of_right (intBits_le_64 h1 h2)
theorem op_add : OpR X (binaryOp .Add) (rI0 fun i j => .int (i + j)) := opI0 fun _ _ _ _ _ _ _ q => add_int q
theorem op_sub : OpR X (binaryOp .Sub) (rI0 fun i j => .int (i - j)) := opI0 fun _ _ _ _ _ _ _ q => sub_int q
theorem op_mul : OpR X (binaryOp .Mult) (rI CMul fun i j => .int (i * j)) := opI fun _ _ _ _ _ _ _ hc q => mul_int q hc.ok
/-- // by a positive divisor -/
theorem op_fdiv : OpR X (binaryOp .FloorDiv) (rI CDiv fun i j => .int (i / j)) := opI fun i j _ _ _ _ _ hc q => by
  have h1 : (0 : Int) < j := hc.1
  have h2 : j < 1073741824 := hc.2
  exact floordiv_int (by omega) (by rw [Int.fdiv_eq_ediv_of_nonneg i (by omega)]; exact q) (.inl (PyProof.noPylong_small (by omega)))
/-- % by a positive divisor of any size -/
theorem op_mod : OpR X (binaryOp .Mod) (rI (fun _ j => 0 < j) fun i j => .int (i % j)) := opI fun i j _ _ _ _ _ hc q => by
  have h1 : (0 : Int) < j := hc
  exact mod_int' (by omega) (by rw [Int.fmod_eq_emod_of_nonneg i (by omega)]; exact q)
theorem unI {f : Value → Sem Value} {g : Int → Int}
    (rule : ∀ (i : Int) (t : Tok) (s : Shared) (Q : Value → Shared → Prop) (E : Value → Shared → Prop), Q (.int (g i) s.toks) { s with toks := s.toks + 1 } → wpAny (model X.prog X.w) X.A (f (.int i t)) Q E s) :
    UnR X f (rU fun i => .int (g i)) := by
  intro pins s σ H x v Q I rx h
  obtain ⟨i, rfl, q⟩ := h
  obtain ⟨t, rfl⟩ := rx
  exact rule i t s _ _ ⟨.int (g i), H, I.tok _, ⟨_, rfl⟩, q⟩
theorem un_neg : UnR X (unaryOp .USub) (rU fun i => .int (-i)) := unI fun _ _ _ _ _ q => neg_int q
end
/-- the scalars that == tells apart as data does -/
def scal : V → V → Bool
  | .non, .non => true | .non, .int _ => true | .int _, .non => true | .non, .bl _ => true | .bl _, .non => true | .non, .str _ => true | .str _, .non => true
  | .int _, .int _ => true | .bl _, .bl _ => true | .str _, .str _ => true | .byt _, .byt _ => true
  | .int _, .str _ => true | .str _, .int _ => true | .bl _, .str _ => true | .str _, .bl _ => true
  | _, _ => false
def rEq : R2 := fun x y H Q => scal x y = true ∧ Q (.bl (decide (x = y))) H
def rNe : R2 := fun x y H Q => scal x y = true ∧ Q (.bl (!decide (x = y))) H
theorem dec_int {i j : Int} : decide (V.int i = V.int j) = (i == j) := by
  rw [Bool.eq_iff_iff]
  simp
theorem dec_bl {i j : Bool} : decide (V.bl i = V.bl j) = (i == j) := by
  rw [Bool.eq_iff_iff]
  simp
theorem dec_str {i j : Str} : decide (V.str i = V.str j) = (i == j) := by
  rw [Bool.eq_iff_iff]
  simp
theorem dec_byt {i j : Array UInt8} : decide (V.byt i = V.byt j) = (i.toList == j.toList) := by
  rw [Bool.eq_iff_iff]
  cases i
  cases j
  simp
section
variable {X : Cx} {a b c : Expr} {ta tb tc : TE} {pos : Pos}
theorem fin_bl {pins : List (Addr × Obj)} {σ : St} {H : Hp} {s : Shared} {Q : VK} {k k' : Bool} (I : Inv X pins σ H s) (q : Q (.bl k) H) (e : k = k') : EP X pins σ Q (.bool k') s := by
  subst e
  exact ⟨.bl k, H, I, rfl, q⟩
theorem op_eq : OpR X (compareOp .Eq) rEq := by
  intro pins s σ H x y v u Q I rx ry h
  obtain ⟨hs, q⟩ := h
  cases x with
  | non =>
    cases rx
    cases y with
    | non => cases ry; exact PySem.EqNone.eq_none_none (fin_bl I q (by simp))
    | bl j => cases ry; exact PySem.EqNone.eq_none_bool (fin_bl I q (by simp))
    | int j => obtain ⟨t', rfl⟩ := ry; exact PySem.EqNone.eq_none_int (fin_bl I q (by simp))
    | str j => obtain ⟨t', rfl⟩ := ry; exact PySem.EqNone.eq_none_str (fin_bl I q (by simp))
    | _ => exact absurd (show false = true from hs) Bool.false_ne_true
  | bl i =>
    cases rx
    cases y with
    | non => cases ry; exact PySem.EqNone.eq_bool_none (fin_bl I q (by simp))
    | bl j => cases ry; exact eq_bool (fin_bl I q dec_bl)
    | str j => obtain ⟨t', rfl⟩ := ry; exact PySem.EqMixed.eq_bool_str (fin_bl I q (by simp))
    | _ => exact absurd (show false = true from hs) Bool.false_ne_true
  | int i =>
    obtain ⟨t, rfl⟩ := rx
    cases y with
    | non => cases ry; exact PySem.EqNone.eq_int_none (fin_bl I q (by simp))
    | int j => obtain ⟨t', rfl⟩ := ry; exact eq_int (fin_bl I q dec_int)
    | str j => obtain ⟨t', rfl⟩ := ry; exact PySem.EqMixed.eq_int_str (fin_bl I q (by simp))
    | _ => exact absurd (show false = true from hs) Bool.false_ne_true
  | str i =>
    obtain ⟨t, rfl⟩ := rx
    cases y with
    | non => cases ry; exact PySem.EqNone.eq_str_none (fin_bl I q (by simp))
    | bl j => cases ry; exact PySem.EqMixed.eq_str_bool (fin_bl I q (by simp))
    | int j => obtain ⟨t', rfl⟩ := ry; exact PySem.EqMixed.eq_str_int (fin_bl I q (by simp))
    | str j => obtain ⟨t', rfl⟩ := ry; exact eq_str (fin_bl I q dec_str)
    | _ => exact absurd (show false = true from hs) Bool.false_ne_true
  | byt i =>
    obtain ⟨t, rfl⟩ := rx
    cases y with
    | byt j => obtain ⟨t', rfl⟩ := ry; exact PySem.W.eq_bytes (fin_bl I q dec_byt)
    | _ => exact absurd (show false = true from hs) Bool.false_ne_true
  | _ => cases y <;> exact absurd (show false = true from hs) Bool.false_ne_true
theorem op_ne : OpR X (compareOp .NotEq) rNe := by
  intro pins s σ H x y v u Q I rx ry h
  obtain ⟨hs, q⟩ := h
  cases x with
  | non =>
    cases rx
    cases y with
    | non => cases ry; exact PySem.EqNone.ne_none_none (fin_bl I q (by simp))
    | bl j => cases ry; exact PySem.EqNone.ne_none_bool (fin_bl I q (by simp))
    | int j => obtain ⟨t', rfl⟩ := ry; exact PySem.EqNone.ne_none_int (fin_bl I q (by simp))
    | str j => obtain ⟨t', rfl⟩ := ry; exact PySem.EqNone.ne_none_str (fin_bl I q (by simp))
    | _ => exact absurd (show false = true from hs) Bool.false_ne_true
  | bl i =>
    cases rx
    cases y with
    | non => cases ry; exact PySem.EqNone.ne_bool_none (fin_bl I q (by simp))
    | bl j => cases ry; exact ne_bool (fin_bl I q (congrArg not dec_bl))
    | str j => obtain ⟨t', rfl⟩ := ry; exact PySem.EqMixed.ne_bool_str (fin_bl I q (by simp))
    | _ => exact absurd (show false = true from hs) Bool.false_ne_true
  | int i =>
    obtain ⟨t, rfl⟩ := rx
    cases y with
    | non => cases ry; exact PySem.EqNone.ne_int_none (fin_bl I q (by simp))
    | int j => obtain ⟨t', rfl⟩ := ry; exact ne_int (fin_bl I q (congrArg not dec_int))
    | str j => obtain ⟨t', rfl⟩ := ry; exact PySem.EqMixed.ne_int_str (fin_bl I q (by simp))
    | _ => exact absurd (show false = true from hs) Bool.false_ne_true
  | str i =>
    obtain ⟨t, rfl⟩ := rx
    cases y with
    | non => cases ry; exact PySem.EqNone.ne_str_none (fin_bl I q (by simp))
    | bl j => cases ry; exact PySem.EqMixed.ne_str_bool (fin_bl I q (by simp))
    | int j => obtain ⟨t', rfl⟩ := ry; exact PySem.EqMixed.ne_str_int (fin_bl I q (by simp))
    | str j => obtain ⟨t', rfl⟩ := ry; exact ne_str (fin_bl I q (congrArg not dec_str))
    | _ => exact absurd (show false = true from hs) Bool.false_ne_true
  | byt i =>
    obtain ⟨t, rfl⟩ := rx
    cases y with
    | byt j => obtain ⟨t', rfl⟩ := ry; exact PySem.W.ne_bytes (fin_bl I q (congrArg not dec_byt))
    | _ => exact absurd (show false = true from hs) Bool.false_ne_true
  | _ => cases y <;> exact absurd (show false = true from hs) Bool.false_ne_true
theorem op_lt : OpR X (compareOp .Lt) (rI0 fun i j => .bl (decide (i < j))) := opB0 fun _ _ _ _ _ _ _ q => lt_int q
theorem op_le : OpR X (compareOp .LtE) (rI0 fun i j => .bl (decide (i ≤ j))) := opB0 fun _ _ _ _ _ _ _ q => le_int q
theorem op_gt : OpR X (compareOp .Gt) (rI0 fun i j => .bl (decide (j < i))) := opB0 fun _ _ _ _ _ _ _ q => gt_int q
/-- the one string within the other -/
theorem op_in_str : OpR X (compareOp .In) (fun x y H Q => ∃ i j, x = .str i ∧ y = .str j ∧ Q (.bl (!(Builtin.Str.occurrences j i 0 j.length 1).isEmpty)) H) := by
  intro pins s σ H x y v u Q I rx ry h
  obtain ⟨i, j, rfl, rfl, q⟩ := h
  obtain ⟨t, rfl⟩ := rx
  obtain ⟨t', rfl⟩ := ry
  exact in_str (fin_bl I q rfl)
/-- is None, is not None: the right side a value none -/
theorem op_isN : OpR X (compareOp .Is) (fun x y H Q => y = .non ∧ Q (.bl (decide (x = .non))) H) := by
  intro pins s σ H x y v u Q I rx ry h
  obtain ⟨rfl, q⟩ := h
  cases ry
  refine is_none_gen (fin_bl I q ?_)
  cases x <;> first
    | (cases rx; rfl)
    | (obtain ⟨t, rfl⟩ := rx; rfl)
/-- two rules for one operation: by cases -/
theorem OpR.or {f : Value → Value → Sem Value} {r r' : R2} (h : OpR X f r) (h' : OpR X f r') : OpR X f (fun x y H Q => r x y H Q ∨ r' x y H Q) := by
  intro pins s σ H x y v u Q I rx ry q
  rcases q with q | q
  · exact h pins s σ H x y v u Q I rx ry q
  · exact h' pins s σ H x y v u Q I rx ry q
theorem nomark (b : Expr) {op : CmpOp} (h : op ≠ .In := by decide) (h2 : op ≠ .NotIn := by decide) : behindInMarks op b = false := by
  have e1 : (op == CmpOp.In) = false := by cases op <;> first | rfl | exact absurd rfl h
  have e2 : (op == CmpOp.NotIn) = false := by cases op <;> first | rfl | exact absurd rfl h2
  cases b <;> simp [behindInMarks, e1, e2]
/-- a comparison as a value; hm: nomark b, or (for in, not in) by with_unfolding_all rfl -/
theorem pe_cmpR {op : CmpOp} {r : R2} (ho : OpR X (compareOp op) r) (ha : PE X a ta) (hb : PE X b tb) (hm : behindInMarks op b = false) : PE X (.Compare a [op] [b] pos) (tOp r ta tb) := by
  intro pins s σ H Q I h
  exact wpAny_Compare1 (binT ha hb I h fun v u s2 x y H2 I2 rx ry q => ho pins s2 σ H2 x y v u Q I2 rx ry q) hm
/-- a reading of a value as a test -/
def tTest (t : TE) : TT := fun σ H Q => t σ H fun x H' => ∃ k, x = .bl k ∧ Q k H'
theorem pt_cmpR {op : CmpOp} {r : R2} (ho : OpR X (compareOp op) r) (ha : PE X a ta) (hb : PE X b tb) (hm : behindInMarks op b = false) : PT X (.Compare a [op] [b] pos) (tTest (tOp r ta tb)) := by
  intro pins s σ H Q I h
  refine wpAny_isTrue_Compare1 (thn (ha pins s σ H _ I h) fun v s1 ⟨x, H1, I1, r1, q1⟩ => thn (hb pins s1 σ H1 _ I1 q1) fun u s2 ⟨y, H2, I2, r2, q2⟩ =>
    thn (ho pins s2 σ H2 x y v u _ I2 r1 r2 q2) fun c s3 ⟨z, H3, I3, r3, k, e, q3⟩ => ?_) hm
  subst e
  cases r3
  exact wpAny_truthy_bool ⟨H3, I3, q3⟩
/-- a op1 b op2 c -/
def tChain (r r' : R2) (ta tb tc : TE) : TE := fun σ H Q => ta σ H fun x H1 => tb σ H1 fun y H2 => r x y H2 fun z H3 => ∃ k, z = .bl k ∧
  (if k = true then tc σ H3 fun w' H4 => r' y w' H4 Q else Q (.bl false) H3)
theorem pt_chain {op op' : CmpOp} {r r' : R2} (ho : OpR X (compareOp op) r) (ho' : OpR X (compareOp op') r') (ha : PE X a ta) (hb : PE X b tb) (hc : PE X c tc)
    (hm : lastMarks [op, op'] [b, c] = false := by with_unfolding_all rfl) : PT X (.Compare a [op, op'] [b, c] pos) (tTest (tChain r r' ta tb tc)) := by
  intro pins s σ H Q I h
  refine isTrue_chain (thn (ha pins s σ H _ I h) fun v s1 ⟨x, H1, I1, r1, q1⟩ => test_link (thn (hb pins s1 σ H1 _ I1 q1) fun u s2 ⟨y, H2, I2, r2, q2⟩ =>
    thn (ho pins s2 σ H2 x y v u _ I2 r1 r2 q2) fun d s3 ⟨z, H3, I3, r3, k, e, q3⟩ => ?_)) hm
  subst e
  cases r3
  refine wpAny_truthy_bool ?_
  cases k with
  | false =>
    obtain ⟨k', e', q'⟩ := q3
    cases e'
    exact ite_ff ⟨H3, I3, q'⟩
  | true =>
    refine ite_tt (test_last (thn (hc pins s3 σ H3 _ I3 q3) fun w' s4 ⟨z', H4, I4, r4, q4⟩ => thn (ho' pins s4 σ H4 y z' u w' _ I4 r2 r4 q4) fun d' s5 ⟨z2, H5, I5, r5, k2, e2, q5⟩ => ?_))
    subst e2
    cases r5
    exact wpAny_truthy_bool ⟨H5, I5, q5⟩
theorem line63 : (sizeLine : Nat) < 2 ^ 63 := by rw [sizeLine_eq]; decide
theorem op_add_str : OpR X (binaryOp .Add) (fun x y H Q => ∃ i j, x = .str i ∧ y = .str j ∧ i.length + j.length ≤ sizeLine ∧ Q (.str (i ++ j)) H) := by
  intro pins s σ H x y v u Q I rx ry h
  obtain ⟨i, j, rfl, rfl, hz, q⟩ := h
  obtain ⟨t, rfl⟩ := rx
  obtain ⟨t', rfl⟩ := ry
  exact add_str (fun t' tk => ⟨.str (i ++ j), H, I.tok _, ⟨_, rfl⟩, q⟩) hz
theorem vals1 {x : V} {us : List Value} (r : Vals [x] us) : ∃ u, us = [u] ∧ RelV x u := by
  cases r with
  | cons r1 r2 => cases r2; exact ⟨_, rfl, r1⟩
theorem vals2 {x y : V} {us : List Value} (r : Vals [x, y] us) : ∃ u w', us = [u, w'] ∧ RelV x u ∧ RelV y w' := by
  cases r with
  | cons r1 r2 =>
    cases r2 with
    | cons r3 r4 => cases r4; exact ⟨_, _, rfl, r1, r3⟩
end
end L2
namespace L2
open PySem PySem.Spec PyProof.Rows
structure ObjM (h : Heap) (x dx C : Addr) (mA : Str → Option Value) : Prop where
  obj : h.get? x = some (PySem.W.instObj C dx)
  ns : h.Ns1 dx mA
  ne : dx ≠ x
theorem lookIn_ns {h : Heap} {dx : Addr} {mA : Str → Option Value} (n : h.Ns1 dx mA) : ∃ od, h.get? dx = some od ∧ ∀ name, PySem.W.lookIn name od = some (mA name) := by
  obtain ⟨o, es, ep, ho, hd, hk, _, hm⟩ := n
  refine ⟨o, ho, fun name => ?_⟩
  have e := hm name
  unfold nsFind findBy at e
  rw [← Array.find?_toList] at e
  unfold PySem.W.lookIn
  rw [hd]
  dsimp only
  split
  · rename_i y q
    rw [q] at e
    exact congrArg some e
  · rename_i q
    rw [q] at e
    have a : es.toList.any (·.refKey) = false := by
      rw [List.any_eq_false]
      intro y hy
      obtain ⟨z, t, hkey⟩ := hk y (Array.mem_toList_iff.mp hy)
      simp [DictEntry.refKey, hkey]
    have a' : ¬ es.toList.any (·.refKey) = true := by rw [a]; exact Bool.false_ne_true
    rw [if_neg a']
    exact congrArg some e
theorem ObjM.look {h : Heap} {x dx C : Addr} {mA : Str → Option Value} (I : ObjM h x dx C mA) : ∃ od, PySem.W.InstAt h x (PySem.W.instObj C dx) C (some od) ∧ ∀ name, PySem.W.lookIn name od = some (mA name) :=
  let ⟨od, ho, hl⟩ := lookIn_ns I.ns
  ⟨od, ⟨I.obj, rfl, rfl, ho⟩, hl⟩
section
variable {prog : Program} {w : World} {A : Around} {E : Value → Shared → Prop} {s : Shared} {K : PySem.W.Frag} {x dx C f : Addr} {mA : Str → Option Value} {name : Str} {v : Value}
theorem get_map {expr : Bool} {Q : Value → Shared → Prop} (X : K.In s.heap) (I : ObjM s.heap x dx C mA) (hg : PySem.W.plainGet K C name = true) (hh : PySem.W.hasDictIn K C = true)
    (ha : PySem.W.findIn K (.ref C) name = some none) (hv : mA name = some v) (hv' : PySem.W.handedIn v = true) (h : Q v { s with toks := s.toks + 1 }) :
    wpAny (model prog w) A (getAttr (.ref x) name expr) Q E s := by
  obtain ⟨od, J, hl⟩ := I.look
  exact PySem.W.get_value X J (PySem.W.plainGet_of hg).1 (PySem.W.findObj_own hh ha rfl (by rw [hl, hv])) hv' h
theorem get_meth {pl : Sem Bool} {Q : Value × List Value → Shared → Prop} (X : K.In s.heap) (I : ObjM s.heap x dx C mA) (hg : PySem.W.plainGet K C name = true)
    (hf : PySem.W.findIn K (.ref C) name = some (some (.ref f))) (ht : PySem.W.isFn K (.ref f) = true) (hv : mA name = none) (h : Q (.ref f, [.ref x]) s) :
    wpAny (model prog w) A (getMethod (.ref x) name pl) Q E s := by
  obtain ⟨od, J, hl⟩ := I.look
  exact PySem.W.method_fn X J (PySem.W.plainGet_of hg).1 (PySem.W.plainGet_of hg).2 hf (beq_iff_eq.mp ht) (by show (PySem.W.lookIn name od).map (·.isSome) = some false; rw [hl, hv]; rfl) h
theorem set_map {ns : List Str} {Q : Unit → Shared → Prop} (X : K.In s.heap) (I : ObjM s.heap x dx C mA)
    (hs : PySem.W.findIn K (.ref C) "__setattr__" = some (some (.builtin "object.__setattr__"))) (hp : PySem.W.plainOver K C = true) (ht : PySem.W.takerIn K C name = some none) (hh : PySem.W.hasDictIn K C = true)
    (hw : PySem.Within mA ns) (hsz : ns.length ≤ sizeLine)
    (h : ∀ h', ObjM h' x dx C (fun y => if y = name then some v else mA y) → Heap.SameBut dx s.heap h' → Q () { s with heap := h', toks := s.toks + 2 }) :
    wpAny (model prog w) A (setAttr (.ref x) name v) Q E s := by
  obtain ⟨od, J, hl⟩ := I.look
  refine PySem.W.set_plain X J hs (PySem.W.osa_open (s := { s with toks := s.toks + 1 }) (r := none) X J hp ht fun b => ?_)
  obtain ⟨cd, hc, hd'⟩ := PySem.W.any_some hh
  have hx : s.heap.get? x = some ⟨.ref C, some dx, .plain, #[]⟩ := I.obj
  refine wpAny_bind (wpAny_pure (wpAny_bind (wpAny_bind (wpAny_loadPart hx (wpAny_bind (PySem.W.Looks.here (s := { s with toks := s.toks + 1 }) (PySem.W.looks_clsIn X hc) ?_))))))
  rw [hd']
  refine wpAny_pure (a := some dx) (wpAny_bind (wpAny_pure (wpAny_bind ?_)))
  refine wpAny_nsSet1 (s := { s with toks := s.toks + 1 }) I.ns fun h' hn2 hs2 => ?_
  obtain ⟨oD, esD, epD, hoD, hdD, hcD⟩ := hn2.count (PySem.Within.cons name v hw)
  refine wpAny_bind (wpAny_lookBehind hoD (by rw [hdD]; exact pastItsLine_dict (Nat.le_trans hcD (by rw [List.length_cons]; omega))) ?_)
  exact wpAny_pure (h _ ⟨(hs2.2 _ (Ne.symm I.ne)).trans I.obj, hn2, I.ne⟩ hs2)
/-- C(..): the dict at the heap's end, the instance behind it; then its __init__ -/
theorem make_map {R : Result → Shared → Prop} {vs : List Value} {kw : List (Str × Value)} (X : K.In s.heap) (hm : PySem.W.makesIn K C = true)
    (hi : PySem.W.findIn K (.ref C) "__init__" = some (some (.ref f))) (hf : PySem.W.typeIn K (.ref f) = some (.type "function"))
    (h : codeAny (model prog w) (A.under (.builtin "type.__call__" ⟨.ref C :: vs, kw⟩)) (.call (.ref f) ⟨.ref (s.heap.objs.size + 1) :: vs, kw⟩) (PySem.W.InitBack (s.heap.objs.size + 1) R)
      { s with heap := (s.heap.push PySem.W.emptyDict).push (PySem.W.instObj C s.heap.objs.size) }) :
    codeAny (model prog w) A (.call (.ref C) ⟨vs, kw⟩) R s := by
  obtain ⟨hh, g, d, t, os⟩ := s
  exact PySem.W.make_core (PySem.W.makes_of X hm) (PySem.W.looks_findIn X hi) (fun self => PySem.W.bind_fn X self hf) (.inl rfl) h
/-- C() where there is no __init__ but object's -/
theorem make_map0 {R : Result → Shared → Prop} (X : K.In s.heap) (hm : PySem.W.makesIn K C = true)
    (hi : PySem.W.findIn K (.ref C) "__init__" = some (some (.builtin "object.__init__")))
    (hb : ∀ self, PySem.W.Looks (model prog w) s.heap (bindSpecial (.builtin "object.__init__") self) (.builtin "object.__init__", [self]))
    (h : codeAny (model prog w) (A.under (.builtin "type.__call__" ⟨[.ref C], []⟩)) (.call (.builtin "object.__init__") ⟨[.ref (s.heap.objs.size + 1)], []⟩) (PySem.W.InitBack (s.heap.objs.size + 1) R)
      { s with heap := (s.heap.push PySem.W.emptyDict).push (PySem.W.instObj C s.heap.objs.size) }) :
    codeAny (model prog w) A (.call (.ref C) ⟨[], []⟩) R s := by
  obtain ⟨hh, g, d, t, os⟩ := s
  exact PySem.W.make_core (PySem.W.makes_of X hm) (PySem.W.looks_findIn X hi) hb (.inr ⟨rfl, rfl⟩) h
end
def putF (f : Str) (v : V) : List (Str × V) → List (Str × V)
  | [] => [(f, v)]
  | (g, x) :: r => if g = f then (g, v) :: r else (g, x) :: putF f v r
theorem lookup_putF (f g : Str) (v : V) : ∀ fs : List (Str × V), (putF f v fs).lookup g = if g = f then some v else fs.lookup g
  | [] => by
    show List.lookup g [(f, v)] = _
    by_cases h : g = f
    · have hb : (g == f) = true := beq_iff_eq.mpr h
      simp only [List.lookup, hb, if_pos h]
    · have hb : (g == f) = false := beq_eq_false_iff_ne.mpr h
      simp only [List.lookup, hb, if_neg h]
  | (k, x) :: r => by
    have ih := lookup_putF f g v r
    rw [show putF f v ((k, x) :: r) = (if k = f then (k, v) :: r else (k, x) :: putF f v r) from rfl]
    by_cases hk : k = f
    · rw [if_pos hk]
      by_cases h : g = k
      · have hb : (g == k) = true := beq_iff_eq.mpr h
        simp only [List.lookup, hb, if_pos (h.trans hk)]
      · have hb : (g == k) = false := beq_eq_false_iff_ne.mpr h
        simp only [List.lookup, hb, if_neg (fun e : g = f => h (e.trans hk.symm))]
    · rw [if_neg hk]
      by_cases h : g = k
      · have hb : (g == k) = true := beq_iff_eq.mpr h
        simp only [List.lookup, hb, if_neg (fun e : g = f => hk (h.symm.trans e))]
      · have hb : (g == k) = false := beq_eq_false_iff_ne.mpr h
        simp only [List.lookup, hb]
        exact ih
theorem keys_putF (f : Str) (v : V) : ∀ fs : List (Str × V), f ∈ (putF f v fs).map (·.1) ∧ ∀ g, g ∈ fs.map (·.1) → g ∈ (putF f v fs).map (·.1)
  | [] => ⟨by simp [putF], fun g h => by simp at h⟩
  | (k, x) :: r => by
    obtain ⟨i1, i2⟩ := keys_putF f v r
    rw [show putF f v ((k, x) :: r) = (if k = f then (k, v) :: r else (k, x) :: putF f v r) from rfl]
    by_cases hk : k = f
    · rw [if_pos hk]
      subst hk
      exact ⟨by simp, fun g h => by simpa using h⟩
    · rw [if_neg hk]
      refine ⟨?_, fun g h => ?_⟩
      · rw [List.map_cons]
        exact List.mem_cons_of_mem _ i1
      · rw [List.map_cons] at h ⊢
        rcases List.mem_cons.mp h with e | e
        · exact List.mem_cons.mpr (.inl e)
        · exact List.mem_cons_of_mem _ (i2 g e)
theorem length_putF (f : Str) (v : V) : ∀ fs : List (Str × V), (putF f v fs).length ≤ fs.length + 1
  | [] => by simp [putF]
  | (k, x) :: r => by
    have ih := length_putF f v r
    rw [show putF f v ((k, x) :: r) = (if k = f then (k, v) :: r else (k, x) :: putF f v r) from rfl]
    by_cases hk : k = f
    · rw [if_pos hk, List.length_cons, List.length_cons]; omega
    · rw [if_neg hk, List.length_cons, List.length_cons]; omega
theorem RelO.some_of {v : V} {o : Option Value} (r : RelO (some v) o) : ∃ u, o = some u ∧ RelV v u := by
  cases o with
  | none => exact (show False from r).elim
  | some u => exact ⟨u, rfl, r⟩
theorem RelO.none_of {o : Option Value} (r : RelO none o) : o = none := by
  cases o with
  | none => rfl
  | some u => exact (show False from r).elim
theorem handed_of {v : V} {u : Value} (r : RelV v u) : PySem.W.handedIn u = true := by
  cases v with
  | non => cases (show u = Value.none from r); rfl
  | bl b => cases (show u = Value.bool b from r); rfl
  | int i => obtain ⟨t, e⟩ := (show ∃ t, u = Value.int i t from r); cases e; rfl
  | str x => obtain ⟨t, e⟩ := (show ∃ t, u = Value.str x t from r); cases e; rfl
  | byt b => obtain ⟨t, e⟩ := (show ∃ t, u = Value.bytes b t from r); cases e; rfl
  | flt b => obtain ⟨t, e⟩ := (show ∃ t, u = Value.float b t from r); cases e; rfl
  | ref a => cases (show u = Value.ref a from r); rfl
  | ty n => cases (show u = Value.type n from r); rfl
section
variable {P : Program} {w : World} {H H' : Hp} {h h' : Heap} {a C dx : Addr} {fs fs' : List (Str × V)}
theorem ins_get (hok : HOk P w H h) (e : H a = some (.ins C dx fs)) : ∃ mA, ObjM h a dx C mA ∧ (∀ f, RelO (fs.lookup f) (mA f)) ∧ PySem.Within mA (fs.map (·.1)) ∧ fs.length ≤ 1000 ∧ H dx = some (.own a) := by
  obtain ⟨d, z, ne, ob, mA, n, r, q⟩ := (show ObjOk P w H h a (.ins C dx fs) from hok a _ e)
  exact ⟨mA, ⟨ob, n, ne⟩, r, q, z, d⟩
end
structure Cls (K : PySem.W.Frag) (C : Addr) : Prop where
  pg : PySem.W.plainGet K C Str.empty = true
  hd : PySem.W.hasDictIn K C = true
  po : PySem.W.plainOver K C = true
  sa : PySem.W.findIn K (.ref C) "__setattr__" = some (some (.builtin "object.__setattr__"))
theorem Cls.get {K : PySem.W.Frag} {C : Addr} (c : Cls K C) (f : Str) : PySem.W.plainGet K C f = true := c.pg
/-- no class of it has the name -/
def NoAttr (K : PySem.W.Frag) (C : Addr) (f : Str) : Prop := PySem.W.findIn K (.ref C) f = some none
theorem NoAttr.taker {K : PySem.W.Frag} {C : Addr} {f : Str} (n : NoAttr K C f) : PySem.W.takerIn K C f = some none := by
  unfold PySem.W.takerIn
  rw [show PySem.W.findIn K (.ref C) f = some none from n]
  rfl
/-- a constant of the class -/
structure Con (K : PySem.W.Frag) (C : Addr) (f : Str) (v : V) (u : Value) : Prop where
  at_ : PySem.W.findIn K (.ref C) f = some (some u)
  rel : RelV v u
  get : PySem.W.specialIn K u "__get__" = some none
  cp : PySem.W.copiedNames.contains f = false
/-- a method: a plain def of the class or of one above it -/
structure Meth (K : PySem.W.Frag) (C : Addr) (m : Str) (f : Addr) : Prop where
  at_ : PySem.W.findIn K (.ref C) m = some (some (.ref f))
  fn : PySem.W.isFn K (.ref f) = true
  kp : PySem.W.keepIn K (.ref f) = true
section
variable {X : Cx} {pins : List (Addr × Obj)} {σ : St} {H : Hp} {s : Shared} {a C dx : Addr} {fs : List (Str × V)} {f : Str} {v : V} {A : Around} {E : Value → Shared → Prop}
theorem getattr_ok {b : Bool} {Q : Value → Shared → Prop} (I : Inv X pins σ H s) (e : H a = some (.ins C dx fs)) (c : Cls X.K C) (n : NoAttr X.K C f) (l : fs.lookup f = some v)
    (h : ∀ u s', Inv X pins σ H s' → RelV v u → Q u s') : wpAny (model X.prog X.w) A (getAttr (.ref a) f b) Q E s := by
  obtain ⟨mA, O, r, _, _, _⟩ := ins_get I.hok e
  obtain ⟨u, hu, ru⟩ := RelO.some_of (v := v) (o := mA f) (by rw [← l]; exact r f)
  exact get_map I.kIn O (c.get f) c.hd n hu (handed_of ru) (h u _ (I.tok _) ru)
theorem getmeth_ok {m : Str} {g : Addr} {pl : Sem Bool} {Q : Value × List Value → Shared → Prop} (I : Inv X pins σ H s) (e : H a = some (.ins C dx fs)) (c : Cls X.K C) (k : Meth X.K C m g) (l : fs.lookup m = none)
    (h : Q (.ref g, [.ref a]) s) : wpAny (model X.prog X.w) A (getMethod (.ref a) m pl) Q E s := by
  obtain ⟨mA, O, r, _, _, _⟩ := ins_get I.hok e
  have hn : mA m = none := RelO.none_of (by rw [← l]; exact r m)
  exact get_meth I.kIn O (c.get m) k.at_ k.fn hn h
theorem setattr_ok {y : V} {u : Value} {Q : Unit → Shared → Prop} (I : Inv X pins σ H s) (e : H a = some (.ins C dx fs)) (c : Cls X.K C) (n : NoAttr X.K C f) (hl : fs.length < 1000) (ry : RelV y u)
    (h : ∀ s', Inv X pins σ (upd H a (.ins C dx (putF f y fs))) s' → Q () s') : wpAny (model X.prog X.w) A (setAttr (.ref a) f u) Q E s := by
  obtain ⟨mA, O, r, wi, _, ho⟩ := ins_get I.hok e
  have hz : (fs.map (·.1)).length ≤ sizeLine := by rw [List.length_map, sizeLine_eq]; omega
  refine set_map I.kIn O c.sa c.po n.taker c.hd wi hz fun h' O' sb => h _ ?_
  have hd : ∃ o, h'.get? dx = some o := let ⟨o, _, _, e', _⟩ := O'.ns; ⟨o, e'⟩
  refine I.write (x := a) (e := dx) (by rw [e]; exact True.intro) (.inr ho) (fun b q hb z => (sb.2 b hb).trans z) hd ?_
  refine ⟨by rw [upd_ne O.ne]; exact ho, ?_, O.ne, O'.obj, _, O'.ns, fun g => ?_, fun g hg => ?_⟩
  · have := length_putF f y fs; omega
  · show RelO ((putF f y fs).lookup g) (if g = f then some u else mA g)
    rw [lookup_putF]
    by_cases q : g = f
    · rw [if_pos q, if_pos q]; exact ry
    · rw [if_neg q, if_neg q]; exact r g
  · by_cases q : g = f
    · rw [q]; exact (keys_putF f y fs).1
    · refine (keys_putF f y fs).2 g (wi g fun z => hg ?_)
      show (if g = f then some u else mA g) = none
      rw [if_neg q]; exact z
/-- a new instance, tracked, without attributes -/
theorem Inv.made (I : Inv X pins σ H s) : Inv X pins σ (upd (upd H s.heap.objs.size (.own (s.heap.objs.size + 1))) (s.heap.objs.size + 1) (.ins C s.heap.objs.size []))
    { s with heap := (s.heap.push PySem.W.emptyDict).push (PySem.W.instObj C s.heap.objs.size) } := by
  have e1 : (s.heap.push PySem.W.emptyDict).get? s.heap.objs.size = some PySem.W.emptyDict := Heap.get?_push_size s.heap rfl
  have e2 : ((s.heap.push PySem.W.emptyDict).push (PySem.W.instObj C s.heap.objs.size)).get? (s.heap.objs.size + 1) = some (PySem.W.instObj C s.heap.objs.size) := by
    have := Heap.get?_push_size (s.heap.push PySem.W.emptyDict) (o := PySem.W.instObj C s.heap.objs.size) rfl
    rwa [Heap.size_push] at this
  have e3 : (s.heap.push PySem.W.emptyDict).Ns s.heap.objs.size (fun _ => none) := ⟨PySem.W.emptyDict, #[], _, e1, rfl, (fun e he => absurd he (by simp)), fun _ => rfl⟩
  have I1 := I.laid (a := s.heap.objs.size) (o := .own (s.heap.objs.size + 1)) (h' := s.heap.push PySem.W.emptyDict) (t' := s.toks) (fun b u q => Heap.get?_push_of_some _ q) (Nat.le_refl _) ⟨_, e1⟩
  refine I1.laid (a := s.heap.objs.size + 1) (o := .ins C s.heap.objs.size []) (t' := s.toks) (fun b u q => Heap.get?_push_of_some _ q) (Nat.le_of_eq (Heap.size_push _ _)) ?_
  have ne : s.heap.objs.size ≠ s.heap.objs.size + 1 := Nat.ne_of_lt (Nat.lt_succ_self _)
  refine ⟨by rw [upd_ne ne, upd_same], Nat.zero_le _, ne, e2, fun _ => none, (Heap.Ns1.of_empty e3).at fun o q => Heap.get?_push_of_some _ q, fun _ => True.intro, fun y hy => absurd rfl hy⟩
/-- e.f where nothing but the object is asked: through attributeBase (super) and the last hold -/
theorem attr_of {prog : Program} {w : World} {env : Env} {e : Expr} {f : Str} {pos : Pos} {s : Shared} {Q : Value → Shared → Prop} (hb : attributeBase e f env (eval e env) = eval e env)
    (h : wpAny (model prog w) A (eval e env) (fun o s₁ => wpAny (model prog w) A (getAttr o f true) Q E s₁) E s) : wpAny (model prog w) A (eval (.Attribute e f pos) env) Q E s :=
  Attribute_any_ h (by rw [arm_eval_Attribute, hb])
end
/-- e.f, an attribute of the instance -/
def tFld (K : PySem.W.Frag) (ta : TE) (f : Str) : TE := fun σ H Q => ta σ H fun x H1 => ∃ a C dx fs v, x = .ref a ∧ H1 a = some (.ins C dx fs) ∧ Cls K C ∧ NoAttr K C f ∧ fs.lookup f = some v ∧ Q v H1
/-- e.f = value -/
def sFld (K : PySem.W.Frag) (ta tv : TE) (f : Str) : TS := fun D σ H => tv σ H fun y H1 => ta σ H1 fun x H2 => ∃ a C dx fs, x = .ref a ∧ H2 a = some (.ins C dx fs) ∧ Cls K C ∧ NoAttr K C f ∧ fs.length < 1000 ∧
  D.nx σ (upd H2 a (.ins C dx (putF f y fs)))
section
variable {X : Cx} {o e value : Expr} {f : Str} {pos pos' tpos : Pos} {ta tv : TE}
theorem pe_fld (he : PE X e ta) (hb : attributeBase e f X.env (eval e X.env) = eval e X.env) : PE X (.Attribute e f pos) (tFld X.K ta f) := by
  intro pins s σ H Q I h
  refine attr_of hb (thn (he pins s σ H _ I h) fun u s1 ⟨x, H1, I1, rx, a, C, dx, fs, v, ex, ea, c, n, l, q⟩ => ?_)
  subst ex
  obtain rfl : u = Value.ref a := rx
  exact getattr_ok I1 ea c n l fun u' s2 I2 ru => ⟨v, H1, I2, ru, q⟩
theorem ps_fld (ha : PE X o ta) (hv : PE X value tv) (hs : swapsWith value (some (.Attribute o f pos')) pos.line X.env = pure false) : PS X (.Assign [.Attribute o f pos'] value pos) (sFld X.K ta tv f) := by
  intro pins s σ H D I h
  refine plainObj_wpAny_Assign_Attribute (thn (hv pins s σ H _ I h) fun u s1 ⟨y, H1, I1, ry, q⟩ => thn (ha pins s1 σ H1 _ I1 q) fun ov s2 ⟨x, H2, I2, rx, a, C, dx, fs, ex, ea, c, n, l, q2⟩ => ?_) hs
  subst ex
  obtain rfl : ov = Value.ref a := rx
  exact setattr_ok I2 ea c n l ry fun s3 I3 => ⟨σ, _, I3, q2⟩
end
section
variable {X : Cx} {pins : List (Addr × Obj)} {σ : St} {H : Hp} {s : Shared} {A : Around} {E : Value → Shared → Prop} {Q : Value → Shared → Prop} {c : Value} {b : Bool}
/-- the type of a value, as the fragment's deciders take it; for an instance its class -/
inductive TyOf (K : PySem.W.Frag) (H : Hp) : V → Value → Prop where
  | non : TyOf K H .non (.type "NoneType")
  | bl (x : Bool) : TyOf K H (.bl x) (.type "bool")
  | int (i : Int) : TyOf K H (.int i) (.type "int")
  | str (x : Str) : TyOf K H (.str x) (.type "str")
  | flt (x : UInt64) : TyOf K H (.flt x) (.type "float")
  | lst {a : Addr} {xs : List V} (e : H a = some (.lst xs)) : TyOf K H (.ref a) (.type "list")
  | frz {a : Addr} {o : Obj} {xs : List V} (e : H a = some (.frz o (.lst xs))) : TyOf K H (.ref a) (.type "list")
  | tup {a : Addr} {xs : List V} (e : H a = some (.tup xs)) : TyOf K H (.ref a) (.type "tuple")
  | dK {a : Addr} {kvs : List (Key × V)} (e : H a = some (.dK kvs)) : TyOf K H (.ref a) (.type "dict")
  | dT {a : Addr} {kvs : List (List Key × V)} (e : H a = some (.dT kvs)) : TyOf K H (.ref a) (.type "dict")
  | ins {a C dx : Addr} {fs : List (Str × V)} (e : H a = some (.ins C dx fs)) (cl : Cls K C) (ha : PySem.W.findIn K (.ref C) "__class__" = some (some (.builtin "object.__class__")))
      (hn : PySem.W.specialIn K (.builtin "object.__class__") "__get__" = some (some (.builtin "getset_descriptor.__get__"))) (htk : PySem.W.takesIn K (.builtin "object.__class__") = some true)
      (hm : PySem.W.mroIn K C (.type "object") = some true) : TyOf K H (.ref a) (.ref C)
/-- isinstance(x, c) for one class c, a built-in or an own one: kitOne's answer -/
theorem isinst_ok {x : V} {u t : Value} (I : Inv X pins σ H s) (rx : RelV x u) (ty : TyOf X.K H x t) (e : PySem.W.kitOne X.K t c = some b) (h : ∀ tk, Q (.bool b) { s with toks := tk }) :
    wpAny (model X.prog X.w) A (call (.builtin "isinstance") [u, c]) Q E s := by
  cases ty with
  | non => cases (show u = Value.none from rx); exact PySem.W.kia_one PySem.W.kitx_none I.kIn True.intro e (fun z => nomatch z) h
  | bl y => cases (show u = Value.bool y from rx); exact PySem.W.kia_one PySem.W.kitx_bool I.kIn True.intro e (fun z => nomatch z) h
  | int i => obtain ⟨t, q⟩ := (show ∃ t, u = Value.int i t from rx); cases q; exact PySem.W.kia_one PySem.W.kitx_int I.kIn True.intro e (fun z => nomatch z) h
  | str y => obtain ⟨t, q⟩ := (show ∃ t, u = Value.str y t from rx); cases q; exact PySem.W.kia_one PySem.W.kitx_str I.kIn True.intro e (fun z => nomatch z) h
  | flt y => obtain ⟨t, q⟩ := (show ∃ t, u = Value.float y t from rx); cases q; exact PySem.W.kia_one PySem.W.kitx_float I.kIn True.intro e (fun z => nomatch z) h
  | @lst a xs ea =>
    cases (show u = Value.ref a from rx)
    obtain ⟨_, _, n, _, h1⟩ := (show ObjOk X.prog X.w H s.heap a (.lst xs) from I.hok a _ ea)
    exact PySem.W.kia_one PySem.W.kitx_list I.kIn ⟨_, h1, rfl⟩ e (fun z => nomatch z) h
  | @frz a ob xs ea =>
    cases (show u = Value.ref a from rx)
    obtain ⟨_, _, _, n, _, h1⟩ := (show ObjOk X.prog X.w H s.heap a (.frz ob (.lst xs)) from I.hok a _ ea)
    exact PySem.W.kia_one PySem.W.kitx_list I.kIn ⟨_, h1, rfl⟩ e (fun z => nomatch z) h
  | @tup a xs ea =>
    cases (show u = Value.ref a from rx)
    obtain ⟨_, _, _, p⟩ := (show ObjOk X.prog X.w H s.heap a (.tup xs) from I.hok a _ ea)
    obtain ⟨o, h1, h2, _⟩ := p
    exact PySem.W.kia_one PySem.W.kitx_tuple I.kIn ⟨o, h1, h2⟩ e (fun z => nomatch z) h
  | @dK a kvs ea =>
    cases (show u = Value.ref a from rx)
    obtain ⟨_, _, vs, _, p⟩ := (show ObjOk X.prog X.w H s.heap a (.dK kvs) from I.hok a _ ea)
    obtain ⟨o, es, ep, h1, h2, _⟩ := p
    exact PySem.W.kia_one PySem.W.kitx_dict I.kIn ⟨o, h1, h2.1⟩ e (fun z => nomatch z) h
  | @dT a kvs ea =>
    cases (show u = Value.ref a from rx)
    obtain ⟨_, _, xs, _, o, es, ep, h1, h2, _⟩ := (show ObjOk X.prog X.w H s.heap a (.dT kvs) from I.hok a _ ea)
    exact PySem.W.kia_one PySem.W.kitx_dict I.kIn ⟨o, h1, h2.1⟩ e (fun z => nomatch z) h
  | @ins a C dx fs ea cl ha hn htk hm =>
    cases (show u = Value.ref a from rx)
    obtain ⟨mA, O, _⟩ := ins_get I.hok ea
    obtain ⟨od, J, _⟩ := O.look
    exact PySem.W.kia_one (PySem.W.kitx_own (cl.get _) cl.hd ha hn htk hm) I.kIn J e (fun z => nomatch z) h
end
end L2
namespace L2
open PySem PySem.Spec PyProof.Rows
structure Room (k : Nat) (A : Around) : Prop where
  hd : A.handled = none
  dp : A.depth + 3 * k + 5 < recursionLimit
  un : A.units + 16 * k + 200 < cLine
theorem Room.mono {j k : Nat} {A : Around} (r : Room k A) (h : j ≤ k) : Room j A := ⟨r.hd, by have := r.dp; omega, by have := r.un; omega⟩
theorem Room.deeper {k : Nat} {A : Around} (r : Room (k + 1) A) (env : Env) : Room k (A.deeper env) :=
  ⟨r.hd, by have := r.dp; show A.depth + 1 + 3 * k + 5 < _; omega, by have := r.un; show A.units + 3 + 16 * k + 200 < _; omega⟩
theorem Room.in1 {k : Nat} {A : Around} (r : Room (k + 1) A) : Room k A.in1 :=
  ⟨r.hd, by have := r.dp; show A.depth + 3 * k + 5 < _; omega, by have := r.un; show A.units + 1 + 16 * k + 200 < _; omega⟩
theorem make_depth {A : Around} {C : Addr} {us : List Value} {kw : List (Str × Value)} : (A.under (.builtin "type.__call__" ⟨.ref C :: us, kw⟩)).depth = A.depth + 1 := by
  first | rfl | simp [Around.under, Code.weight, Code.isCreation, Code.isGuard, Code.isCaller, Code.frames, Code.isFrame, guardIds]
theorem make_units {A : Around} {C : Addr} {us : List Value} {kw : List (Str × Value)} : (A.under (.builtin "type.__call__" ⟨.ref C :: us, kw⟩)).units = A.units + 1 := by
  first | rfl | simp [Around.under, Code.cUnits, Code.frames, Code.isFrame]
theorem Room.make {k : Nat} {A : Around} (r : Room (k + 1) A) (C : Addr) (us : List Value) (kw : List (Str × Value)) : Room k (A.under (.builtin "type.__call__" ⟨.ref C :: us, kw⟩)) :=
  ⟨r.hd, by have := r.dp; rw [make_depth]; omega, by have := r.un; rw [make_units]; omega⟩
theorem Room.depth {k : Nat} {A : Around} (r : Room k A) : A.depth < recursionLimit := by have := r.dp; omega
theorem Room.units {k : Nat} {A : Around} (r : Room k A) : A.units + 64 < cLine := by have := r.un; omega
def tNil : TA := fun _ H Q => Q [] H
def tCons (ta : TE) (tr : TA) : TA := fun σ H Q => ta σ H fun x H1 => tr σ H1 fun xs H2 => Q (x :: xs) H2
section
variable {X : Cx} {e : Expr} {es : List Expr} {te : TE} {t : TA} {pos : Pos}
theorem pa_nil : PA X [] tNil := fun _ _ _ _ H Q I h => Calls.spliced_nil ⟨[], H, I, .nil, h⟩
theorem pa_cons (ha : PE X e te) (hr : PA X es t) (hs : starEach (e :: es) X.env = (false, eval e X.env) :: starEach es X.env := by rfl) : PA X (e :: es) (tCons te t) := by
  intro pos pins s σ H Q I h
  rw [hs]
  show wpAny _ _ (spliced ((false, eval e X.env) :: backTo pos (starEach es X.env))) _ _ s
  refine Calls.spliced_cons (thn (ha pins s σ H _ I h) fun u s1 ⟨x, H1, I1, r1, q1⟩ => ?_)
  exact thn (hr pos pins s1 σ H1 _ I1 q1) fun us s2 ⟨xs, H2, I2, r2, q2⟩ => ⟨x :: xs, H2, I2, .cons r1 r2, q2⟩
/-- a tuple, a list of written items -/
def tTup (t : TA) : TE := fun σ H Q => t σ H fun xs H1 => xs.length ≤ sizeLine ∧ ∀ p, H1 p = none → Q (.ref p) (upd H1 p (.tup xs))
def tLst (t : TA) : TE := fun σ H Q => t σ H fun xs H1 => xs.length ≤ sizeLine ∧ ∀ p, H1 p = none → Q (.ref p) (upd H1 p (.lst xs))
theorem pe_tup {x1} (h : PA X es t) : PE X (.Tuple es x1 pos) (tTup t) := by
  intro pins s σ H Q I hq
  refine wpAny_Tuple_spliced (thn (h pos pins s σ H _ I hq) fun us s1 ⟨xs, H1, I1, r, z, q⟩ => ⟨by rw [← r.length]; exact z, ?_⟩)
  have hf : H1 s1.heap.objs.size = none := I1.hok.fresh (Nat.le_refl _)
  refine ⟨.ref s1.heap.objs.size, upd H1 s1.heap.objs.size (.tup xs), I1.laid (t' := s1.toks) (fun b u e => Heap.get?_push_of_some _ e) (Nat.le_refl _) ?_, rfl, q _ hf⟩
  exact ⟨z, us, r, ⟨_, Heap.get?_push_size _ rfl, rfl, _, rfl⟩⟩
theorem pe_lst (h : PA X es t) : PE X (.List es pos) (tLst t) := by
  intro pins s σ H Q I hq
  refine wpAny_List_spliced (thn (h pos pins s σ H _ I hq) fun us s1 ⟨xs, H1, I1, r, z, q⟩ => ⟨by rw [← r.length]; exact z, ?_⟩)
  have hf : H1 s1.heap.objs.size = none := I1.hok.fresh (Nat.le_refl _)
  refine ⟨.ref s1.heap.objs.size, upd H1 s1.heap.objs.size (.lst xs), I1.laid (t' := s1.toks) (fun b u e => Heap.get?_push_of_some _ e) (Nat.le_refl _) ?_, rfl, q _ hf⟩
  exact ⟨z, us, 0, r, Heap.get?_push_size _ rfl⟩
end
/-- a def's promise: the bound arguments in the parameters' order, the heap, the wanted end, the wanted exception -/
abbrev Sp := List V → Hp → VK → XK → Prop
/-- how an exception lies behind a call (file 08 gives it): the callers' frames, abstract heap and state ahead of the call, the wish, the exception, the state -/
abbrev CXT := List Env → Hp → Shared → XK → Value → Shared → Prop
/-- the state at a call -/
structure Env0 (P : Program) (w : World) (K : PySem.W.Frag) (mg : Str → Option Value) (base : Heap) (A : Around) (outer : List Env) (s : Shared) (H : Hp) : Prop where
  frames : A.frames = some outer
  mod : Mod K mg base
  bs : ∀ b o, base.get? b = some o → s.heap.get? b = some o ∧ H b = none
  bsz : base.objs.size ≤ s.heap.objs.size
  funs : s.heap.FunFrames base outer
  frf : ∀ b ∈ frs outer, H b = none
  hok : HOk P w H s.heap
  bare : AllBare s.gens
/-- a call's end -/
def CE (outer : List Env) (P : Program) (w : World) (H : Hp) (s : Shared) (Q : VK) (u : Value) (s' : Shared) : Prop :=
  ∃ v H', s'.os = s.os ∧ AllBare s'.gens ∧ Un (frs outer) [] H H' s.heap s'.heap ∧ HOk P w H' s'.heap ∧ RelV v u ∧ Q v H'
def CR (CX : CXT) (outer : List Env) (P : Program) (w : World) (H : Hp) (s : Shared) (Q : VK) (E : XK) (r : Result) (s' : Shared) : Prop :=
  match r with
  | .ok (.ret u) => CE outer P w H s Q u s'
  | .ok _ => False
  | .error e => CX outer H s E e s'
structure FnOk (P : Program) (w : World) (K : PySem.W.Frag) (mg : Str → Option Value) (base : Heap) (CX : CXT) (k : Nat) (f : Addr) (fd : FuncData) (ps : List Str) (sp : Sp) : Prop where
  len : ∀ vs H Q E, sp vs H Q E → vs.length = ps.length
  run : ∀ (A : Around) (outer : List Env) (s : Shared) (H : Hp) (args : Args) (us : List Value) (vs : List V) (Q : VK) (E : XK), Room k A → Env0 P w K mg base A outer s H → BindsTo s fd args (ps.zip us) → Vals vs us → sp vs H Q E →
    codeAny (model P w) A (.call (.ref f) args) (CR CX outer P w H s Q E) s
theorem FnOk.mono {P : Program} {w : World} {K : PySem.W.Frag} {mg : Str → Option Value} {base : Heap} {CX : CXT} {j k : Nat} {f : Addr} {fd : FuncData} {ps : List Str} {sp : Sp} (F : FnOk P w K mg base CX j f fd ps sp) (h : j ≤ k) :
    FnOk P w K mg base CX k f fd ps sp := ⟨F.len, fun A outer s H args us vs Q E hr => F.run A outer s H args us vs Q E (hr.mono h)⟩
theorem Env0.make {P : Program} {w : World} {K : PySem.W.Frag} {mg : Str → Option Value} {base : Heap} {A : Around} {outer : List Env} {s : Shared} {H : Hp} (e : Env0 P w K mg base A outer s H) (C : Addr) (us : List Value) (kw : List (Str × Value)) :
    Env0 P w K mg base (A.under (.builtin "type.__call__" ⟨.ref C :: us, kw⟩)) outer s H := ⟨by first | exact e.frames | (simpa [Around.under, Code.envs, Code.isFrame, pushEnvs] using e.frames), e.mod, e.bs, e.bsz, e.funs, e.frf, e.hok, e.bare⟩
theorem Env0.in1 {P : Program} {w : World} {K : PySem.W.Frag} {mg : Str → Option Value} {base : Heap} {A : Around} {outer : List Env} {s : Shared} {H : Hp} (e : Env0 P w K mg base A outer s H) :
    Env0 P w K mg base A.in1 outer s H := ⟨e.frames, e.mod, e.bs, e.bsz, e.funs, e.frf, e.hok, e.bare⟩
section
variable {X : Cx} {pins : List (Addr × Obj)} {σ : St} {H : Hp} {s s' : Shared}
/-- from a body: what a callee wants -/
theorem Inv.env0 (I : Inv X pins σ H s) : Env0 X.prog X.w X.K X.mg X.base X.A X.stack s H :=
  ⟨I.ok.frames, I.ok.mod, I.bs, Nat.le_trans I.ok.bsz I.sz, I.stack, I.stkFree, I.hok, I.bare⟩
/-- behind a call -/
theorem Inv.after {Q : VK} {u : Value} (I : Inv X pins σ H s) (h : CE X.stack X.prog X.w H s Q u s') : EP X pins σ Q u s' := by
  obtain ⟨v, H', os, bare, un, hok, r, q⟩ := h
  obtain ⟨hh, g, d, t, os'⟩ := s'
  obtain rfl : os' = s.os := os
  exact ⟨v, H', I.call (h' := hh) (g' := g) (d' := d) (t' := t) (ch := []) un hok bare (fun b z => absurd z (by simp)), r, q⟩
end
/-- f(..): the written arguments, then the defaults dvs; E: what is wanted of an exception -/
def tCall (sp : Sp) (dvs : List V) (E : XK) (t : TA) : TE := fun σ H Q => t σ H fun vs H1 => sp (vs ++ dvs) H1 Q E
/-- o.m(..) of an instance of the class at C -/
def tMeth (C : Addr) (m : Str) (sp : Sp) (dvs : List V) (E : XK) (ta : TE) (t : TA) : TE := fun σ H Q => ta σ H fun x H1 => ∃ a dx fs, x = .ref a ∧ H1 a = some (.ins C dx fs) ∧ fs.lookup m = none ∧
  t σ H1 fun vs H2 => sp (x :: (vs ++ dvs)) H2 Q E
/-- C(..): a new instance and its dict, then __init__ -/
def tMake (C : Addr) (sp : Sp) (dvs : List V) (E : XK) (t : TA) : TE := fun σ H Q => t σ H fun vs H1 => ∀ x dx, H1 x = none → H1 dx = none → dx ≠ x →
  sp (.ref x :: (vs ++ dvs)) (upd (upd H1 dx (.own x)) x (.ins C dx [])) (fun v H2 => v = .non ∧ Q (.ref x) H2) E
/-- how the parameters are bound: us the positional arguments, kw the keywords' values by name, ds the defaults that fill up -/
def Binds (K : PySem.W.Frag) (fd : FuncData) (ps : List Str) (ds : List Value) : Prop :=
  ∀ (s : Shared) (us : List Value), K.In s.heap → (us ++ ds).length = ps.length → BindsTo s fd ⟨us, []⟩ (ps.zip (us ++ ds))
/-- every parameter is given -/
theorem Binds.all {K : PySem.W.Frag} {fd : FuncData} {ps : List Str} (h : ∀ us : List Value, us.length = ps.length → bindArgs fd ⟨us, []⟩ = pure (ps.zip us)) : Binds K fd ps [] := fun s us _ hl => by
  rw [List.append_nil] at hl ⊢
  exact .of_eq (h us hl)
/-- an exception of a callee reaches what this body wants of exceptions -/
def Passes (CX : CXT) (X : Cx) (E : XK) : Prop := ∀ (pins : List (Addr × Obj)) (σ : St) (H : Hp) (s : Shared) (e : Value) (s' : Shared), Inv X pins σ H s → CX X.stack H s E e s' → X.xe e s'
section
variable {X : Cx} {CX : CXT} {k : Nat} {f C : Addr} {fd : FuncData} {ps : List Str} {sp : Sp} {dvs : List V} {ds : List Value} {E : XK} {x m : Str} {p pos apos : Pos} {e o : Expr} {es : List Expr} {ta : TE} {t : TA}
/-- the callee runs -/
theorem run_fn {pins : List (Addr × Obj)} {σ : St} {H : Hp} {s : Shared} {Q : VK} {us : List Value} {vs : List V} (F : FnOk X.prog X.w X.K X.mg X.base CX k f fd ps sp) (hr : Room k X.A) (hb : Binds X.K fd ps ds) (hd : Vals dvs ds) (hx : Passes CX X E)
    (I : Inv X pins σ H s) (r : Vals vs us) (h : sp (vs ++ dvs) H Q E) : wpAny (model X.prog X.w) X.A (call (.ref f) us) (EP X pins σ Q) X.xe s := by
  have r2 : Vals (vs ++ dvs) (us ++ ds) := r.append hd
  have hl : (us ++ ds).length = ps.length := by rw [← r2.length]; exact F.len _ _ _ _ h
  refine wpAny_call (codeAny_mono (F.run X.A X.stack s H ⟨us, []⟩ (us ++ ds) (vs ++ dvs) Q E hr I.env0 (hb s us I.kIn hl) r2 h) fun r s' hq => ?_)
  cases r with
  | error e => exact hx pins σ H s e s' I hq
  | ok fl =>
    cases fl with
    | ret u => exact I.after hq
    | next => exact False.elim hq
    | brk => exact False.elim hq
    | cont => exact False.elim hq
theorem pe_call (F : FnOk X.prog X.w X.K X.mg X.base CX k f fd ps sp) (hr : Room k X.A) (hg : Gl X x) (hm : X.mg x = some (.ref f)) (hk : PySem.W.keepIn X.K (.ref f) = true) (hb : Binds X.K fd ps ds) (hd : Vals dvs ds) (hx : Passes CX X E)
    (ha : PA X (e :: es) t) (hdb : (x == ("__debug__" : Str)) = false := by decide) (he : starEach (e :: es) X.env = (false, eval e X.env) :: starEach es X.env := by rfl) (hpl : (backTo pos (starEach es X.env)).any (·.1) = false := by rfl) :
    PE X (.Call (.Name x p) (e :: es) [] pos) (tCall sp dvs E t) := by
  intro pins s σ H Q I h
  refine wpAny_Call_Name_kw (ld_glob I hg hm ?_ hdb)
  refine PySem.W.callWith_K (h₀ := X.base) I.ok.mod.kin hk (thn (ha pos pins s σ H _ I h) fun us s1 ⟨vs, H1, I1, r, q⟩ => ⟨I1.kIn, ?_⟩) he hpl
  exact run_fn F hr hb hd hx I1 r q
/-- o.m(e, ..) -/
theorem pe_meth {pl : Sem Bool} (he : PE X o ta) (c : Cls X.K C) (hm : Meth X.K C m f) (F : FnOk X.prog X.w X.K X.mg X.base CX k f fd ps sp) (hr : Room k X.A) (hb : Binds X.K fd ps ds) (hd : Vals dvs ds) (hx : Passes CX X E) (ha : PA X (e :: es) t)
    (hst : starEach (e :: es) X.env = (false, eval e X.env) :: starEach es X.env := by rfl) (hpl : (backTo pos (starEach es X.env)).any (·.1) = false := by rfl)
    (ht : eval (.Call (.Attribute o m apos) (e :: es) [] pos) X.env = (do
      let ov ← eval o X.env
      standAt apos.atName
      let (f, first) ← holding [ov] (getMethod ov m pl)
      callWith pos f first (backTo pos (starEach (e :: es) X.env)) (backToKw pos (keywordEach [] X.env))) := by rfl) :
    PE X (.Call (.Attribute o m apos) (e :: es) [] pos) (tMeth C m sp dvs E ta t) := by
  intro pins s σ H Q I h
  refine PySem.W.methodCall_KW (pl := pl) (thn (he pins s σ H _ I h) fun u s1 ⟨x, H1, I1, rx, a, dx, fs, ex, ea, l, q⟩ => ?_) ht
  subst ex
  obtain rfl : u = Value.ref a := rx
  refine getmeth_ok I1 ea c hm l ?_
  refine PySem.W.callWith_K (first := [.ref a]) (h₀ := X.base) I.ok.mod.kin hm.kp (thn (ha pos pins s1 σ H1 _ I1 q) fun us s2 ⟨vs, H2, I2, r, q2⟩ => ⟨I2.kIn, ?_⟩) hst hpl
  exact run_fn (us := .ref a :: us) (vs := .ref a :: vs) F hr hb hd hx I2 (.cons rfl r) q2
/-- what a class must have to be made -/
structure Mk (K : PySem.W.Frag) (C f : Addr) : Prop where
  makes : PySem.W.makesIn K C = true
  init : PySem.W.findIn K (.ref C) "__init__" = some (some (.ref f))
  fn : PySem.W.isFn K (.ref f) = true
  kp : PySem.W.keepIn K (.ref C) = true
theorem run_make {pins : List (Addr × Obj)} {σ : St} {H : Hp} {s : Shared} {Q : VK} {us : List Value} {vs : List V} (M : Mk X.K C f) (F : FnOk X.prog X.w X.K X.mg X.base CX k f fd ps sp) (hr : Room (k + 1) X.A) (hb : Binds X.K fd ps ds) (hd : Vals dvs ds)
    (hx : Passes CX X E) (I : Inv X pins σ H s) (r : Vals vs us)
    (h : ∀ x dx, H x = none → H dx = none → dx ≠ x → sp (.ref x :: (vs ++ dvs)) (upd (upd H dx (.own x)) x (.ins C dx [])) (fun v H2 => v = .non ∧ Q (.ref x) H2) E) :
    wpAny (model X.prog X.w) X.A (call (.ref C) us) (EP X pins σ Q) X.xe s := by
  have hq := h (s.heap.objs.size + 1) s.heap.objs.size (I.hok.fresh (Nat.le_succ _)) (I.hok.fresh (Nat.le_refl _)) (Nat.ne_of_lt (Nat.lt_succ_self _))
  have I2 := Inv.made (C := C) I
  have r2 : Vals (V.ref (s.heap.objs.size + 1) :: (vs ++ dvs)) (Value.ref (s.heap.objs.size + 1) :: (us ++ ds)) := .cons rfl (r.append hd)
  have hl : (Value.ref (s.heap.objs.size + 1) :: us ++ ds).length = ps.length := by
    have e := r2.length
    rw [F.len _ _ _ _ hq] at e
    exact e.symm
  refine wpAny_call (make_map (f := f) I.kIn M.makes M.init (beq_iff_eq.mp M.fn) (codeAny_mono (F.run _ X.stack _ _ ⟨Value.ref (s.heap.objs.size + 1) :: us, []⟩ (Value.ref (s.heap.objs.size + 1) :: (us ++ ds)) _ _ E (hr.make C us [])
    (I2.env0.make C us []) (hb _ (Value.ref (s.heap.objs.size + 1) :: us) I2.kIn hl) r2 hq) fun r s' hq' => ?_))
  cases r with
  | error e => exact hx pins σ _ _ e s' I2 hq'
  | ok fl =>
    cases fl with
    | ret u =>
      obtain ⟨v, H', I3, rv, ev, q3⟩ := I2.after hq'
      subst ev
      exact ⟨rv, ⟨V.ref (s.heap.objs.size + 1), H', I3, rfl, q3⟩⟩
    | next => exact False.elim hq'
    | brk => exact False.elim hq'
    | cont => exact False.elim hq'
theorem pe_make (M : Mk X.K C f) (F : FnOk X.prog X.w X.K X.mg X.base CX k f fd ps sp) (hr : Room (k + 1) X.A) (hg : Gl X x) (hm : X.mg x = some (.ref C)) (hb : Binds X.K fd ps ds) (hd : Vals dvs ds) (hx : Passes CX X E)
    (ha : PA X (e :: es) t) (hdb : (x == ("__debug__" : Str)) = false := by decide) (he : starEach (e :: es) X.env = (false, eval e X.env) :: starEach es X.env := by rfl) (hpl : (backTo pos (starEach es X.env)).any (·.1) = false := by rfl) :
    PE X (.Call (.Name x p) (e :: es) [] pos) (tMake C sp dvs E t) := by
  intro pins s σ H Q I h
  refine wpAny_Call_Name_kw (ld_glob I hg hm ?_ hdb)
  refine PySem.W.callWith_K (h₀ := X.base) I.ok.mod.kin M.kp (thn (ha pos pins s σ H _ I h) fun us s1 ⟨vs, H1, I1, r, q⟩ => ⟨I1.kIn, ?_⟩) he hpl
  exact run_make M F hr hb hd hx I1 r q
end
section
variable {X : Cx} {CX : CXT} {k : Nat} {f C : Addr} {fd : FuncData} {ps ks : List Str} {sp : Sp} {E : XK} {x m : Str} {p pos apos kpos : Pos} {e o : Expr} {es : List Expr} {kws : List Keyword} {te ta : TE} {t tk : TA} {nm : Option Str}
/-- how a call with keywords binds: g puts the positional values us and the keywords' values ws (names ks) in the parameters' order, defaults among them -/
structure KBinds (K : PySem.W.Frag) (fd : FuncData) (ps ks : List Str) (g : List Value → List Value → List Value) (gV : List V → List V → List V) : Prop where
  to : ∀ (s : Shared) (us ws : List Value), K.In s.heap → (g us ws).length = ps.length → BindsTo s fd ⟨us, ks.zip ws⟩ (ps.zip (g us ws))
  rel : ∀ {vs : List V} {us : List Value} {zs : List V} {ws : List Value}, Vals vs us → Vals zs ws → Vals (gV vs zs) (g us ws)
variable {g : List Value → List Value → List Value} {gV : List V → List V → List V}
end
/-- names: the parameters first -/
structure FnScope (N P : List Str) (sc : Scope) : Prop where
  kind : sc.kind = .function
  co : sc.isCoroutine = false
  gen : sc.isGenerator = false
  nd : N.Nodup
  pre : N.take P.length = P
  par : ∀ x ∈ P, sc.names.lookup x = some .local ∨ sc.names.lookup x = some .cell
  nofree : ∀ y ∈ sc.names, y.2 ≠ .free
theorem bindL_out {kindOf : Str → Option NameKind} {x : Str} : ∀ {binds : List (Str × Value)} {m : Str → Option Value}, (∀ v, (x, v) ∉ binds) → bindL kindOf binds m x = m x
  | [], _, _ => rfl
  | (n, v) :: r, m, h => by
    unfold bindL
    rw [bindL_out fun w hw => h w (List.mem_cons_of_mem _ hw)]
    split
    · have : x ≠ n := by rintro rfl; exact h v List.mem_cons_self
      simp [this]
    · rfl
theorem bindC_out {kindOf : Str → Option NameKind} {x : Str} : ∀ {binds : List (Str × Value)} {m : Str → Option Value}, (∀ v, (x, v) ∉ binds) → bindC kindOf binds m x = m x
  | [], _, _ => rfl
  | (n, v) :: r, m, h => by
    unfold bindC
    rw [bindC_out fun w hw => h w (List.mem_cons_of_mem _ hw)]
    split
    · rfl
    · have : x ≠ n := by rintro rfl; exact h v List.mem_cons_self
      simp [this]
theorem bindL_get {kindOf : Str → Option NameKind} {x : Str} {v : Value} : ∀ {P : List Str} {vs : List Value} {i : Nat} {m : Str → Option Value}, P.Nodup → P[i]? = some x → vs[i]? = some v → kindOf x = some .local →
    bindL kindOf (P.zip vs) m x = some v
  | [], _, _, _, _, h, _, _ => by simp at h
  | _ :: _, [], _, _, _, _, h, _ => by simp at h
  | p :: P, w :: vs, 0, m, nd, h1, h2, hk => by
    simp at h1 h2; subst h1; subst h2
    show bindL kindOf ((p, w) :: P.zip vs) m p = _
    unfold bindL
    rw [bindL_out fun v hv => (List.nodup_cons.mp nd).1 (List.of_mem_zip hv).1, if_pos hk]
    simp
  | p :: P, w :: vs, i + 1, m, nd, h1, h2, hk => by
    show bindL kindOf ((p, w) :: P.zip vs) m x = _
    unfold bindL
    exact bindL_get (i := i) (List.nodup_cons.mp nd).2 (by simpa using h1) (by simpa using h2) hk
theorem bindC_get {kindOf : Str → Option NameKind} {x : Str} {v : Value} : ∀ {P : List Str} {vs : List Value} {i : Nat} {m : Str → Option Value}, P.Nodup → P[i]? = some x → vs[i]? = some v → kindOf x ≠ some .local →
    bindC kindOf (P.zip vs) m x = some v
  | [], _, _, _, _, h, _, _ => by simp at h
  | _ :: _, [], _, _, _, _, h, _ => by simp at h
  | p :: P, w :: vs, 0, m, nd, h1, h2, hk => by
    simp at h1 h2; subst h1; subst h2
    show bindC kindOf ((p, w) :: P.zip vs) m p = _
    unfold bindC
    rw [bindC_out fun v hv => (List.nodup_cons.mp nd).1 (List.of_mem_zip hv).1, if_neg hk]
    simp
  | p :: P, w :: vs, i + 1, m, nd, h1, h2, hk => by
    show bindC kindOf ((p, w) :: P.zip vs) m x = _
    unfold bindC
    exact bindC_get (i := i) (List.nodup_cons.mp nd).2 (by simpa using h1) (by simpa using h2) hk
/-- the names' values at the entry -/
def start (N : List Str) (vs : List V) : St := vs.map some ++ List.replicate (N.length - vs.length) none
/-- the context of a def's body, at its entry; an exception leaves the frame, then lies as CX says -/
def cxOf (CX : CXT) (P : Program) (w : World) (K : PySem.W.Frag) (mg : Str → Option Value) (base : Heap) (N : List Str) (qual : Str) (scope : Scope) (f : Addr) (cd : Value) (A : Around) (outer : List Env) (s : Shared) (H : Hp) (E : XK) : Cx where
  prog := P
  w := w
  K := K
  mg := mg
  base := base
  A := A.deeper (envOfC qual scope s.heap.objs.size f cd)
  N := N
  s₀ := s
  H₀ := H
  env := envOfC qual scope s.heap.objs.size f cd
  outer := outer
  stack := envOfC qual scope s.heap.objs.size f cd :: outer
  ex := []
  calm := true
  fn := fun _ => true
  pn := []
  xe := fun e s' => wpAny (model P w) (A.deeper (envOfC qual scope s.heap.objs.size f cd)) (leaving (envOfC qual scope s.heap.objs.size f cd) e) (fun _ s'' => CX outer H s E e s'') (fun e' s'' => CX outer H s E e' s'') s'
theorem cell_has {sc : Scope} {n : Nat} {x : Str} (h : sc.names.lookup x = some .cell) : ∃ c, (cellsFrom n sc.names []).lookup x = some c := by
  have q := PySem.W.cellsFrom_some sc.names n [] (.inl h)
  exact Option.isSome_iff_exists.mp q
theorem inv_start {CX : CXT} {P : Program} {w : World} {K : PySem.W.Frag} {mg : Str → Option Value} {base : Heap} {N ps : List Str} {qual : Str} {scope : Scope} {f : Addr} {cd : Value} {A : Around} {outer : List Env} {s s1 : Shared} {H : Hp} {E : XK} {us : List Value} {vs : List V}
    (S : FnScope N ps scope) (hd : A.handled = none) (e0 : Env0 P w K mg base A outer s H) (hl : vs.length = ps.length) (r : Vals vs us)
    (x : InCallC s s.heap.objs.size (bindL (envOfC qual scope s.heap.objs.size f cd).kindOf (ps.zip us) fun _ => none) (cellsFrom (s.heap.objs.size + 1) scope.names []) (bindC (envOfC qual scope s.heap.objs.size f cd).kindOf (ps.zip us) fun _ => none) s1) :
    Inv (cxOf CX P w K mg base N qual scope f cd A outer s H E) [] (start N vs) H s1 := by
  have hpl : ps.length ≤ N.length := by have := congrArg List.length S.pre; rw [List.length_take] at this; omega
  obtain ⟨h1, tk, rfl, hk⟩ := x.done
  have noA : ∀ b : Addr, b ∉ (cxOf CX P w K mg base N qual scope f cd A outer s H E).ex := fun b z => absurd (show b ∈ ([] : List Addr) from z) (by simp)
  refine ⟨⟨e0.mod, S.kind, rfl, rfl, Nat.le_refl _, fun y z c h1 h2 => ?_, fun y hy => ?_, fun y c _ h => ?_, fun _ => hd, Around.frames_deeper e0.frames, .inr ⟨rfl, rfl⟩, fun b z => absurd z (noA b), e0.bs, e0.bsz, fun b _ _ => noA b, fun b z => absurd z (noA b), e0.funs, e0.frf⟩,
    rfl, e0.bare, Un.kept hk, ⟨_, x.toInCall.ns, fun i y v h1 h2 h3 => ?_⟩, fun y c h => ⟨_, x.cell y c h⟩, e0.hok.fresh (Nat.le_refl _), fun y c h => ?_, fun p hp => absurd (show p ∈ ([] : List (Addr × Obj)) from hp) (by simp), e0.hok.kept hk, ?_⟩
  · exact name_of_addr x.apart (PySem.mem_of_lookup h1) (PySem.mem_of_lookup h2)
  · have hy : scope.names.lookup y = some .cell ∨ scope.names.lookup y = some .free := hy
    rcases hy with hy | hy
    · exact cell_has hy
    · exact absurd rfl (S.nofree _ (PySem.mem_of_lookup hy))
  · exact Nat.le_of_lt (x.above y c (PySem.mem_of_lookup h))
  · have hi : i < vs.length := by
      unfold start at h2
      by_cases hi : i < vs.length
      · exact hi
      · rw [List.getElem?_append_right (by simpa using hi)] at h2
        rw [List.getElem?_replicate] at h2
        split at h2 <;> cases h2
    have ha : vs[i]? = some v := by
      unfold start at h2
      rw [List.getElem?_append_left (by simpa using hi), List.getElem?_map] at h2
      cases e : vs[i]? with
      | none => rw [e] at h2; cases h2
      | some a => rw [e] at h2; cases h2; rfl
    obtain ⟨u, hu, rv⟩ := r.get ha
    have hp : ps[i]? = some y := by
      rw [← S.pre, List.getElem?_take_of_lt (by omega)]; exact h1
    have ndP : ps.Nodup := by rw [← S.pre]; exact S.nd.sublist (List.take_sublist _ _)
    refine ⟨u, rv, ?_⟩
    rcases S.par y (List.mem_of_getElem? hp) with k | k
    · exact .inl ⟨k, bindL_get ndP hp hu k⟩
    · obtain ⟨c, e⟩ := cell_has (n := s.heap.objs.size + 1) k
      refine .inr ⟨.inl k, c, e, ?_⟩
      have q := x.cell y c e
      rw [bindC_get ndP hp hu (by show scope.names.lookup y ≠ _; rw [k]; decide)] at q
      exact q
  · exact e0.hok.fresh (Nat.le_of_lt (x.above y c (PySem.mem_of_lookup h)))
  · unfold start
    show _ = N.length
    rw [List.length_append, List.length_map, List.length_replicate]
    omega
/-- THE RULE: a def (or a method) of the text, by its body. The body's reading t is chosen for each entry; it is run at the parameters' values -/
theorem fn_of {CX : CXT} {P : Program} {w : World} {K : PySem.W.Frag} {mg : Str → Option Value} {base : Heap} {k : Nat} {f : Addr} {name qual : Str} {params : Arguments} {body : List Stmt} {scope : Scope} {dV kV doc pm cdv ct oc : Value} {an od : Option Addr}
    {osl : Array (Option Value)} {N ps : List Str} {sp : Sp} (lk : K.lookup f = some ⟨oc, od, .func (PySem.W.fnOf name qual params body scope dV kV doc pm an cdv ct), osl⟩) (hcd : PySem.W.codeIn K cdv qual = true) (S : FnScope N ps scope)
    (len : ∀ vs H Q E, sp vs H Q E → vs.length = ps.length)
    (hbody : ∀ (A : Around) (outer : List Env) (s : Shared) (H : Hp) (vs : List V) (Q : VK) (E : XK), Room k (A.deeper (envOfC qual scope s.heap.objs.size f cdv)) → sp vs H Q E →
      ∃ t, PSs (cxOf CX P w K mg base N qual scope f cdv A outer s H E) body t ∧ t { nx := fun _ H' => Q .non H', rt := Q } (start N vs) H) :
    FnOk P w K mg base CX (k + 1) f (PySem.W.fnOf name qual params body scope dV kV doc pm an cdv ct) ps sp := by
  refine ⟨len, fun A outer s H args us vs Q E hr e0 hb r hsp => ?_⟩
  have hl := len _ _ _ _ hsp
  have KX : K.In s.heap := e0.mod.kin.keeps fun b o e => (e0.bs b o e).1
  have lim : s.heap.NoLimit := e0.mod.nolimit.keeps fun b o e => (e0.bs b o e).1
  have hkind : ∀ y ∈ ps.zip us, scope.names.lookup y.1 = some .local ∨ (scope.names.lookup y.1 = some .cell ∧ ((cellsFrom (s.heap.objs.size + 1) scope.names []).lookup y.1).isSome = true) := fun ⟨n, v⟩ hy => by
    rcases S.par n (List.of_mem_zip hy).1 with q | q
    · exact .inl q
    · exact .inr ⟨q, PySem.W.cellsFrom_some _ _ _ (.inl q)⟩
  refine codeAny_call_function hr.depth (KX _ _ lk) rfl S.co S.gen rfl (PySem.W.codeRec_of KX hcd) (hb _ _ _ _ ?_)
  refine wpAny_newFunctionEnv_cells S.kind hkind fun env he s1 x => ?_
  subst he
  refine ⟨lim.keeps x.toInCall.keep, codeAny_func ?_⟩
  obtain ⟨t, ht, hq⟩ := hbody A outer s H vs Q E (hr.deeper _) hsp
  have I : Inv (cxOf CX P w K mg base N qual scope f cdv A outer s H E) [] (start N vs) H s1 := inv_start S hr.hd e0 hl r x
  refine wpAny_mono (ht [] s1 (start N vs) H _ I hq) (fun fl s' hs => ?_) fun e s' hs => hs
  have fin : ∀ {σ' : St} {H' : Hp} {v : V} {u : Value}, Inv (cxOf CX P w K mg base N qual scope f cdv A outer s H E) [] σ' H' s' → RelV v u → Q v H' → CE outer P w H s Q u s' :=
    fun {σ' H' v u} J rv q => ⟨v, H', J.os, J.bare, J.base, J.hok, rv, q⟩
  cases fl with
  | ret u =>
    obtain ⟨v, σ', H', J, rv, q⟩ := hs
    exact fin J rv q
  | next =>
    obtain ⟨σ', H', J, q⟩ := hs
    exact fin (v := V.non) (u := Value.none) J rfl q
  | brk =>
    obtain ⟨_, _, _, q⟩ := hs
    exact False.elim q
  | cont =>
    obtain ⟨_, _, _, q⟩ := hs
    exact False.elim q
end L2
namespace L2
open PySem PySem.Spec PyProof.Rows
section
variable {X : Cx} {x : Str} {p pos : Pos} {e : Expr} {es : List Expr} {t : TA} {id T : String} {r : List V → Hp → VK → Prop}
def tCB (r : List V → Hp → VK → Prop) (t : TA) : TE := fun σ H Q => t σ H fun vs H1 => r vs H1 Q
/-- f(e, ..), f a built-in function -/
theorem pe_callB (hc : CallR X (.builtin id) r) (hg : Gl X x) (hm : X.mg x = none) (hv : bootBuiltins x = some (.builtin id)) (ha : PA X (e :: es) t) (hn : x ≠ "__name__" := by decide) (hdb : (x == ("__debug__" : Str)) = false := by decide)
    (he : starEach (e :: es) X.env = (false, eval e X.env) :: starEach es X.env := by rfl) (hpl : (backTo pos (starEach es X.env)).any (·.1) = false := by rfl) : PE X (.Call (.Name x p) (e :: es) [] pos) (tCB r t) := by
  intro pins s σ H Q I h
  refine wpAny_Call_Name_kw (ld_blt I hg hm hv ?_ hn hdb)
  exact PyProof.Rows.callWith_builtin1 (thn (ha pos pins s σ H _ I h) fun us s1 ⟨vs, H1, I1, r1, q1⟩ => hc pins s1 σ H1 vs us Q I1 r1 q1) he hpl
end
end L2
namespace HT
open PySem PyProof.Rows
section
open PySem.SeqAt
open PySem.AutoSeq1 (wpAny_loadPart')
open PySem.MeetsSeq PySem.MeetsSeq2 PySem.MeetsSeq3
end
section
variable {prog : Program} {w : World} {A : Around} {E : Value → Shared → Prop} {s : Shared}
/-- a slice's bound as a place among n (d where it is left out) -/
def sIx (n d : Nat) : Option Int → Nat
  | none => d
  | some v => if v < 0 then (v + (n : Int)).toNat else min v.toNat n
theorem sIx_none (n d : Nat) : sIx n d none = d := rfl
theorem sIx_nat (n d k : Nat) : sIx n d (some (k : Int)) = min k n := by
  show (if (k : Int) < 0 then ((k : Int) + (n : Int)).toNat else min (k : Int).toNat n) = min k n
  rw [if_neg (by omega), Int.toNat_natCast]
end
end HT
namespace L2
open PySem PySem.Spec PyProof.Rows
abbrev TO := St → Hp → (Option Int → Hp → Prop) → Prop
/-- a slice's part (left out, or an int) -/
def PO (X : Cx) (e : Option Expr) (t : TO) : Prop :=
  ∀ (pins : List (Addr × Obj)) (s : Shared) (σ : St) (H : Hp) (Q : Option Int → Hp → Prop), Inv X pins σ H s → t σ H Q →
    wpAny (model X.prog X.w) X.A (evalPart e X.env) (fun u s' => ∃ o H', Inv X pins σ H' s' ∧ IsPart u o ∧ Q o H') X.xe s
def tNoPart : TO := fun _ H Q => Q none H
def tPart (t : TE) : TO := fun σ H Q => t σ H fun x H1 => ∃ i, x = .int i ∧ Q (some i) H1
section
variable {X : Cx} {e : Expr} {te : TE} {lo hi : Option Expr} {tl th : TO} {pos p2 : Pos}
theorem po_none : PO X none tNoPart := by
  intro pins s σ H Q I h
  rw [evalPart_none]
  exact wpAny_pure ⟨none, H, I, .none, h⟩
theorem po_some (h : PE X e te) : PO X (some e) (tPart te) := by
  intro pins s σ H Q I hw
  rw [evalPart_some]
  refine thn (h pins s σ H _ I hw) fun u s1 ⟨x, H1, I1, r1, q1⟩ => ?_
  obtain ⟨i, rfl, q⟩ := q1
  obtain ⟨t, rfl⟩ := r1
  exact ⟨some i, H1, I1, .int i t, q⟩
/-- what a slice of a value is, by values: the slice object stands at sl -/
def SlR (X : Cx) (r : V → Option Int → Option Int → Hp → VK → Prop) : Prop :=
  ∀ (pins : List (Addr × Obj)) (s : Shared) (σ : St) (H : Hp) (x : V) (v vl vu : Value) (lo hi : Option Int) (sl : Addr) (Q : VK), Inv X pins σ H s → RelV x v → s.heap.IsSliceOf sl vl vu .none → IsPart vl lo → IsPart vu hi → r x lo hi H Q →
    ∃ T id, typeLookup (.type T) "__getitem__" = pure (some (.builtin id)) ∧ s.TypeIs v T ∧ wpAny (model X.prog X.w) X.A (getItem v (.ref sl)) (EP X pins σ Q) X.xe s
theorem SlR.or {r r' : V → Option Int → Option Int → Hp → VK → Prop} (h : SlR X r) (h' : SlR X r') : SlR X (fun x lo hi H Q => r x lo hi H Q ∨ r' x lo hi H Q) := by
  intro pins s σ H x v vl vu lo hi sl Q I rx hs pl pu q
  rcases q with q | q
  · exact h pins s σ H x v vl vu lo hi sl Q I rx hs pl pu q
  · exact h' pins s σ H x v vl vu lo hi sl Q I rx hs pl pu q
def tSl (r : V → Option Int → Option Int → Hp → VK → Prop) (te : TE) (tl th : TO) : TE := fun σ H Q => te σ H fun x H1 => tl σ H1 fun l H2 => th σ H2 fun u H3 => r x l u H3 Q
/-- a[lo:hi], any a -/
theorem pe_slice {r : V → Option Int → Option Int → Hp → VK → Prop} (hr : SlR X r) (he : PE X e te) (hl : PO X lo tl) (hu : PO X hi th) : PE X (.Subscript e (.Slice lo hi none p2) pos) (tSl r te tl th) := by
  intro pins s σ H Q I h
  refine Subscript_ (thn (he pins s σ H _ I h) fun v s1 ⟨x, H1, I1, r1, q1⟩ => ?_)
  refine wpAny_Slice (thn (hl pins s1 σ H1 _ I1 q1) fun vl s2 ⟨l, H2, I2, pl, q2⟩ => thn (hu pins s2 σ H2 _ I2 q2) fun vu s3 ⟨u, H3, I3, pu, q3⟩ => ?_)
  rw [evalPart_none]
  refine wpAny_pure ?_
  have I4 : Inv X pins σ H3 { s3 with heap := s3.heap.push { cls := .type "slice", data := .fields #[vl, vu, .none] } } := I3.kept (t' := s3.toks) fun b ob q => Heap.get?_push_of_some _ q
  obtain ⟨T, id, hT, ht, hg⟩ := hr pins { s3 with heap := s3.heap.push { cls := .type "slice", data := .fields #[vl, vu, .none] } } σ H3 x v vl vu l u s3.heap.objs.size Q I4 r1 (Heap.IsSliceOf.new ..) pl pu q3
  show wpAny (model X.prog X.w) X.A (subscriptTail e (.Slice lo hi none p2) v (.ref s3.heap.objs.size)) (EP X pins σ Q) X.xe { s3 with heap := s3.heap.push { cls := .type "slice", data := .fields #[vl, vu, .none] } }
  exact tail_any (ops := [.ref s3.heap.objs.size, v]) ht hT hg (by with_unfolding_all rfl)
/-- the items of xs[lo:hi] -/
def cutV (xs : List V) (lo hi : Option Int) : List V := (xs.drop (HT.sIx xs.length 0 lo)).take (HT.sIx xs.length xs.length hi - HT.sIx xs.length 0 lo)
theorem cutV_length (xs : List V) (lo hi : Option Int) : (cutV xs lo hi).length ≤ xs.length := by
  unfold cutV
  rw [List.length_take, List.length_drop]
  omega
end
end L2
namespace L2
open PySem PySem.Spec PyProof.Rows
/-- the place that an index of any sign means -/
def ixN (n : Nat) (i : Int) : Option Nat := if 0 ≤ i then (if i < n then some i.toNat else none) else if -(n : Int) ≤ i then some (i + n).toNat else none
def atI {α : Type} (xs : List α) (i : Int) : Option α := (ixN xs.length i).bind fun j => xs[j]?
theorem ixN_seq {n : Nat} {i : Int} {j : Nat} (h : ixN n i = some j) : seqIndex? i n = some j ∧ j < n ∧ -(n : Int) ≤ i ∧ i < n := by
  unfold ixN at h
  by_cases h0 : 0 ≤ i
  · rw [if_pos h0] at h
    by_cases h1 : i < n
    · rw [if_pos h1] at h
      have e : i.toNat = j := Option.some.inj h
      exact ⟨by rw [seqIndex_of h0 h1, e], by omega, by omega, h1⟩
    · rw [if_neg h1] at h; cases h
  · rw [if_neg h0] at h
    by_cases h1 : -(n : Int) ≤ i
    · rw [if_pos h1] at h
      have e : (i + n).toNat = j := Option.some.inj h
      exact ⟨by rw [seqIndex_neg (by omega) h1, e], by omega, h1, by omega⟩
    · rw [if_neg h1] at h; cases h
theorem atI_get {α : Type} {xs : List α} {i : Int} {v : α} (h : atI xs i = some v) : ∃ j, seqIndex? i xs.length = some j ∧ xs[j]? = some v ∧ j < xs.length ∧ -(xs.length : Int) ≤ i ∧ i < xs.length := by
  unfold atI at h
  cases e : ixN xs.length i with
  | none => rw [e] at h; cases h
  | some j =>
    rw [e] at h
    obtain ⟨h1, h2, h3, h4⟩ := ixN_seq e
    exact ⟨j, h1, h, h2, h3, h4⟩
theorem atI_nat {α : Type} {xs : List α} {j : Nat} {v : α} (h : xs[j]? = some v) : atI xs (j : Int) = some v := by
  have hj : j < xs.length := (List.getElem?_eq_some_iff.mp h).1
  have e : ixN xs.length (j : Int) = some j := by
    unfold ixN
    rw [if_pos (by omega), if_pos (by omega)]; simp
  unfold atI; rw [e]; exact h
theorem atI_last {α : Type} (xs : List α) (v : α) : atI (xs ++ [v]) (-1) = some v := by
  have hl : (xs ++ [v]).length = xs.length + 1 := by simp
  have e : ixN (xs ++ [v]).length (-1) = some xs.length := by
    unfold ixN
    rw [hl, if_neg (by decide), if_pos (by omega)]
    congr 1
    omega
  unfold atI
  rw [e]
  show (xs ++ [v])[xs.length]? = some v
  simp
/-- what stands as an index of a plain subscript -/
def PlainIx (b : Expr) : Prop := ∀ o i, subscripted b false o i = operate [o, i] (getItem o i)
/-- a subscript by values -/
def IxR (X : Cx) (r : R2) : Prop :=
  ∀ (value slice : Expr) (pins : List (Addr × Obj)) (s : Shared) (σ : St) (H : Hp) (x y : V) (v u : Value) (Q : VK), Inv X pins σ H s → RelV x v → RelV y u → r x y H Q →
    subscripted slice false v u = operate [v, u] (getItem v u) → wpAny (model X.prog X.w) X.A (subscriptTail value slice v u) (EP X pins σ Q) X.xe s
/-- a call of a builtin's method by values: the receiver, the arguments -/
def MtR (X : Cx) (id : String) (r : V → List V → Hp → VK → Prop) : Prop :=
  ∀ (pins : List (Addr × Obj)) (s : Shared) (σ : St) (H : Hp) (x : V) (xs : List V) (v : Value) (us : List Value) (Q : VK), Inv X pins σ H s → RelV x v → Vals xs us → r x xs H Q →
    wpAny (model X.prog X.w) X.A (call (.builtin id) (v :: us)) (EP X pins σ Q) X.xe s
section
variable {X : Cx} {a b : Expr} {ta tb : TE} {pos : Pos}
theorem IxR.or {r r' : R2} (h : IxR X r) (h' : IxR X r') : IxR X (fun x y H Q => r x y H Q ∨ r' x y H Q) := by
  intro value slice pins s σ H x y v u Q I rx ry q hs
  rcases q with q | q
  · exact h value slice pins s σ H x y v u Q I rx ry q hs
  · exact h' value slice pins s σ H x y v u Q I rx ry q hs
theorem MtR.or {id : String} {r r' : V → List V → Hp → VK → Prop} (h : MtR X id r) (h' : MtR X id r') : MtR X id (fun x xs H Q => r x xs H Q ∨ r' x xs H Q) := by
  intro pins s σ H x xs v us Q I rx rs q
  rcases q with q | q
  · exact h pins s σ H x xs v us Q I rx rs q
  · exact h' pins s σ H x xs v us Q I rx rs q
/-- a[b] -/
theorem pe_ix {r : R2} (hr : IxR X r) (ha : PE X a ta) (hb : PE X b tb) (hs : PlainIx b) : PE X (.Subscript a b pos) (tOp r ta tb) := by
  intro pins s σ H Q I h
  exact Subscript_ (binT ha hb I h fun v u s2 x y H2 I2 rx ry q => hr a b pins s2 σ H2 x y v u Q I2 rx ry q (hs _ _))
def rIxL (K : PySem.W.Frag) : R2 := fun x y H Q => ∃ p xs i v, x = .ref p ∧ y = .int i ∧ SqL K H p xs ∧ atI xs i = some v ∧ Q v H
def rIxT (K : PySem.W.Frag) : R2 := fun x y H Q => ∃ p xs i v, x = .ref p ∧ y = .int i ∧ SqT K H p xs ∧ atI xs i = some v ∧ Q v H
def rIxS : R2 := fun x y H Q => ∃ z i c, x = .str z ∧ y = .int i ∧ z.length ≤ sizeLine ∧ atI z.cps.toList i = some c ∧ Q (.str ⟨#[c]⟩) H
theorem ix_list : IxR X (rIxL X.K) := by
  intro value slice pins s σ H x y v u Q I rx ry h hs
  obtain ⟨p, xs, i, z, rfl, rfl, hq, he, q⟩ := h
  cases rx
  obtain ⟨t, rfl⟩ := ry
  obtain ⟨its, r, pl, hz⟩ := I.list hq
  obtain ⟨j, h1, h2, h3, h4, h5⟩ := atI_get he
  obtain ⟨w, ew, rw'⟩ := r.get h2
  have hl := r.length
  have hn := line63
  have fin : EP X pins σ Q w s := ⟨z, H, I, rw', q⟩
  by_cases h0 : 0 ≤ i
  · have hj : i.toNat = j := by
      rw [seqIndex_of h0 h5] at h1
      exact Option.some.inj h1
    exact item_listR pl.isList h0 (by omega) (by rw [hj]; simpa using ew) fin hs
  · have hj : (i + (its.toArray.size : Int)).toNat = j := by
      rw [seqIndex_neg (by omega) h4] at h1
      rw [List.size_toArray, ← hl]
      exact Option.some.inj h1
    exact subscriptTail_builtinR (x := w) pl.isList.typeIs slot_list_getitem.lookup
      (wpAny_getItem_list_neg (Q := fun r s' => r = w ∧ EP X pins σ Q r s') pl.isList (by omega) (by rw [List.size_toArray] <;> omega) (by omega) (by rw [hj]; simpa using ew) ⟨rfl, fin⟩) hs
theorem ix_tup : IxR X (rIxT X.K) := by
  intro value slice pins s σ H x y v u Q I rx ry h hs
  obtain ⟨p, xs, i, z, rfl, rfl, hq, he, q⟩ := h
  cases rx
  obtain ⟨t, rfl⟩ := ry
  obtain ⟨its, r, pl, hz⟩ := I.tuple hq
  obtain ⟨j, h1, h2, h3, h4, h5⟩ := atI_get he
  obtain ⟨w, ew, rw'⟩ := r.get h2
  have hl := r.length
  have hn := line63
  have fin : EP X pins σ Q w s := ⟨z, H, I, rw', q⟩
  exact subscriptTail_builtinR (x := w) pl.typeIs slot_tuple_getitem.lookup
    (getItem_tuple (j := j) (Q := fun r s' => r = w ∧ EP X pins σ Q r s') pl (by omega) (by omega) (by rw [List.size_toArray, ← hl]; exact h1) (by simpa using ew) ⟨rfl, fin⟩) hs
theorem ix_str : IxR X rIxS := by
  intro value slice pins s σ H x y v u Q I rx ry h hs
  obtain ⟨z, i, c, rfl, rfl, hz, he, q⟩ := h
  obtain ⟨t, rfl⟩ := rx
  obtain ⟨t', rfl⟩ := ry
  obtain ⟨j, h1, h2, h3, h4, h5⟩ := atI_get he
  have hl : z.cps.toList.length = z.length := by simp [Str.length]
  rw [hl] at h1 h4 h5
  have hn := line63
  exact tail_any (typeIs_str s z t) slot_str_getitem.lookup (getItem_str (c := c) (by
    have e1 : decide (i < -(2 ^ 63 : Int)) = false := decide_eq_false (by omega)
    have e2 : decide (i ≥ 2 ^ 63) = false := decide_eq_false (by omega)
    rw [e1, e2, Bool.or_false]) (by rw [h1]; simpa using h2) ⟨.str ⟨#[c]⟩, H, I.tok _, ⟨_, rfl⟩, q⟩) hs
/-- the list's object behind a store -/
theorem mapSeq_set (its : List Value) (n j : Nat) (u : Value) : Obj.mapSeq (·.setIfInBounds j u) { cls := .type "list", data := .seq its.toArray n } = { cls := .type "list", data := .seq (its.set j u).toArray n } := by
  simp [Obj.mapSeq]
theorem Inv.lst {pins : List (Addr × Obj)} {σ : St} {H : Hp} {s : Shared} {p : Addr} {xs : List V} (I : Inv X pins σ H s) (h : H p = some (.lst xs)) :
    ∃ (its : List Value) (n : Nat), Vals xs its ∧ s.heap.get? p = some { cls := .type "list", data := .seq its.toArray n } ∧ xs.length ≤ sizeLine := by
  obtain ⟨z, its, n, r, e⟩ := I.hok p _ h
  exact ⟨its, n, r, e, z⟩
/-- the list at p is written by an update of its object -/
theorem Inv.lstUpd {pins : List (Addr × Obj)} {σ : St} {H : Hp} {s : Shared} {p : Addr} {xs ys : List V} {its its' : List Value} {n n' : Nat} {f : Obj → Obj} (I : Inv X pins σ H s) (h : H p = some (.lst xs))
    (ho : s.heap.get? p = some { cls := .type "list", data := .seq its.toArray n }) (hf : f { cls := .type "list", data := .seq its.toArray n } = { cls := .type "list", data := .seq its'.toArray n' }) (r : Vals ys its') (hz : ys.length ≤ sizeLine) (t : Nat) :
    Inv X pins σ (upd H p (.lst ys)) { s with heap := s.heap.update p f, toks := t } := by
  have e : (s.heap.update p f).get? p = some { cls := .type "list", data := .seq its'.toArray n' } := by
    rw [Heap.get?_update_self f ho (by rw [hf] <;> rfl), hf]
  refine I.write (x := p) (e := p) (by rw [h]; trivial) (.inl rfl) (fun b u hb q => (Heap.get?_update_other _ _ (Ne.symm hb)).trans q) ⟨_, e⟩ ?_
  exact ⟨hz, its', n', r, e⟩
def rSetL : V → V → V → Hp → (Hp → Prop) → Prop := fun o i v H Q => ∃ p xs k j, o = .ref p ∧ i = .int k ∧ H p = some (.lst xs) ∧ ixN xs.length k = some j ∧ Q (upd H p (.lst (xs.set j v)))
theorem set_list : PSet X rSetL := by
  intro pins s σ H o i v ov iv u Q I ro ri rv h
  obtain ⟨p, xs, k, j, rfl, rfl, hp, hj, q⟩ := h
  cases ro
  obtain ⟨t, rfl⟩ := ri
  obtain ⟨its, n, r, ho, hz⟩ := I.lst hp
  obtain ⟨h1, h2, h3, h4⟩ := ixN_seq hj
  have hl := r.length
  have hn := line63
  have I' : Inv X pins σ (upd H p (.lst (xs.set j v))) { s with heap := s.heap.update p (Obj.mapSeq (·.setIfInBounds j u)) } :=
    I.lstUpd hp ho (mapSeq_set its n j u) (r.set rv j) (by rw [List.length_set]; exact hz) s.toks
  by_cases h0 : 0 ≤ k
  · have hk : k.toNat = j := by
      rw [seqIndex_of h0 h4] at h1
      exact Option.some.inj h1
    exact PySem.W.ki_setAt ho h0 (by omega) (by rw [List.size_toArray, ← hl]; exact h4) (by rw [hk]; exact ⟨_, I', q⟩)
  · have hk : (k + (its.toArray.size : Int)).toNat = j := by
      rw [seqIndex_neg (by omega) h3] at h1
      rw [List.size_toArray, ← hl]
      exact Option.some.inj h1
    exact PySem.W.ki_setBack ho (by omega) (by rw [List.size_toArray, ← hl]; exact h3) (by omega) (by rw [hk]; exact ⟨_, I', q⟩)
theorem slice_bounds (lo hi : Option Int) (n : Nat) : (sliceBounds lo hi none n).1 = ((HT.sIx n 0 lo : Nat) : Int) ∧ (sliceBounds lo hi none n).2.1 = ((HT.sIx n n hi : Nat) : Int) ∧ (sliceBounds lo hi none n).2.2 = 1 := by
  refine ⟨?_, ?_, rfl⟩
  · cases lo with
    | none => simp [sliceBounds, HT.sIx]
    | some i =>
      simp only [sliceBounds, HT.sIx, Option.getD_none, show (1 : Int) > 0 by decide, if_true]
      by_cases h : i < 0
      · simp only [h, if_true] <;> omega
      · simp only [h, if_false] <;> omega
  · cases hi with
    | none => simp [sliceBounds, HT.sIx]
    | some i =>
      simp only [sliceBounds, HT.sIx, Option.getD_none, show (1 : Int) > 0 by decide, if_true]
      by_cases h : i < 0
      · simp only [h, if_true] <;> omega
      · simp only [h, if_false] <;> omega
theorem slicePick_cut (its : List Value) (lo hi : Option Int) : slicePick its.toArray lo hi none = ((its.drop (HT.sIx its.length 0 lo)).take (HT.sIx its.length its.length hi - HT.sIx its.length 0 lo)).toArray := by
  obtain ⟨h1, h2, h3⟩ := slice_bounds lo hi its.toArray.size
  unfold slicePick
  rw [h1, h2, h3]
  simp only [sliceRange_one, pick_run, List.size_toArray] <;> rfl
/-- xs[lo:hi] of a list: a new list -/
def rSlL (K : PySem.W.Frag) : V → Option Int → Option Int → Hp → VK → Prop := fun x lo hi H Q => ∃ a xs, x = .ref a ∧ SqL K H a xs ∧ ∀ p, H p = none → Q (.ref p) (upd H p (.lst (cutV xs lo hi)))
theorem sl_list : SlR X (rSlL X.K) := by
  intro pins s σ H x v vl vu lo hi sl Q I rx hs pl pu h
  obtain ⟨a, xs, rfl, hx, q⟩ := h
  cases rx
  obtain ⟨its, r, ht, hz⟩ := I.list hx
  have hlen := r.length
  refine ⟨"list", _, slot_list_getitem.lookup, ht.isList.typeIs, ?_⟩
  refine wpAny_getItem_list_slice ht.isList hs pl pu .none (by simp) ?_ (by rw [List.size_toArray] <;> omega)
  rw [slicePick_cut, ← hlen]
  refine ⟨.ref s.heap.objs.size, _, I.laid (t' := s.toks) (o := .lst (cutV xs lo hi)) (fun b ob q => Heap.get?_push_of_some _ q) (Nat.le_refl _) ?_, rfl, q _ (I.hok.fresh (Nat.le_refl _))⟩
  exact ⟨Nat.le_trans (cutV_length xs lo hi) hz, _, 0, (r.drop (HT.sIx xs.length 0 lo)).take (HT.sIx xs.length xs.length hi - HT.sIx xs.length 0 lo), Heap.get?_push_size _ rfl⟩
def flatV : V → Bool
  | .non => true
  | .bl _ => true
  | .int _ => true
  | .str _ => true
  | _ => false
/-- == of flat values -/
def eqV : V → V → Bool
  | .non, .non => true
  | .bl a, .bl b => a == b
  | .bl a, .int b => (if a then 1 else 0) == b
  | .int a, .bl b => a == (if b then 1 else 0)
  | .int a, .int b => a == b
  | .str a, .str b => a == b
  | _, _ => false
theorem eqAt_V {A : Around} {s : Shared} {y x : V} {u v : Value} (ry : RelV y u) (rx : RelV x v) (fy : flatV y = true) (fx : flatV x = true) : SeqAt.EqAt A s u v (eqV y x) := by
  cases y with
  | non =>
    cases ry
    cases x with
    | non => cases rx; exact SeqAt.EqAt.same _
    | bl b => cases rx; exact SeqAt.EqAt.none_bool b
    | int b => obtain ⟨t, rfl⟩ := rx; exact SeqAt.EqAt.none_int b t
    | str b => obtain ⟨t, rfl⟩ := rx; exact SeqAt.EqAt.none_str b t
    | _ => exact absurd (show false = true from fx) Bool.false_ne_true
  | bl a =>
    cases ry
    cases x with
    | non => cases rx; exact SeqAt.EqAt.bool_none a
    | bl b => cases rx; exact SeqAt.EqAt.bool_bool a b
    | int b => obtain ⟨t, rfl⟩ := rx; exact SeqAt.EqAt.bool_int a b t
    | str b => obtain ⟨t, rfl⟩ := rx; exact SeqAt.EqAt.bool_str a b t
    | _ => exact absurd (show false = true from fx) Bool.false_ne_true
  | int a =>
    obtain ⟨t', rfl⟩ := ry
    cases x with
    | non => cases rx; exact SeqAt.EqAt.int_none a t'
    | bl b => cases rx; exact SeqAt.EqAt.int_bool a t' b
    | int b => obtain ⟨t, rfl⟩ := rx; exact SeqAt.EqAt.int_int a t' b t
    | str b => obtain ⟨t, rfl⟩ := rx; exact SeqAt.EqAt.int_str a t' b t
    | _ => exact absurd (show false = true from fx) Bool.false_ne_true
  | str a =>
    obtain ⟨t', rfl⟩ := ry
    cases x with
    | non => cases rx; exact SeqAt.EqAt.str_none a t'
    | bl b => cases rx; exact SeqAt.EqAt.str_bool a t' b
    | int b => obtain ⟨t, rfl⟩ := rx; exact SeqAt.EqAt.str_int a t' b t
    | str b => obtain ⟨t, rfl⟩ := rx; exact SeqAt.EqAt.str_str a t' b t
    | _ => exact absurd (show false = true from fx) Bool.false_ne_true
  | _ => exact absurd (show false = true from fy) Bool.false_ne_true
/-- the items' answers, read off the values (a value's own answer does not lean on its token) -/
def eqU (x : V) (u : Value) : Bool := match u with
  | .none => eqV .non x
  | .bool b => eqV (.bl b) x
  | .int i _ => eqV (.int i) x
  | .str z _ => eqV (.str z) x
  | _ => false
theorem eqU_of {x y : V} {u : Value} (r : RelV y u) (f : flatV y = true) : eqU x u = eqV y x := by
  cases y with
  | non => cases r; rfl
  | bl b => cases r; rfl
  | int i => obtain ⟨t, rfl⟩ := r; rfl
  | str z => obtain ⟨t, rfl⟩ := r; rfl
  | _ => exact absurd (show false = true from f) Bool.false_ne_true
theorem any_eqU {x : V} : ∀ {xs : List V} {us : List Value}, Vals xs us → xs.all flatV = true → us.any (eqU x) = xs.any fun y => eqV y x
  | _, _, .nil, _ => rfl
  | y :: xs, u :: us, .cons r t, f => by
    rw [List.all_cons, Bool.and_eq_true] at f
    rw [List.any_cons, List.any_cons, eqU_of r f.1, any_eqU t f.2]
theorem mem_eqAt {A : Around} {s : Shared} {x : V} {v : Value} (rx : RelV x v) (fx : flatV x = true) : ∀ {xs : List V} {us : List Value}, Vals xs us → xs.all flatV = true → ∀ u ∈ us, SeqAt.EqAt A s u v (eqU x u)
  | _, _, .nil, _ => fun u hu => by cases hu
  | y :: xs, u :: us, .cons r t, f => fun u' hu => by
    rw [List.all_cons, Bool.and_eq_true] at f
    rcases List.mem_cons.mp hu with rfl | hu
    · rw [eqU_of r f.1]; exact eqAt_V r rx f.1 fx
    · exact mem_eqAt rx fx t f.2 u' hu
def inV (x : V) (xs : List V) : Bool := xs.any fun y => eqV y x
/-- x in a list or tuple of flat items -/
def rIn (K : PySem.W.Frag) (neg : Bool) : R2 := fun x y H Q => ∃ p xs, y = .ref p ∧ (SqL K H p xs ∨ SqT K H p xs) ∧ flatV x = true ∧ xs.all flatV = true ∧ Q (.bl (if neg then !inV x xs else inV x xs)) H
theorem op_in_seq : OpR X (compareOp .In) (rIn X.K false) := by
  intro pins s σ H x y v u Q I rx ry h
  obtain ⟨p, xs, rfl, hq, fx, fs, q⟩ := h
  cases ry
  rcases hq with hq | hq
  · obtain ⟨its, r, pl, hz⟩ := I.list hq
    refine SeqAt.in_listAt (eqU x) pl.isList (fun w hw => mem_eqAt rx fx r fs w (by simpa using hw)) ⟨.bl _, H, I, rfl, ?_⟩
    rw [show its.toArray.any (eqU x) = its.any (eqU x) by simp, any_eqU r fs]
    exact q
  · obtain ⟨its, r, pl, hz⟩ := I.tuple hq
    refine SeqAt.in_tupleAt (eqU x) pl (fun w hw => mem_eqAt rx fx r fs w (by simpa using hw)) ⟨.bl _, H, I, rfl, ?_⟩
    rw [show its.toArray.any (eqU x) = its.any (eqU x) by simp, any_eqU r fs]
    exact q
theorem call_len_seq : CallR X (.builtin "len") (fun xs H Q => ∃ p ys, xs = [.ref p] ∧ (SqL X.K H p ys ∨ SqT X.K H p ys) ∧ Q (.int ys.length) H) := by
  intro pins s σ H xs us Q I r h
  obtain ⟨p, ys, rfl, hq, q⟩ := h
  obtain ⟨u, rfl, rx⟩ := vals1 r
  cases rx
  have hn := line63
  rcases hq with hq | hq
  · obtain ⟨its, r', pl, hz⟩ := I.list hq
    have hlen := r'.length
    exact Calls.call_len_list pl.isList (by simp only [List.size_toArray] <;> omega) ⟨.int ys.length, H, I.tok _, ⟨s.toks + 1, by rw [List.size_toArray, hlen]⟩, q⟩
  · obtain ⟨its, r', pl, hz⟩ := I.tuple hq
    have hlen := r'.length
    exact len_tuple pl (by simp only [List.size_toArray] <;> omega) ⟨.int ys.length, H, I.tok _, ⟨s.toks + 1, by rw [List.size_toArray, hlen]⟩, q⟩
theorem call_len_str : CallR X (.builtin "len") (fun xs H Q => ∃ z, xs = [.str z] ∧ z.length ≤ sizeLine ∧ Q (.int z.length) H) := by
  intro pins s σ H xs us Q I r h
  obtain ⟨z, rfl, hz, q⟩ := h
  obtain ⟨u, rfl, t, rfl⟩ := vals1 r
  have hn := line63
  exact len_str (by omega) ⟨.int z.length, H, I.tok _, ⟨_, rfl⟩, q⟩
theorem CallR.or {f : Value} {r r' : List V → Hp → VK → Prop} (h : CallR X f r) (h' : CallR X f r') : CallR X f (fun xs H Q => r xs H Q ∨ r' xs H Q) := by
  intro pins s σ H xs us Q I rs q
  rcases q with q | q
  · exact h pins s σ H xs us Q I rs q
  · exact h' pins s σ H xs us Q I rs q
/-- the value is of that builtin type -/
def tyV (K : PySem.W.Frag) (T : String) (x : V) (H : Hp) : Prop := match x with
  | .str _ => T = "str"
  | .int _ => T = "int"
  | .ref p => (T = "list" ∧ ∃ xs, SqL K H p xs) ∨ (T = "tuple" ∧ ∃ o, K.lookup p = some o ∧ o.cls = .type "tuple" ∧ o.dict = none) ∨
      (T = "dict" ∧ ((∃ kvs, H p = some (.dK kvs)) ∨ ∃ kvs, H p = some (.dT kvs))) ∨ (T = "set" ∧ ∃ S n, H p = some (.set S n))
  | _ => False
theorem tyV_is {pins : List (Addr × Obj)} {σ : St} {H : Hp} {s : Shared} {T : String} {x : V} {v : Value} (I : Inv X pins σ H s) (r : RelV x v) (ty : tyV X.K T x H) :
    s.TypeIs v T ∧ ∀ a, v = .ref a → ∃ ob, s.heap.get? a = some ob ∧ ob.dict = none := by
  cases x with
  | str z =>
    obtain ⟨t, rfl⟩ := r
    cases (show T = "str" from ty)
    exact ⟨typeIs_str s z t, fun _ e => nomatch e⟩
  | int i =>
    obtain ⟨t, rfl⟩ := r
    cases (show T = "int" from ty)
    exact ⟨typeIs_int s i t, fun _ e => nomatch e⟩
  | ref p =>
    cases r
    rcases ty with ⟨rfl, xs, hq⟩ | ⟨rfl, o, hk, hc, hd⟩ | ⟨rfl, hk⟩ | ⟨rfl, S, n, hk⟩
    · obtain ⟨its, _, pl, _⟩ := I.list hq
      refine ⟨pl.isList.typeIs, fun a e => ?_⟩
      cases e
      obtain ⟨o, n, e, c, hd, _⟩ := pl
      exact ⟨o, e, hd⟩
    · refine ⟨⟨o, I.kIn p o hk, hc⟩, fun a e => ?_⟩
      cases e
      exact ⟨o, I.kIn _ o hk, hd⟩
    · have z : ∃ o, s.heap.get? p = some o ∧ o.ExactDict := by
        rcases hk with ⟨kvs, hk⟩ | ⟨kvs, hk⟩
        · obtain ⟨_, _, _, _, o, _, _, e, ex, _⟩ := I.hok p _ hk
          exact ⟨o, e, ex⟩
        · obtain ⟨_, _, _, _, o, _, _, e, ex, _⟩ := I.hok p _ hk
          exact ⟨o, e, ex⟩
      obtain ⟨o, e, ex⟩ := z
      refine ⟨⟨o, e, ex.1⟩, fun a e2 => ?_⟩
      cases e2
      exact ⟨o, e, ex.2.1⟩
    · obtain ⟨o, _, _, _, e, ex, _⟩ := I.hok p _ hk
      refine ⟨⟨o, e, ex.1⟩, fun a e2 => ?_⟩
      cases e2
      exact ⟨o, e, ex.2.1⟩
  | _ => exact False.elim ty
def tBM0 (K : PySem.W.Frag) (T : String) (r : V → List V → Hp → VK → Prop) (to : TE) : TE := fun σ H Q => to σ H fun x H1 => tyV K T x H1 ∧ r x [] H1 Q
def tBM (K : PySem.W.Frag) (T : String) (r : V → List V → Hp → VK → Prop) (to : TE) (t : TA) : TE := fun σ H Q => to σ H fun x H1 => tyV K T x H1 ∧ t σ H1 fun xs H2 => r x xs H2 Q
variable {o e : Expr} {es : List Expr} {to : TE} {t : TA} {name : Str} {apos cpos : Pos} {T id : String} {r : V → List V → Hp → VK → Prop}
theorem pe_bm (pa : PlainAttrs T) (slot : Slot T name id) (hty : typeOf (.builtin id) = pure (.type "method_descriptor")) (hm : MtR X id r) (ho : PE X o to) (ha : PA X (e :: es) t)
    (hbase : attributeBase o name X.env (eval o X.env) = eval o X.env := by rfl)
    (hfew : ((backTo cpos (starEach (e :: es) X.env)).all (fun x => !x.1) && (backToKw cpos (keywordEach [] X.env)).all (fun x => x.1.isSome)
      && decide ((e :: es).length + ([] : List Keyword).length + (if ([] : List Keyword).isEmpty then 0 else 1) < 30)) = true := by rfl)
    (hline : (apos.endLine == cpos.line) = true := by rfl) (hs : starEach (e :: es) X.env = (false, eval e X.env) :: starEach es X.env := by rfl) (hplain : (backTo cpos (starEach es X.env)).any (·.1) = false := by rfl) :
    PE X (.Call (.Attribute o name apos) (e :: es) [] cpos) (tBM X.K T r to t) := by
  intro pins s σ H Q I h
  refine wpAny_Call_method_late hbase hfew hline rfl (thn (ho pins s σ H _ I h) fun v s1 ⟨x, H1, I1, r1, ty, q1⟩ => ?_)
  obtain ⟨h1, h2⟩ := tyV_is I1 r1 ty
  refine ⟨T, id, pa, slot, hty, h1, h2, ?_⟩
  have hA := ha cpos pins s1 σ H1 _ I1 q1
  rw [hs] at hA ⊢
  refine Calls.callWith_builtin (by show (false || (backTo cpos (starEach es X.env)).any (·.1)) = false; rw [hplain] <;> rfl) (Calls.evalArgs_plain ?_)
  exact thn hA fun us s2 ⟨vs, H2, I2, r2, q2⟩ => hm pins s2 σ H2 x vs v us Q I2 r1 r2 q2
end
end L2
namespace L2
open PySem PySem.Spec PyProof.Rows
def MtM (X : Cx) (id : String) (r : V → List V → Hp → VK → Prop) : Prop :=
  ∀ (pins : List (Addr × Obj)) (s : Shared) (σ : St) (H : Hp) (x : V) (xs : List V) (v : Value) (us : List Value) (Q : VK), Inv X pins σ H s → RelV x v → Vals xs us → r x xs H Q →
    wpAny (model X.prog X.w) X.A (call (.builtin id) (v :: us)) (EP X pins σ Q) X.xe s
theorem Vals.one : ∀ {x : V} {us : List Value}, Vals [x] us → ∃ u, us = [u] ∧ RelV x u
  | _, _, .cons r .nil => ⟨_, rfl, r⟩
theorem Vals.two : ∀ {x y : V} {us : List Value}, Vals [x, y] us → ∃ u v, us = [u, v] ∧ RelV x u ∧ RelV y v
  | _, _, _, .cons r (.cons q .nil) => ⟨_, _, rfl, r, q⟩
theorem Vals.zero : ∀ {us : List Value}, Vals [] us → us = []
  | _, .nil => rfl
theorem Vals.dropLast {xs : List V} {us : List Value} (h : Vals xs us) : Vals xs.dropLast us.dropLast := by
  induction h with
  | nil => exact .nil
  | cons r t ih =>
    cases t with
    | nil => exact .nil
    | cons q t' => exact .cons r ih
theorem Vals.reverse {xs : List V} {us : List Value} (h : Vals xs us) : Vals xs.reverse us.reverse := by
  induction h with
  | nil => exact .nil
  | cons r t ih => rw [List.reverse_cons, List.reverse_cons]; exact Vals.append ih (.cons r .nil)
section
variable {X : Cx} {pins : List (Addr × Obj)} {σ : St} {H : Hp} {s : Shared} {l b : Addr} {xs ys zs : List V}
theorem Inv.lset {its its' : List Value} {n : Nat} {f : Array Value → Array Value} {t' : Nat} (I : Inv X pins σ H s) (hH : H l = some (.lst xs))
    (e : s.heap.get? l = some { cls := .type "list", data := .seq its.toArray n }) (hf : f its.toArray = its'.toArray) (hv : Vals ys its') (hz : ys.length ≤ sizeLine) :
    Inv X pins σ (upd H l (.lst ys)) { s with heap := s.heap.update l (Obj.mapSeq f), toks := t' } := by
  have q := PySem.IsL.update e f
  rw [hf] at q
  refine I.write (x := l) (e := l) (by rw [hH]; exact trivial) (.inl rfl) (fun b' u hb hu => (Heap.get?_update_other s.heap (Obj.mapSeq f) (Ne.symm hb)).trans hu) ⟨_, q⟩ ?_
  exact ⟨hz, its', _, hv, q⟩
theorem Inv.lnew {its : List Value} {t' : Nat} (I : Inv X pins σ H s) (hv : Vals ys its) (hz : ys.length ≤ sizeLine) :
    Inv X pins σ (upd H s.heap.objs.size (.lst ys)) { s with heap := s.heap.push { cls := .type "list", data := .seq its.toArray }, toks := t' } :=
  I.laid (fun _ _ q => Heap.get?_push_of_some _ q) (Nat.le_refl _) ⟨hz, its, 0, hv, Heap.get?_push_size _ rfl⟩
theorem Inv.fresh (I : Inv X pins σ H s) : H s.heap.objs.size = none := I.hok.fresh (Nat.le_refl _)
theorem Inv.lstM (I : Inv X pins σ H s) (hH : H l = some (.lst xs)) : xs.length ≤ sizeLine ∧ ∃ (its : List Value) (n : Nat), Vals xs its ∧ xs.length = its.length ∧ s.heap.get? l = some { cls := .type "list", data := .seq its.toArray n } := by
  obtain ⟨z, its, n, r, e⟩ := I.hok l _ hH
  exact ⟨z, its, n, r, r.length, e⟩
end
section
variable {X : Cx}
def rAppend : V → List V → Hp → VK → Prop := fun x vs H Q => ∃ l xs y, x = .ref l ∧ vs = [y] ∧ H l = some (.lst xs) ∧ xs.length < sizeLine ∧ Q .non (upd H l (.lst (xs ++ [y])))
theorem mt_append : MtM X "list.append" rAppend := by
  intro pins s σ H x vs v us Q I rx rv h
  obtain ⟨l, xs, y, rfl, rfl, hH, hz, q⟩ := h
  cases rx
  obtain ⟨u, rfl, ru⟩ := rv.one
  obtain ⟨z, its, n, r, hl, e⟩ := I.lstM hH
  refine call_meets F.slot_list_append ⟨_, e, rfl⟩ F.entry_list_append (F.args_list_append_2 _ _) (PySem.list_append l its.toArray n u (by rw [List.size_toArray]; omega)) ⟨e, ?_⟩
  refine ⟨.non, _, I.lset (its' := its ++ [u]) hH e (by simp) (r.append (.cons ru .nil)) ?_, rfl, q⟩
  rw [List.length_append, List.length_singleton]
  omega
def rCat : R2 := fun x y H Q => ∃ l b xs zs, x = .ref l ∧ y = .ref b ∧ H l = some (.lst xs) ∧ H b = some (.lst zs) ∧ xs.length + zs.length ≤ sizeLine ∧ ∀ p, H p = none → Q (.ref p) (upd H p (.lst (xs ++ zs)))
theorem op_cat : OpR X (binaryOp .Add) rCat := by
  intro pins s σ H x y v u Q I rx ry h
  obtain ⟨l, b, xs, zs, rfl, rfl, hH, hB, hz, q⟩ := h
  cases rx
  cases ry
  obtain ⟨z, its, n, r, hl, e⟩ := I.lstM hH
  obtain ⟨z2, its2, n2, r2, hl2, e2⟩ := I.lstM hB
  refine PySem.P.add_list e e2 ?_ (by rw [List.size_toArray, List.size_toArray]; omega)
  have ea : its.toArray ++ its2.toArray = (its ++ its2).toArray := by simp
  rw [ea]
  exact ⟨.ref _, _, I.lnew (t' := s.toks) (r.append r2) (by rw [List.length_append]; omega), rfl, q _ I.fresh⟩
theorem len_rep {α : Type} (xs : List α) (k : Nat) : (List.replicate k xs).flatten.length = k * xs.length := by
  induction k with
  | zero => simp
  | succ k ih => rw [List.replicate_succ, List.flatten_cons, List.length_append, ih, Nat.succ_mul, Nat.add_comm]
end
section
variable {prog : Program} {w : World} {A : Around} {E : Value → Shared → Prop} {s : Shared}
set_option maxRecDepth 100000 in
end
section
variable {X : Cx}
end
end L2
namespace L2
open PySem PySem.Spec PyProof.Rows
section
variable {κ : Type} [DecidableEq κ]
def valV (kvs : List (κ × V)) (k : κ) : Option V := (kvs.find? fun kv => decide (kv.1 = k)).map (·.2)
/-- in its place, or at the end -/
def putK (kvs : List (κ × V)) (k : κ) (v : V) : List (κ × V) :=
  if (kvs.any fun kv => decide (kv.1 = k)) = true then kvs.map (fun kv => if kv.1 = k then (kv.1, v) else kv) else kvs ++ [(k, v)]
def dropK (kvs : List (κ × V)) (k : κ) : List (κ × V) := kvs.filter fun kv => decide (kv.1 ≠ k)
theorem valV_pos {p : κ × V} {r : List (κ × V)} {k : κ} (e : p.1 = k) : valV (p :: r) k = some p.2 := by simp [valV, List.find?_cons, e]
theorem valV_neg {p : κ × V} {r : List (κ × V)} {k : κ} (e : ¬ p.1 = k) : valV (p :: r) k = valV r k := by simp [valV, List.find?_cons, e]
theorem valV_any (k : κ) : ∀ kvs : List (κ × V), (kvs.any fun kv => decide (kv.1 = k)) = (valV kvs k).isSome
  | [] => rfl
  | p :: r => by
    rw [List.any_cons]
    by_cases e : p.1 = k
    · simp only [valV_pos e, decide_eq_true e, Bool.true_or, Option.isSome_some]
    · rw [valV_neg e, decide_eq_false e, Bool.false_or]; exact valV_any k r
theorem length_putK (kvs : List (κ × V)) (k : κ) (v : V) : (putK kvs k v).length ≤ kvs.length + 1 := by
  unfold putK
  split
  · rw [List.length_map]; omega
  · rw [List.length_append, List.length_cons, List.length_nil]; omega
theorem RelO.isSome_eq {o : Option V} {u : Option Value} (r : RelO o u) : o.isSome = u.isSome := by
  cases o with
  | none => cases u with
    | none => rfl
    | some _ => exact (show False from r).elim
  | some _ => cases u with
    | none => exact (show False from r).elim
    | some _ => rfl
theorem RelO.getD {o : Option V} {u : Option Value} {d : V} {d' : Value} (r : RelO o u) (rd : RelV d d') : RelV (o.getD d) (u.getD d') := by
  cases o with
  | none => cases u with
    | none => exact rd
    | some _ => exact (show False from r).elim
  | some _ => cases u with
    | none => exact (show False from r).elim
    | some _ => exact r
/-- raw tables of the same keys -/
theorem KV.val {kvs : List (κ × V)} {vs : List (κ × Value)} (r : KV kvs vs) (k : κ) : RelO (valV kvs k) (valueAt vs k) := by
  unfold KV at r
  induction r with
  | nil => exact True.intro
  | @cons p q ps qs h t ih =>
    obtain ⟨h1, h2⟩ := h
    by_cases e : p.1 = k
    · have e' : q.1 = k := h1.symm.trans e
      have b : valueAt (q :: qs) k = some q.2 := by simp [valueAt, List.find?_cons, e']
      rw [valV_pos e, b]; exact h2
    · have e' : ¬ q.1 = k := fun z => e (h1.trans z)
      have b : valueAt (q :: qs) k = valueAt qs k := by simp [valueAt, List.find?_cons, e']
      rw [valV_neg e, b]; exact ih
theorem KV.any {kvs : List (κ × V)} {vs : List (κ × Value)} (r : KV kvs vs) (k : κ) : (kvs.any fun kv => decide (kv.1 = k)) = vs.any fun kv => decide (kv.1 = k) := by
  unfold KV at r
  induction r with
  | nil => rfl
  | cons h t ih => rw [List.any_cons, List.any_cons, ih, h.1]
theorem KV.repl {kvs : List (κ × V)} {vs : List (κ × Value)} (r : KV kvs vs) (k : κ) {y : V} {u : Value} (ry : RelV y u) :
    KV (kvs.map fun kv => if kv.1 = k then (kv.1, y) else kv) (vs.map fun kv => if kv.1 = k then (kv.1, u) else kv) := by
  unfold KV at r ⊢
  induction r with
  | nil => exact .nil
  | @cons p q ps qs h t ih =>
    rw [List.map_cons, List.map_cons]
    refine .cons ?_ ih
    obtain ⟨h1, h2⟩ := h
    by_cases e : p.1 = k
    · rw [if_pos e, if_pos (h1.symm.trans e)]; exact ⟨h1, ry⟩
    · rw [if_neg e, if_neg (fun z => e (h1.trans z))]; exact ⟨h1, h2⟩
theorem KV.put {kvs : List (κ × V)} {vs : List (κ × Value)} (r : KV kvs vs) (k : κ) {y : V} {u : Value} (ry : RelV y u) : KV (putK kvs k y) (stored vs k u) := by
  unfold putK stored
  rw [r.any k]
  by_cases e : (vs.any fun kv => decide (kv.1 = k)) = true
  · rw [if_pos e, if_pos e]; exact r.repl k ry
  · rw [if_neg e, if_neg e]; exact Paired.snoc r ⟨rfl, ry⟩
theorem KV.drop {kvs : List (κ × V)} {vs : List (κ × Value)} (r : KV kvs vs) (k : κ) : KV (dropK kvs k) (without vs k) := by
  unfold KV at r ⊢
  unfold dropK without
  induction r with
  | nil => exact .nil
  | @cons p q ps qs h t ih =>
    obtain ⟨h1, h2⟩ := h
    rw [List.filter_cons, List.filter_cons]
    by_cases e : p.1 = k
    · have a : ¬ decide (p.1 ≠ k) = true := by simp [e]
      have b : ¬ decide (q.1 ≠ k) = true := by simp [h1.symm.trans e]
      rw [if_neg a, if_neg b]; exact ih
    · have e' : ¬ q.1 = k := fun z => e (h1.trans z)
      have a : decide (p.1 ≠ k) = true := by simp [e]
      have b : decide (q.1 ≠ k) = true := by simp [e']
      rw [if_pos a, if_pos b]; exact .cons ⟨h1, h2⟩ ih
theorem KV.keys {kvs : List (κ × V)} {vs : List (κ × Value)} (r : KV kvs vs) : kvs.map (·.1) = vs.map (·.1) := by
  unfold KV at r
  induction r with
  | nil => rfl
  | cons h t ih => rw [List.map_cons, List.map_cons, ih, h.1]
theorem KV.length {kvs : List (κ × V)} {vs : List (κ × Value)} (r : KV kvs vs) : kvs.length = vs.length := Paired.length r
end
theorem kV_is {P : Program} {w : World} {k : Key} {u : Value} (r : RelV (kV k) u) : (mixKind P w).is k u = true := by
  cases k with
  | inl i => obtain ⟨t, e⟩ := (show ∃ t, u = Value.int i t from r); subst e; exact mixKind_int P w i t
  | inr x => obtain ⟨t, e⟩ := (show ∃ t, u = Value.str x t from r); subst e; exact mixKind_str P w x t
theorem items_are {P : Program} {w : World} : ∀ {ks : List Key} {us : List Value}, Vals (ks.map kV) us → ItemsAre (mixKind P w) ks us
  | [], _, r => by rw [List.map_nil] at r; cases r; exact .nil
  | k :: ks, _, r => by
    rw [List.map_cons] at r
    cases r with
    | cons h t => exact .cons (kV_is h) (items_are t)
/-- raw entries of a dict with tuple keys -/
abbrev KT (H : Hp) : List (List Key × V) → List (List Key × Addr × Value) → Prop := Paired fun p q => p.1 = q.1 ∧ H q.2.1 = some (.tup (p.1.map kV)) ∧ RelV p.2 q.2.2
theorem KT.val {H : Hp} {kvs : List (List Key × V)} {xs : List (List Key × Addr × Value)} (r : KT H kvs xs) (k : List Key) : RelO (valV kvs k) ((atKey xs k).map (·.2)) := by
  induction r with
  | nil => exact True.intro
  | @cons p q ps qs h t ih =>
    obtain ⟨h1, _, h2⟩ := h
    by_cases e : p.1 = k
    · have e' : q.1 = k := h1.symm.trans e
      have b : atKey (q :: qs) k = some q.2 := by simp [atKey, List.find?_cons, e']
      rw [valV_pos e, b]; exact h2
    · have e' : ¬ q.1 = k := fun z => e (h1.trans z)
      have b : atKey (q :: qs) k = atKey qs k := by simp [atKey, List.find?_cons, e']
      rw [valV_neg e, b]; exact ih
theorem KT.repl {H : Hp} {kvs : List (List Key × V)} {xs : List (List Key × Addr × Value)} (r : KT H kvs xs) (k : List Key) {y : V} {u : Value} (ry : RelV y u) :
    KT H (kvs.map fun kv => if kv.1 = k then (kv.1, y) else kv) (xs.map (putAt k u)) := by
  induction r with
  | nil => exact .nil
  | @cons p q ps qs h t ih =>
    rw [List.map_cons, List.map_cons]
    refine .cons ?_ ih
    obtain ⟨h1, h2, h3⟩ := h
    unfold putAt
    by_cases e : p.1 = k
    · rw [if_pos e, if_pos (h1.symm.trans e)]; exact ⟨h1, h2, ry⟩
    · rw [if_neg e, if_neg (fun z => e (h1.trans z))]; exact ⟨h1, h2, h3⟩
theorem KT.put {H : Hp} {kvs : List (List Key × V)} {xs : List (List Key × Addr × Value)} (r : KT H kvs xs) (k : List Key) {b : Addr} {y : V} {u : Value} (hb : H b = some (.tup (k.map kV))) (ry : RelV y u) :
    KT H (putK kvs k y) (storedH xs k b u) := by
  have e : (kvs.any fun kv => decide (kv.1 = k)) = (atKey xs k).isSome := by
    rw [valV_any, (r.val k).isSome_eq, Option.isSome_map]
  unfold putK storedH
  rw [e]
  by_cases q : (atKey xs k).isSome = true
  · rw [if_pos q, if_pos q]; exact r.repl k ry
  · rw [if_neg q, if_neg q]; exact Paired.snoc r ⟨rfl, hb, ry⟩
theorem KT.keeps {H H' : Hp} {kvs : List (List Key × V)} {xs : List (List Key × Addr × Value)} (r : KT H kvs xs) (ht : ∀ b ys, H b = some (.tup ys) → H' b = some (.tup ys)) : KT H' kvs xs :=
  Paired.mapP r fun _ _ z => ⟨z.1, ht _ _ z.2.1, z.2.2⟩
section
variable {P : Program} {w : World} {H : Hp} {h : Heap} {a : Addr}
theorem rd_of {u : HO} (ok : HOk P w H h) (e : Rd H a u) : ObjOk P w H h a u := e.ok ok
theorem dk_rd {kvs : List (Key × V)} (ok : HOk P w H h) (e : Rd H a (.dK kvs)) : kvs.length ≤ sizeLine ∧ (a == sysModules) = false ∧ ∃ vs, KV kvs vs ∧ h.DictOf (mixKind P w) a vs :=
  show ObjOk P w H h a (.dK kvs) from rd_of ok e
theorem dk_of {kvs : List (Key × V)} (ok : HOk P w H h) (e : H a = some (.dK kvs)) : kvs.length ≤ sizeLine ∧ (a == sysModules) = false ∧ ∃ vs, KV kvs vs ∧ h.DictOf (mixKind P w) a vs := dk_rd ok (.inl e)
/-- a tracked tuple of ints and texts is a key -/
theorem key_of {ks : List Key} (ok : HOk P w H h) (e : H a = some (.tup (ks.map kV))) : (tupleKind (mixKind P w)).is h ks a := by
  obtain ⟨_, its, r, o, h1, h2, n, h3⟩ := (show ObjOk P w H h a (.tup (ks.map kV)) from ok a _ e)
  exact ⟨o, its.toArray, n, h1, h2, h3, by simpa using items_are r⟩
theorem dt_rd {kvs : List (List Key × V)} (ok : HOk P w H h) (e : Rd H a (.dT kvs)) : kvs.length ≤ sizeLine ∧ (a == sysModules) = false ∧
    ∃ xs, KT H kvs xs ∧ h.DictOfH (tupleKind (mixKind P w)) a xs := by
  obtain ⟨z, y, xs, r, o, es, ep, h1, h2, h3, h4, h5⟩ := (show ObjOk P w H h a (.dT kvs) from rd_of ok e)
  refine ⟨z, y, xs, r, o, es, ep, h1, h2, h3, h4, fun x hx => ?_, h5⟩
  have all : ∀ {l : List (List Key × V)} {m : List (List Key × Addr × Value)}, KT H l m → ∀ x ∈ m, (tupleKind (mixKind P w)).is h x.1 x.2.1 := by
    intro l m q
    induction q with
    | nil => intro x hx; exact nomatch hx
    | @cons p q ps qs hq t ih =>
      intro x hx
      rcases List.mem_cons.mp hx with e | hx
      · subst e
        exact key_of ok (by rw [← hq.1]; exact hq.2.1)
      · exact ih x hx
  exact all r x hx
end
/-- what the dict at a holds at the key y -/
def DGet (H : Hp) (a : Addr) (y : V) (r : Option V) : Prop :=
  (∃ kvs k, Rd H a (.dK kvs) ∧ y = kV k ∧ r = valV kvs k) ∨ ∃ kvs k b, Rd H a (.dT kvs) ∧ y = .ref b ∧ H b = some (.tup (k.map kV)) ∧ r = valV kvs k
/-- the heap behind a[y] = v -/
def DPut (H : Hp) (a : Addr) (y v : V) (H' : Hp) : Prop :=
  (∃ kvs k, H a = some (.dK kvs) ∧ y = kV k ∧ kvs.length < sizeLine ∧ H' = upd H a (.dK (putK kvs k v))) ∨
  ∃ kvs k b, H a = some (.dT kvs) ∧ y = .ref b ∧ H b = some (.tup (k.map kV)) ∧ kvs.length < sizeLine ∧ H' = upd H a (.dT (putK kvs k v))
theorem DGet.k {H : Hp} {a : Addr} {kvs : List (Key × V)} {k : Key} (e : H a = some (.dK kvs)) : DGet H a (kV k) (valV kvs k) := .inl ⟨kvs, k, .inl e, rfl, rfl⟩
theorem DGet.t {H : Hp} {a b : Addr} {kvs : List (List Key × V)} {k : List Key} (e : H a = some (.dT kvs)) (eb : H b = some (.tup (k.map kV))) : DGet H a (.ref b) (valV kvs k) := .inr ⟨kvs, k, b, .inl e, rfl, eb, rfl⟩
theorem DPut.k {H : Hp} {a : Addr} {kvs : List (Key × V)} {k : Key} {v : V} (e : H a = some (.dK kvs)) (hl : kvs.length < sizeLine) : DPut H a (kV k) v (upd H a (.dK (putK kvs k v))) := .inl ⟨kvs, k, e, rfl, hl, rfl⟩
theorem DPut.t {H : Hp} {a b : Addr} {kvs : List (List Key × V)} {k : List Key} {v : V} (e : H a = some (.dT kvs)) (eb : H b = some (.tup (k.map kV))) (hl : kvs.length < sizeLine) :
    DPut H a (.ref b) v (upd H a (.dT (putK kvs k v))) := .inr ⟨kvs, k, b, e, rfl, eb, hl, rfl⟩
section
variable {X : Cx} {pins : List (Addr × Obj)} {σ : St} {H : Hp} {s : Shared} {a : Addr} {y v : V} {u r : Value} {o : Option V} {A : Around} {E : Value → Shared → Prop}
theorem Inv.big (I : Inv X pins σ H s) : sysModules < s.heap.objs.size := by
  have h : mainGlobals < s.heap.objs.size := (I.mod.glob.keeps I.bk).lt
  exact Nat.lt_trans (by decide) h
/-- a dict's object is replaced -/
theorem d_write {h' : Heap} {t' : Nat} {ob : HO} (I : Inv X pins σ H s) (mu : Mut (H a)) (hs : Heap.SameBut a s.heap h') (he : ∃ q, h'.get? a = some q) (new : ObjOk X.prog X.w (upd H a ob) h' a ob) :
    Inv X pins σ (upd H a ob) { s with heap := h', toks := t' } :=
  I.write (x := a) (e := a) mu (.inl rfl) (fun b q hb z => (hs.2 b hb).trans z) he new
theorem dk_new {P : Program} {w : World} {H' : Hp} {h' : Heap} {kvs : List (Key × V)} {vs : List (Key × Value)} (z : kvs.length ≤ sizeLine) (hd : (a == sysModules) = false) (rel : KV kvs vs) (dd : h'.DictOf (mixKind P w) a vs) :
    ObjOk P w H' h' a (.dK kvs) := ⟨z, hd, vs, rel, dd⟩
end
section
variable {X : Cx} {pins : List (Addr × Obj)} {σ : St} {H : Hp} {s : Shared} {a : Addr} {kvs : List (Key × V)} {k : Key} {u : Value} {A : Around} {E : Value → Shared → Prop}
end
section
variable {X : Cx} {o i e value : Expr} {pos pos' tpos : Pos} {td ty tv : TE}
end
theorem dk_empty {P : Program} {w : World} {H : Hp} (h : Heap) (hb : sysModules < h.objs.size) : ObjOk P w H (h.push { cls := .type "dict", data := .dict #[] }) h.objs.size (.dK []) :=
  ⟨Nat.zero_le _, beq_eq_false_iff_ne.mpr (Ne.symm (Nat.ne_of_lt hb)), [], .nil, Heap.DictOf.new h⟩
section
variable {X : Cx} {pos : Pos}
end
/-- the pairs of a display, from the left -/
def tPairs : List (TE × TE) → St → Hp → (List (V × V) → Hp → Prop) → Prop
  | [], _, H, Q => Q [] H
  | (tk, tv) :: r, σ, H, Q => tk σ H fun x H1 => tv σ H1 fun y H2 => tPairs r σ H2 fun ps H3 => Q ((x, y) :: ps) H3
abbrev VV : List (V × V) → List (Value × Value) → Prop := Paired fun p q => RelV p.1 q.1 ∧ RelV p.2 q.2
def PPs (X : Cx) (pos : Pos) (keys : List (Option Expr)) (values : List Expr) (trs : List (TE × TE)) : Prop :=
  ∀ (pins : List (Addr × Obj)) (s : Shared) (σ : St) (H : Hp) (Q : List (V × V) → Hp → Prop), Inv X pins σ H s → tPairs trs σ H Q →
    wpAny (model X.prog X.w) X.A (evalPairs (pairTrees keys values X.env pos)) (fun vs s' => ∃ ps H', Inv X pins σ H' s' ∧ VV ps vs ∧ Q ps H') X.xe s
theorem pps_nil {X : Cx} {pos : Pos} : PPs X pos [] [] [] := fun pins s σ H Q I h => pairTrees_nil_walk ⟨[], H, I, .nil, h⟩
theorem pps_cons {X : Cx} {pos : Pos} {k v : Expr} {ks : List (Option Expr)} {vs : List Expr} {tk tv : TE} {trs : List (TE × TE)} (hk : PE X k tk) (hv : PE X v tv) (hr : PPs X pos ks vs trs) :
    PPs X pos (some k :: ks) (v :: vs) ((tk, tv) :: trs) := fun pins s σ H Q I h =>
  pairTrees_cons_walk (thn (hk pins s σ H _ I h) fun u s1 ⟨x, H1, I1, rx, q1⟩ => thn (hv pins s1 σ H1 _ I1 q1) fun w2 s2 ⟨y, H2, I2, ry, q2⟩ =>
    thn (hr pins s2 σ H2 _ I2 q2) fun ws s3 ⟨ps, H3, I3, rel, q3⟩ => ⟨(x, y) :: ps, H3, I3, .cons ⟨rx, ry⟩ rel, q3⟩)
def mergeK (kvs more : List (Key × V)) : List (Key × V) := more.foldl (fun acc kv => putK acc kv.1 kv.2) kvs
theorem KV.merge : ∀ {more : List (Key × V)} {rs : List (Key × Value)} {kvs : List (Key × V)} {vs : List (Key × Value)}, KV more rs → KV kvs vs → KV (mergeK kvs more) (merged vs rs) := by
  intro more rs kvs vs r
  unfold KV at r
  induction r generalizing kvs vs with
  | nil => intro q; exact q
  | @cons p q ps qs h t ih =>
    intro r0
    have e : KV (putK kvs p.1 p.2) (stored vs q.1 q.2) := by
      have := r0.put p.1 h.2
      rw [← h.1]; exact this
    exact ih e
theorem length_mergeK : ∀ (more kvs : List (Key × V)), (mergeK kvs more).length ≤ kvs.length + more.length
  | [], kvs => by show kvs.length ≤ kvs.length + 0; omega
  | p :: r, kvs => by
    have h1 := length_mergeK r (putK kvs p.1 p.2)
    have h2 := length_putK kvs p.1 p.2
    show (mergeK (putK kvs p.1 p.2) r).length ≤ _
    rw [List.length_cons]; omega
theorem carries_of {P : Program} {w : World} : ∀ {kvs : List (Key × V)} {ws : List (Value × Value)}, VV (kvs.map fun kv => (kV kv.1, kv.2)) ws → ∃ rs, Carries (mixKind P w) ws rs ∧ KV kvs rs
  | [], _, r => by rw [List.map_nil] at r; cases r; exact ⟨[], True.intro, .nil⟩
  | p :: kvs, _, r => by
    rw [List.map_cons] at r
    cases r with
    | @cons a b as bs h t =>
      obtain ⟨rs, c, q⟩ := carries_of (P := P) (w := w) t
      obtain ⟨b1, b2⟩ := b
      exact ⟨(p.1, b2) :: rs, ⟨kV_is h.1, rfl, c⟩, .cons ⟨rfl, h.2⟩ q⟩
/-- {k: v, ..} with keys ints and texts; the new dict stands empty while the pairs are made -/
def tDisp (trs : List (TE × TE)) : TE := fun σ H Q => ∀ p, H p = none → tPairs trs σ (upd H p (.dK [])) fun ps H2 => H2 p = some (.dK []) ∧ ∃ kvs : List (Key × V), ps = kvs.map (fun kv => (kV kv.1, kv.2)) ∧ kvs.length ≤ 15 ∧ Q (.ref p) (upd H2 p (.dK (mergeK [] kvs)))
theorem pe_disp {X : Cx} {pos : Pos} {keys : List (Option Expr)} {values : List Expr} {trs : List (TE × TE)} (h : PPs X pos keys values trs) (hall : keys.all (·.isSome) = true) (hl : keys.length = values.length) (h0 : keys ≠ [])
    (h15 : keys.length ≤ 15) : PE X (.Dict keys values pos) (tDisp trs) := by
  intro pins s σ H Q I q
  have hn := I.hok.fresh (Nat.le_refl s.heap.objs.size)
  have I1 := I.laid (a := s.heap.objs.size) (o := .dK []) (h' := s.heap.push { cls := .type "dict", data := .dict #[] }) (t' := s.toks) (fun _ _ q => Heap.get?_push_of_some _ q) (Nat.le_refl _) (dk_empty s.heap I.big)
  refine wpAny_Dict_walk (knd := mixKind X.prog X.w) hall hl h0 h15 (thn (h pins _ σ _ _ I1 (q _ hn)) fun ws s2 ⟨ps, H2, I2, rel, e, kvs, ep, lk, q2⟩ => ?_)
  subst ep
  obtain ⟨rs, c, rk⟩ := carries_of (P := X.prog) (w := X.w) rel
  obtain ⟨z, hd, vs0, r0, dd⟩ := dk_of I2.hok e
  cases r0
  refine ⟨rs, c, dd, fun h' dd' hs => ⟨.ref s.heap.objs.size, _, ?_, rfl, q2⟩⟩
  have hz : (mergeK [] kvs).length ≤ sizeLine := by
    have h1 := length_mergeK kvs []
    rw [List.length_nil] at h1
    rw [sizeLine_eq]; omega
  have he : ∃ q, h'.get? s.heap.objs.size = some q := let ⟨q, _, _, hq, _⟩ := dd'; ⟨q, hq⟩
  exact d_write I2 (by rw [e]; exact True.intro) hs he (dk_new hz hd (rk.merge .nil) dd')
/-- a method call o.m(e) of a built-in, with one argument: what must be seen of the text -/
structure M1 (X : Cx) (o : Expr) (m : Str) (apos : Pos) (e : Expr) (cpos : Pos) : Prop where
  base : attributeBase o m X.env (eval o X.env) = eval o X.env
  few : ((backTo cpos (starEach [e] X.env)).all (fun x => !x.1) && (backToKw cpos (keywordEach [] X.env)).all (fun x => x.1.isSome)
    && decide (([e] : List Expr).length + ([] : List Keyword).length + (if ([] : List Keyword).isEmpty then 0 else 1) < 30)) = true
  line : (apos.endLine == cpos.line) = true
  trees : backTo cpos (starEach [e] X.env) = [(false, eval e X.env)]
structure M2 (X : Cx) (o : Expr) (m : Str) (apos : Pos) (e f : Expr) (cpos : Pos) : Prop where
  base : attributeBase o m X.env (eval o X.env) = eval o X.env
  few : ((backTo cpos (starEach [e, f] X.env)).all (fun x => !x.1) && (backToKw cpos (keywordEach [] X.env)).all (fun x => x.1.isSome)
    && decide (([e, f] : List Expr).length + ([] : List Keyword).length + (if ([] : List Keyword).isEmpty then 0 else 1) < 30)) = true
  line : (apos.endLine == cpos.line) = true
  trees : backTo cpos (starEach [e, f] X.env) = [(false, eval e X.env), (false, eval f X.env)]
/-- a is a dict, whatever its keys -/
def IsD (H : Hp) (a : Addr) : Prop := (∃ kvs, Rd H a (.dK kvs)) ∨ ∃ kvs, Rd H a (.dT kvs)
theorem isD_at {X : Cx} {pins : List (Addr × Obj)} {σ : St} {H : Hp} {s : Shared} {a : Addr} (I : Inv X pins σ H s) (d : IsD H a) :
    s.TypeIs (.ref a) "dict" ∧ (∀ b, Value.ref a = .ref b → ∃ ob, s.heap.get? b = some ob ∧ ob.dict = none) ∧ (a == sysModules) = false := by
  rcases d with ⟨kvs, e⟩ | ⟨kvs, e⟩
  · obtain ⟨_, hd, vs, _, dd⟩ := dk_rd I.hok e
    refine ⟨dd.typeIs, fun b q => ?_, hd⟩
    cases q
    obtain ⟨ob, _, _, h1, h2, _⟩ := dd
    exact ⟨ob, h1, h2.2.1⟩
  · obtain ⟨_, hd, xs, _, dd⟩ := dt_rd I.hok e
    refine ⟨dd.typeIs, fun b q => ?_, hd⟩
    cases q
    obtain ⟨ob, _, _, h1, h2, _⟩ := dd
    exact ⟨ob, h1, h2.2.1⟩
section
variable {X : Cx} {pins : List (Addr × Obj)} {σ : St} {H : Hp} {s : Shared} {a : Addr} {y d : V} {u r : Value} {o : Option V} {A : Around} {E : Value → Shared → Prop}
/-- d.get(y, x) -/
theorem d_get2 {Q : Value → Shared → Prop} (hu : A.units + 1 < cLine) (I : Inv X pins σ H s) (g : DGet H a y o) (ry : RelV y u) (rd : RelV d r) (h : ∀ w' s', Inv X pins σ H s' → RelV (o.getD d) w' → Q w' s') :
    wpAny (model X.prog X.w) A (call (.builtin "dict.get") [.ref a, u, r]) Q E s := by
  rcases g with ⟨kvs, k, e, ey, l⟩ | ⟨kvs, k, b, e, ey, eb, l⟩
  · subst ey
    obtain ⟨z, hd, vs, rel, dd⟩ := dk_rd I.hok e
    refine call_meetsIn PySem.F.slot_dict_get dd.typeIs PySem.F.entry_dict_get (PySem.F.args_dict_get_3 _ _ _) (meets_dict_get_default (mixKind X.prog X.w) a (kV_is ry) hd r) ⟨_, dd.mapOf, h _ _ (I.tok _) ?_⟩
    rw [l]
    exact (rel.val k).getD rd
  · subst ey
    cases (show u = Value.ref b from ry)
    obtain ⟨z, hd, xs, rel, dd⟩ := dt_rd I.hok e
    refine call_meetsIn PySem.F.slot_dict_get dd.typeIs PySem.F.entry_dict_get (PySem.F.args_dict_get_3 _ _ _) (meetsH_dict_get_default (tupleKind (mixKind X.prog X.w)) a b hd r) ⟨tupleKind_room_in1 hu, k, xs, key_of I.hok eb, dd, h _ _ (I.tok _) ?_⟩
    rw [l]
    exact (rel.val k).getD rd
end
def tDGet2 (td ty tx : TE) : TE := fun σ H Q => td σ H fun x H1 => ∃ a, x = .ref a ∧ IsD H1 a ∧ ty σ H1 fun y H2 => tx σ H2 fun z H3 => ∃ o, DGet H3 a y o ∧ Q (o.getD z) H3
section
variable {X : Cx} {o e f : Expr} {apos cpos : Pos} {td ty tx : TE}
theorem pe_dget2 (hu : X.A.units + 1 < cLine) (ho : PE X o td) (he : PE X e ty) (hf : PE X f tx) (m : M2 X o "get" apos e f cpos) : PE X (.Call (.Attribute o "get" apos) [e, f] [] cpos) (tDGet2 td ty tx) := by
  intro pins s σ H Q I h
  refine wpAny_Call_method m.base m.few m.line PySem.F.plainAttrs_dict PySem.F.slot_dict_get PySem.F.type_dict_get (thn (ho pins s σ H _ I h) fun u s1 ⟨x, H1, I1, rx, a, ex, d, q1⟩ => ?_)
  subst ex
  obtain rfl : u = Value.ref a := rx
  obtain ⟨t1, t2, _⟩ := isD_at I1 d
  refine ⟨t1, t2, ?_⟩
  rw [m.trees]
  refine Calls.callWith_builtin rfl (Calls.evalArgs_plain (Calls.spliced_cons (thn (he pins s1 σ H1 _ I1 q1) fun iv s2 ⟨y, H2, I2, ry, q2⟩ =>
    Calls.spliced_cons (thn (hf pins s2 σ H2 _ I2 q2) fun fv s3 ⟨z, H3, I3, rz, ov, g, q3⟩ => Calls.spliced_nil ?_))))
  exact d_get2 hu I3 g ry rz fun w' s4 I4 rw' => ⟨_, H3, I4, rw', q3⟩
end
section
variable {X : Cx} {pins : List (Addr × Obj)} {σ : St} {H : Hp} {s : Shared} {a : Addr} {kvs : List (Key × V)} {A : Around} {E : Value → Shared → Prop}
end
section
variable {X : Cx} {pins : List (Addr × Obj)} {σ : St} {H : Hp} {s : Shared} {a : Addr} {y : V} {u : Value} {A : Around} {E : Value → Shared → Prop}
end
end L2
namespace Att
open PySem PySem.W PySem.Calls PyProof.Rows
theorem ints_of_wellAll {P : Params} {h : Heap} : ∀ (ns : List Int) (vs : List Value), WellAll P h vs (ns.map WData.int) → IntsAre vs ns := by
  intro ns
  induction ns with
  | nil =>
    intro vs w
    rw [List.map_nil] at w
    cases w
    exact .nil
  | cons n ns ih =>
    intro vs w
    rw [List.map_cons] at w
    cases w with
    | cons a b =>
      cases a
      exact .cons _ _ (ih _ b)
theorem script_of {l : OpenLaw} {n : Nat} (hn : l.most = some n) {P : Params} {h : Heap} {args : List WData} {vals : List Value}
    (hpre : l.row.toRowW.claim.pre args = true) (hwl : WellAll P h vals args) :
    ∃ a vs ns, vals = [Value.ref a] ∧ args = [WData.list (ns.map WData.int)] ∧ h.get? a = some { cls := .type "list", data := .seq vs.toArray } ∧ IntsAre vs ns ∧ ns.length ≤ n := by
  have hsh : WShape.hasAll [] args [.list .int] = true := (pre_splitW hpre).1
  have hc : l.pre.holds [] { args := args } = true := (pre_splitW hpre).2
  obtain ⟨d, r, rfl, h1, h2⟩ := hasAllW_cons hsh
  obtain rfl := hasAllW_nil h2
  obtain ⟨xs, rfl, h3⟩ := hasW_list h1
  obtain ⟨ns, rfl⟩ := items_int h3
  have hlen : ns.length ≤ n := by
    unfold OpenLaw.pre at hc
    have h4 : (WTm.not (.lt (.lit (.int (n : Int))) (.len (.arg 0)))).holds [] { args := [.list (ns.map .int)] } = true := by
      have h4 := (holds_andW hc).1
      rw [hn] at h4
      exact h4
    have h5 := condW_of h4 (w_not (w_lt w_lit (w_len_list (w_arg rfl))))
    rw [List.length_map] at h5
    refine Nat.le_of_not_lt fun q => ?_
    have q' : (n : Int) < ((ns.length : Nat) : Int) := by omega
    first
      | (rw [decide_eq_true q'] at h5; exact absurd h5 (by decide))
      | (simp at h5; omega)
  cases hwl with
  | cons w1 w2 =>
    cases w2
    cases w1 with
    | list ho hall => exact ⟨_, _, ns, rfl, rfl, ho, ints_of_wellAll ns _ hall, hlen⟩
theorem post_true (l : OpenLaw) (args : List WData) : l.row.toRowW.claim.post args (.bool true) args = true :=
  postW_of (r := l.row.toRowW) (X := (true == true))
    (show WShape.has [] (.bool true) .bool = true by first | rfl | decide | simp [WShape.has, WShape.arms, WShape.armsAll])
    (show (WTm.eq .res (.lit (.bool true))).value [] { args := args, res := some (.bool true), after := args } = some (.bool (true == true)) from w_eq_bool (w_res rfl) w_lit) rfl
/-- the same from a codeAny of the CALL (for a layer whose function contracts speak of calls) -/
theorem attach_call {l : OpenLaw} {n : Nat} {q : Program} {loose : List Str} {XP : (Str → Option Value) → Heap → Prop} {YP : World → Heap → Prop} {d : DefRec}
    (hn : l.most = some n) (hdf : d.params.defaults = [])
    (call : ∀ (w : World) (s₀ s₁ : Shared) (mg mb : Str → Option Value) (fa : Addr) (o : Obj) (pm cd doc : Value) (a : Addr) (vs : List Value) (ns : List Int),
      Ground q loose [] XP w s₀ mg mb s₁.heap → YP w s₁.heap →
      s₁.heap.get? fa = some o → o.data = .func (docDef d.name d.params d.body d.scope pm cd doc) → s₁.heap.CodeRec cd d.name → mg d.name = some (.ref fa) →
      s₁.heap.get? a = some { cls := .type "list", data := .seq vs.toArray } → IntsAre vs ns → ns.length ≤ n → s₁.gens = #[] →
      codeAny (model l.prog w) callerA (.call (.ref fa) ⟨[.ref a], []⟩) (fun r s' => r = .ok (.ret (.bool true)) ∧ OldK s₁.heap s'.heap ∧ s'.os = s₁.os ∧ AllBare s'.gens) s₁) :
    WalkO q loose XP YP l.row.toRowW d [] (fun f vs => PySem.call f vs) := by
  intro w s₀ s₁ mg mb G Y fa o pm cd doc dV kV ho hd hcd hD hmg hg args vals as hpre hlay hrd hwl hlo
  obtain rfl : dV = .none := Dflts.none hD hdf
  obtain rfl : kV = .none := Dflts.noKw hD
  obtain ⟨a, vs, ns, rfl, rfl, hobj, hints, hlen⟩ := script_of hn hpre hwl
  refine enter_call (codeAny_mono (call w s₀ s₁ mg mb fa o pm cd doc a vs ns G Y ho (fd_plain hd) hcd hmg hobj hints hlen hg) fun r s' hq => ?_)
  obtain ⟨rfl, h2, h3, h4⟩ := hq
  exact ⟨.inl ⟨.bool true, .bool true, [], rfl, fun _ => rfl, .bool true, post_true l _, fun _ => ⟨List.Pairwise.nil, fun _ hm => (nomatch hm)⟩⟩, h2, h3, h4⟩
section
variable {prog : Program} {w : World} {A : Around} {E : Value → Shared → Prop} {s : Shared} {K : Frag}
end
end Att
namespace L2
open PySem PySem.Spec PyProof.Rows
theorem vals_ints : ∀ {vs : List Value} {ns : List Int}, IntsAre vs ns → Vals (ns.map V.int) vs
  | _, _, .nil => .nil
  | _, _, .cons n t h => .cons ⟨t, rfl⟩ (vals_ints h)
/-- nothing is tracked but the script, known to the object (or it is an object of the module) -/
def Only (H : Hp) : Prop := ∀ b, H b = none ∨ ∃ o xs, H b = some (.frz o (.lst xs))
/-- THE HEAD: the law's promise, at the heap behind the top. F, the promise of the law's def, may use that base is part of the heap (so K.In base, base.Ns mainGlobals mg stand in Mod) -/
theorem law_call {P : Program} {w : World} {K : PySem.W.Frag} {mg mb : Str → Option Value} {CX : CXT} {k : Nat} {fa a : Addr} {fd : FuncData} {x : Str} {sp : Sp} {s₁ : Shared} {vs : List Value} {ns : List Int}
    (KX : K.In s₁.heap) (hns : s₁.heap.Ns mainGlobals mg) (hb : s₁.heap.Ns builtinsNs mb) (hbb : ∀ x : Str, x ≠ "__name__" → mb x = bootBuiltins x) (hlim : s₁.heap.NoLimit) (hg : s₁.gens = #[])
    (ha : s₁.heap.get? a = some { cls := .type "list", data := .seq vs.toArray }) (hi : IntsAre vs ns) (hl : ns.length ≤ sizeLine) (hr : Room k callerA)
    (F : ∀ base : Heap, K.In base → base.Ns mainGlobals mg → FnOk P w K mg base CX k fa fd [x] sp) (hbind : ∀ (s : Shared) (u : Value), BindsTo s fd ⟨[u], []⟩ [(x, u)])
    (hsp : ∀ H : Hp, Only H → SqL K H a (ns.map V.int) → sp [.ref a] H (fun v _ => v = .bl true) fun _ _ _ => False)
    (hCX : ∀ H e s', CX [] H s₁ (fun _ _ _ => False) e s' → False) :
    codeAny (model P w) callerA (.call (.ref fa) ⟨[.ref a], []⟩) (fun r s' => r = .ok (.ret (.bool true)) ∧ OldK s₁.heap s'.heap ∧ s'.os = s₁.os ∧ AllBare s'.gens) s₁ := by
  have rv := vals_ints hi
  have lenV := hi.length
  -- from an abstract heap in which nothing but the script may be tracked
  have core : ∀ H : Hp, Only H → SqL K H a (ns.map V.int) → HOk P w H s₁.heap → (∀ b, H b ≠ none → b = a) → (H a ≠ none → K.lookup a = none) →
      codeAny (model P w) callerA (.call (.ref fa) ⟨[.ref a], []⟩) (fun r s' => r = .ok (.ret (.bool true)) ∧ OldK s₁.heap s'.heap ∧ s'.os = s₁.os ∧ AllBare s'.gens) s₁ := by
    intro H hO hS hok hA hK
    have base_of : ∀ {b : Addr} {o : Obj}, s₁.heap.get? b = some o → H b = none → (hidT s₁.heap H).get? b = some o := fun e n => hidT_get e n
    have noA : ∀ {b : Addr} {o : Obj} {es : Array DictEntry} {ep : Nat}, s₁.heap.get? b = some o → o.data = .dict es ep → H b = none := fun {b o es ep} e d => by
      cases q : H b with
      | none => rfl
      | some u =>
        have e' : b = a := hA b (by rw [q]; simp)
        subst e'
        rw [ha] at e; cases e
        have d' : Data.seq vs.toArray _ = Data.dict es ep := d
        cases d'
    have nsK : ∀ {b : Addr} {m : Str → Option Value}, s₁.heap.Ns b m → (hidT s₁.heap H).Ns b m := fun {b m} ⟨o, es, ep, e, d, r⟩ => ⟨o, es, ep, base_of e (noA e d), d, r⟩
    have hKb : K.In (hidT s₁.heap H) := fun b o e => base_of (KX b o e) (by
      cases q : H b with
      | none => rfl
      | some u =>
        have e' : b = a := hA b (by rw [q]; simp)
        subst e'
        rw [hK (by rw [q]; simp)] at e; cases e)
    have hM : Mod K mg (hidT s₁.heap H) := ⟨hKb, nsK hns, ⟨mb, nsK hb, hbb⟩, let ⟨mc, h1, h2⟩ := hlim; ⟨mc, nsK h1, h2⟩⟩
    have e0 : Env0 P w K mg (hidT s₁.heap H) callerA [] s₁ H := ⟨rfl, hM, fun b o e => of_hidT e, Nat.le_of_eq (hidT_size _ _), trivial, fun b hb => absurd (show b ∈ ([] : List Addr) from hb) (by simp), hok, .of_eq hg⟩
    refine codeAny_mono ((F _ hKb (nsK hns)).run callerA [] s₁ H ⟨[.ref a], []⟩ [.ref a] [.ref a] _ _ hr e0 (hbind s₁ (.ref a)) (.cons rfl .nil) (hsp H hO hS)) fun r s' h => ?_
    cases r with
    | error e => exact (hCX H e s' h).elim
    | ok fl =>
      cases fl with
      | next => exact False.elim h
      | brk => exact False.elim h
      | cont => exact False.elim h
      | ret u =>
        obtain ⟨v, H', os, bare, un, hok', r', q⟩ := h
        have q' : v = .bl true := q
        subst q'
        obtain rfl : u = Value.bool true := r'
        refine ⟨rfl, OldK.of_keep fun b o e => ?_, os, bare⟩
        cases q : H b with
        | none => exact un.keep b o e q (by intro z; exact absurd (show b ∈ ([] : List Addr) from z) (by simp)) (by simp)
        | some u =>
          rcases hO b with z | ⟨ob, xs, z⟩
          · rw [q] at z; cases z
          · have z2 := un.frzs b ob _ z
            obtain ⟨e1, _⟩ := hok b _ z
            obtain ⟨e2, _⟩ := hok' b _ z2
            rw [e] at e1; cases e1
            exact e2
  cases hk : K.lookup a with
  | some o =>
    -- the script is one of the module's own objects
    have e := KX a o hk
    rw [ha] at e
    cases e
    refine core (fun _ => none) (fun _ => .inl rfl) (.inr ⟨_, vs.toArray, _, hk, rfl, rfl, rfl, by rw [List.size_toArray, lenV]; exact hl, by simpa using rv⟩) (fun b u z => by have z' : (none : Option HO) = some u := z; cases z') (fun b z => absurd rfl z) fun z => absurd rfl z
  | none =>
    refine core (fun b => if b = a then some (.frz { cls := .type "list", data := .seq vs.toArray } (.lst (ns.map V.int))) else none) (fun b => ?_) (.inl (.inr ⟨{ cls := .type "list", data := .seq vs.toArray }, if_pos rfl⟩)) (fun b u z => ?_) (fun b z => ?_) fun _ => hk
    · by_cases hb : b = a
      · exact .inr ⟨_, _, if_pos hb⟩
      · exact .inl (if_neg hb)
    · by_cases hb : b = a
      · have z' := (if_pos hb).symm.trans z
        cases z'
        subst hb
        exact ⟨ha, by rw [List.length_map]; exact hl, vs, _, rv, ha⟩
      · have z' := (if_neg hb).symm.trans z
        cases z'
    · by_cases hb : b = a
      · exact hb
      · exact absurd (if_neg hb) z
end L2
namespace L2
open PySem PySem.Spec PyProof.Rows
/-- the goal that k_head leaves (case hc), from the law's promise. F gives the function object fd (K's own) once, then the promise over every base -/
theorem walk_of {l : PySem.W.OpenLaw} {n k : Nat} {q : Program} {loose : List Str} {XP : (Str → Option Value) → Heap → Prop} {YP : World → Heap → Prop} {d : DefRec} {K : Params → PySem.W.Frag} {CX : World → CXT} {sp : World → Sp} {x : Str}
    (hn : l.most = some n) (hn2 : n ≤ sizeLine) (hdf : d.params.defaults = []) (hr : Room k callerA)
    (hY : ∀ (w : World) (h : Heap), YP w h → (K w.params).In h)
    (F : ∀ (w : World) (mg : Str → Option Value) (fa : Addr) (h : Heap), (K w.params).In h → h.Ns mainGlobals mg → mg d.name = some (.ref fa) →
      ∃ fd : FuncData, (∀ (s : Shared) (u : Value), BindsTo s fd ⟨[u], []⟩ [(x, u)]) ∧
        ∀ base : Heap, (K w.params).In base → base.Ns mainGlobals mg → FnOk l.prog w (K w.params) mg base (CX w) k fa fd [x] (sp w))
    (hsp : ∀ (w : World) (H : Hp) (a : Addr) (ns : List Int), ns.length ≤ n → Only H → SqL (K w.params) H a (ns.map V.int) → sp w [.ref a] H (fun v _ => v = .bl true) fun _ _ _ => False)
    (hCX : ∀ (w : World) (H : Hp) (s : Shared) (e : Value) (s' : Shared), CX w [] H s (fun _ _ _ => False) e s' → False) :
    PySem.W.WalkO q loose XP YP l.row.toRowW d [] (fun f vs => PySem.call f vs) := by
  refine Att.attach_call hn hdf fun w s₀ s₁ mg mb fa o pm cd doc a vs ns G Y ho hd hcd hmg hobj hints hlen hg => ?_
  have KX := hY w _ Y
  obtain ⟨fd, hb, hF⟩ := F w mg fa _ KX G.T.g hmg
  exact law_call KX G.T.g G.T.b G.T.builtins G.T.nolimit hg hobj hints (Nat.le_trans hlen hn2) hr hF hb (fun H hO hS => hsp w H a ns hlen hO hS) fun H e s' => hCX w H s₁ e s'
end L2
namespace L2
open PySem PySem.Spec PyProof.Rows
/-- the j-th statement of a class's body -/
def inClass (s : Stmt) (j : Nat) : Stmt := match s with
  | .ClassDef _ _ _ body _ _ _ _ _ _ _ => body.getD j (.Pass ⟨0, 0, 0, 0⟩)
  | _ => .Pass ⟨0, 0, 0, 0⟩
def defArgs (s : Stmt) : Arguments := match s with
  | .FunctionDef _ a _ _ _ _ _ _ _ _ => a
  | _ => { posonlyargs := [], args := [], vararg := none, kwonlyargs := [], kw_defaults := [], kwarg := none, defaults := [] }
def defBody (s : Stmt) : List Stmt := match s with
  | .FunctionDef _ _ b _ _ _ _ _ _ _ => b
  | _ => []
def defScope (s : Stmt) : Scope := match s with
  | .FunctionDef _ _ _ _ _ _ sc _ _ _ => sc
  | _ => { kind := .function, names := [], isGenerator := false, isCoroutine := false }
abbrev CX0 : CXT := fun _ _ _ _ _ _ => False
abbrev E0 : XK := fun _ _ _ => False
theorem pass0 {X : Cx} : Passes CX0 X E0 := fun _ _ _ _ _ _ _ h => h.elim
structure Fun (K : PySem.W.Frag) (x qual : Str) (st : Stmt) (f : Addr) (fd : FuncData) : Prop where
  ex : ∃ (oc : Value) (od : Option Addr) (kV doc pm : Value) (an : Option Addr) (cdv ct : Value) (osl : Array (Option Value)),
    fd = PySem.W.fnOf x qual (defArgs st) (defBody st) (defScope st) .none kV doc pm an cdv ct ∧ K.lookup f = some ⟨oc, od, .func fd, osl⟩ ∧ PySem.W.codeIn K cdv qual = true
  kp : PySem.W.keepIn K (.ref f) = true
section
variable {P : Program} {w : World} {K : PySem.W.Frag} {mg : Str → Option Value} {base : Heap}
/-- THE RULE for a def: its body as a term of rules, and the reading of that term -/
theorem Fun.ok {x qual : Str} {st : Stmt} {f : Addr} {fd : FuncData} {N ps : List Str} {k : Nat} {sp : Sp} (F : Fun K x qual st f fd) (S : FnScope N ps (defScope st)) (len : ∀ vs H Q E, sp vs H Q E → vs.length = ps.length)
    (hbody : ∀ (cdv : Value) (A : Around) (outer : List Env) (s : Shared) (H : Hp) (vs : List V) (Q : VK) (E : XK), Room k (A.deeper (envOfC qual (defScope st) s.heap.objs.size f cdv)) → sp vs H Q E →
      ∃ t, PSs (cxOf CX0 P w K mg base N qual (defScope st) f cdv A outer s H E).nox (defBody st) t ∧ t { nx := fun _ H' => Q .non H', rt := Q } (start N vs) H) : FnOk P w K mg base CX0 (k + 1) f fd ps sp := by
  obtain ⟨oc, od, kV, doc, pm, an, cdv, ct, osl, rfl, lk, hcd⟩ := F.ex
  refine fn_of lk hcd S len fun A outer s H vs Q E hr hsp => ?_
  obtain ⟨t, h, q⟩ := hbody cdv A outer s H vs Q E hr hsp
  exact ⟨t, h.nox, q⟩
/-- how its arguments bind (no defaults): h is «fun _ _ _ _ _ _ us hl => match us, hl with | [_, _], _ => rfl», one _ a parameter -/
theorem Fun.binds {x qual : Str} {st : Stmt} {f : Addr} {fd : FuncData} {ps : List Str} (F : Fun K x qual st f fd)
    (h : ∀ (kV doc pm : Value) (an : Option Addr) (cdv ct : Value) (us : List Value), us.length = ps.length → bindArgs (PySem.W.fnOf x qual (defArgs st) (defBody st) (defScope st) .none kV doc pm an cdv ct) ⟨us, []⟩ = pure (ps.zip us)) : Binds K fd ps [] := by
  obtain ⟨oc, od, kV, doc, pm, an, cdv, ct, osl, rfl, lk, hcd⟩ := F.ex
  exact .all (h kV doc pm an cdv ct)
theorem fun_mk {x qual : Str} {st : Stmt} {f : Addr} {oc : Value} {od an : Option Addr} {osl : Array (Option Value)} {kV doc pm cdv ct : Value} (l : K.lookup f = some ⟨oc, od, .func (PySem.W.fnOf x qual (defArgs st) (defBody st) (defScope st) .none kV doc pm an cdv ct), osl⟩)
    (c : PySem.W.codeIn K cdv qual = true) (k : PySem.W.keepIn K (.ref f) = true) : Fun K x qual st f (PySem.W.fnOf x qual (defArgs st) (defBody st) (defScope st) .none kV doc pm an cdv ct) := ⟨⟨oc, od, kV, doc, pm, an, cdv, ct, osl, rfl, l, c⟩, k⟩
end
theorem hu_of {A : Around} {k : Nat} (hr : Room k A) : A.units + 1 < cLine := Nat.lt_of_le_of_lt (Nat.add_le_add_left (by decide : 1 ≤ 64) _) hr.units
theorem small1000 {n : Nat} (h : n ≤ 1000) : n < sizeLine := Nat.lt_of_le_of_lt h (by decide)
section
variable {X : Cx}
theorem pv (i : Nat) {x : Str} {pos : Pos} (hN : X.N[i]? = some x := by rfl) (hv : Vis X.env.scope x := by first | exact Or.inl rfl | exact Or.inr (Or.inl rfl) | exact Or.inr (Or.inr rfl)) (hd : (x == ("__debug__" : Str)) = false := by decide)
    (hcd : (x == ("__classdict__" : Str)) = false := by decide) : PE X (.Name x pos) (tVar i) := pe_var hN hv hd hcd
end
theorem iteF {A B : Prop} (h : B) : if false = true then A else B := by
  rw [if_neg Bool.false_ne_true]
  exact h
theorem iteT {A B : Prop} (h : A) : if true = true then A else B := by
  rw [if_pos rfl]
  exact h
/-- all that was tracked is as it was -/
def Same (H H' : Hp) : Prop := ∀ b o, H b = some o → H' b = some o
theorem Same.refl (H : Hp) : Same H H := fun _ _ h => h
theorem Same.trans {H H1 H2 : Hp} (a : Same H H1) (b : Same H1 H2) : Same H H2 := fun c o h => b c o (a c o h)
theorem Same.free {H H' : Hp} (e : Same H H') {l : Addr} (h : H' l = Option.none) : H l = Option.none := by
  cases q : H l with
  | none => rfl
  | some o =>
    rw [e l o q] at h
    cases h
theorem Same.seq {K : PySem.W.Frag} {H H' : Hp} {a : Addr} {xs : List V} (e : Same H H') (h : SqL K H a xs) : SqL K H' a xs := by
  rcases h with (h | ⟨o, h⟩) | h
  · exact .inl (.inl (e _ _ h))
  · exact .inl (.inr ⟨o, e _ _ h⟩)
  · exact .inr h
section
variable {κ : Type} [DecidableEq κ]
end
end L2
set_option Elab.async false
set_option linter.all false
set_option maxRecDepth 100000
namespace L2
open PySem PySem.Spec PyProof.Rows
theorem drawsStr {prog : Program} {w : World} {A : Around} (hh : A.handled = none) (it : Addr) (x : Str) (t : Tok) :
    Draws prog w A it [it] x.cps.size (fun i v => ∃ c u, x.cps[i]? = some c ∧ v = .str ⟨#[c]⟩ u) (fun i h => h.IsStrIter it (strIterType x) x t i) := by
  cases ha : x.cps.all (· < 128)
  · have e : strIterType x = "str_iterator" := by simp [strIterType, ha]
    rw [e]; exact Draws.strWide hh it x t
  · have e : strIterType x = "str_ascii_iterator" := by simp [strIterType, ha]
    rw [e]; exact Draws.strAscii hh it x t
theorem next_str {prog : Program} {w : World} {A : Around} {E : Value → Shared → Prop} {s : Shared} {it : Addr} {x : Str} {t : Tok} {i c : Nat} {Q : Option Value → Shared → Prop} (hit : s.heap.IsStrIter it (strIterType x) x t i) (hx : x.cps[i]? = some c)
    (hQ : ∀ h', h'.IsStrIter it (strIterType x) x t (i + 1) → Heap.SameBut it s.heap h' → Q (some (.str ⟨#[c]⟩ s.toks)) { s with heap := h', toks := s.toks + 1 }) :
    wpAny (model prog w) A (pyNext (.ref it)) Q E s := by
  cases ha : x.cps.all (· < 128)
  · have e : strIterType x = "str_iterator" := by simp [strIterType, ha]
    rw [e] at hit hQ; exact wpAny_pyNext_wide_item hit hx hQ
  · have e : strIterType x = "str_ascii_iterator" := by simp [strIterType, ha]
    rw [e] at hit hQ; exact wpAny_pyNext_ascii_item hit hx hQ
theorem next_str_end {prog : Program} {w : World} {A : Around} {E : Value → Shared → Prop} {s : Shared} {it : Addr} {x : Str} {t : Tok} {i : Nat} {Q : Option Value → Shared → Prop} (hh : A.handled = none) (hit : s.heap.IsStrIter it (strIterType x) x t i) (hx : x.cps[i]? = none)
    (hQ : ∀ h', Heap.ExtBut it s.heap h' → Q none { s with heap := h' }) : wpAny (model prog w) A (pyNext (.ref it)) Q E s := by
  cases ha : x.cps.all (· < 128)
  · have e : strIterType x = "str_iterator" := by simp [strIterType, ha]
    rw [e] at hit; exact wpAny_pyNext_wide_end hh hit hx hQ
  · have e : strIterType x = "str_ascii_iterator" := by simp [strIterType, ha]
    rw [e] at hit; exact wpAny_pyNext_ascii_end hh hit hx hQ
theorem iter_striter {prog : Program} {w : World} {A : Around} {E : Value → Shared → Prop} {s : Shared} {it : Addr} {x : Str} {t : Tok} {i : Nat} {Q : Value → Shared → Prop} (hit : s.heap.IsStrIter it (strIterType x) x t i) (h : Q (.ref it) s) :
    wpAny (model prog w) A (pyIter (.ref it)) Q E s := by
  cases ha : x.cps.all (· < 128)
  · have e : strIterType x = "str_iterator" := by simp [strIterType, ha]
    rw [e] at hit; exact wpAny_pyIter_striter_wide hit h
  · have e : strIterType x = "str_ascii_iterator" := by simp [strIterType, ha]
    rw [e] at hit; exact wpAny_pyIter_striter_ascii hit h
/-- the signs of a text, one by one -/
def Its (x : Str) : It := ⟨fun i _ => i < x.cps.size, fun i H v H' => H' = H ∧ ∃ c, x.cps[i]? = some c ∧ v = .str ⟨#[c]⟩, fun i _ => x.cps.size ≤ i⟩
theorem strIterNo (x : Str) : ["enumerate", "zip", "dict_itemiterator", "dict_reverseitemiterator", "odict_iterator", "itertools.zip_longest", "itertools.pairwise"].contains (strIterType x) = false := by
  unfold strIterType
  split <;> decide
theorem turn_str {P : Program} {w : World} {K : PySem.W.Frag} {tg : Expr} (x : Str) (t : Tok) (it : Addr) : Turn P w K tg (Its x) [it] it (fun i h => h.IsStrIter it (strIterType x) x t i) where
  mem := by simp
  obj := fun i h st b hb => by
    have e : b = it := by simpa using hb
    subst e
    obtain ⟨o, e, c, d⟩ := st
    exact ⟨o, e, fun v z => by rw [d] at z; cases z⟩
  keep := fun i h h' st k => by
    obtain ⟨o, e, r⟩ := st
    exact ⟨o, k it (by simp) o e, r⟩
  item := by
    intro X hP hw hK hc i pins s σ H E I hf st hg
    subst hP hw hK
    have hi : i < x.cps.size := hg
    obtain ⟨f0, f1, f2, f3, f4, f5⟩ := hf it (by simp)
    refine next_str st (c := x.cps[i]) (by simp [hi]) fun h' st' sb => ?_
    have I1 : Inv X pins σ H { s with heap := h', toks := s.toks + 1 } := I.turned (fun b o hb e => (sb.2 b hb).trans e) f0 f1 f3 f4 f5
    obtain ⟨o, e, c, d⟩ := id st'
    exact ⟨_, rfl, go_of (s := { s with heap := h', toks := s.toks + 1 }) e c d (strIterNo x) ⟨.str ⟨#[x.cps[i]]⟩, H, I1, ⟨_, rfl⟩, ⟨rfl, _, by simp [hi], rfl⟩, st', fun b hb => (hf b hb).1⟩⟩
  done := by
    intro X hP hw hK hc i pins s σ H E I hf st hg
    subst hP hw hK
    have hi : x.cps.size ≤ i := hg
    obtain ⟨f0, f1, f2, f3, f4, f5⟩ := hf it (by simp)
    exact next_str_end (I.ok.hd hc) st (by simpa using hi) fun h' eb => ⟨rfl, I.turned (t' := s.toks) (fun b o hb e => eb b o hb e) f0 f1 f3 f4 f5⟩
  self := fun _ _ _ _ _ st h => iter_striter st h
/-- records at ch have turned, a new object is laid -/
theorem Inv.turnNew {X : Cx} {pins : List (Addr × Obj)} {σ : St} {H : Hp} {s : Shared} {h' : Heap} {ch : List Addr} {T : Addr} {o : HO} {t' : Nat} (I : Inv X pins σ H s) (k : ∀ b o, b ∉ ch → s.heap.get? b = some o → h'.get? b = some o)
    (hf : ∀ b ∈ ch, FpOk X pins H b) (hl : ∀ b ∈ ch, ∃ o, s.heap.get? b = some o) (hT : s.heap.objs.size ≤ T) (new : ObjOk X.prog X.w (upd H T o) h' T o) : Inv X pins σ (upd H T o) { s with heap := h', toks := t' } := by
  have hn := I.hok.fresh hT
  have nit : ∀ b u, H b = some u → b ∉ ch := fun b u e z => by rw [(hf b z).1] at e; cases e
  have neT : ∀ b o, s.heap.get? b = some o → b ≠ T := fun b o e => Nat.ne_of_lt (Nat.lt_of_lt_of_le (Heap.lt_size e) hT)
  refine I.step (g' := s.gens) (d' := s.drawn) (ch := ch) (fun b hb => ?_) (fun b o _ _ hc e _ => k b o hc e) (fun b o _ _ hc e _ => ⟨o.slots, k b o hc e⟩) (fun b o _ e n => by rw [upd_ne (neT b o e)]; exact n)
    (fun b o hc e => ⟨o, k b o hc e⟩) (fun b xs e => by rw [upd_ne (ne_of_none e hn)]; exact e) (fun b o u e => by rw [upd_ne (ne_of_none e hn)]; exact e) (fun b ps e => ⟨#[], by rw [upd_ne (ne_of_none e hn), e]; simp⟩) (fun m hm => ?_) (fun b u e => ?_) I.bare
  · obtain ⟨f0, f1, f2, f3, f4, f5⟩ := hf b hb
    exact ⟨f3, f1, f4, f5⟩
  · obtain ⟨o, es, ep, ho, r⟩ := hm
    exact ⟨o, es, ep, k _ o (fun z => (hf _ z).2.1 rfl) ho, r⟩
  · by_cases hb : b = T
    · subst hb; rw [upd_same] at e; cases e; exact new
    · rw [upd_ne hb] at e
      refine (I.hok b u e).stay (fun c v hc q => k c v ?_ q) (fun c q => by rw [upd_ne (ne_of_none q hn)]; exact q) fun c xs q => by rw [upd_ne (ne_of_none q hn)]; exact q
      rcases hc with z | z
      · rw [z]; exact nit b u e
      · exact nit c _ z
/-- pairs (place, item) of a walk that leaves the heap as it is -/
def Ite (J : It) : It := ⟨J.go, fun i H v H' => ∃ y p, J.yld i H y H ∧ H p = none ∧ v = .ref p ∧ H' = upd H p (.tup [.int i, y]), J.stop⟩
/-- behind an item of enumerate -/
theorem enum_out {X : Cx} {pins : List (Addr × Obj)} {σ : St} {H : Hp} {s : Shared} {h' : Heap} {tk : Nat} {e it : Addr} {es : List Expr} {k1} {tp : Pos} {y : V} {u : Value} {i : Nat} {tn : Nat → Heap → Prop} {E : Value → Shared → Prop} {J : It} {ti : Tok} {old : Value}
    (I : Inv X pins σ H s) (hf : ∀ b ∈ [e, it], FpOk X pins H b) (he0 : ∃ old, IsEnum s.heap e it i old) (hit0 : ∃ o, s.heap.get? it = some o) (he : IsEnumOut h' e it ((i : Int) + 1) old s.heap.objs.size) (ht : tn (i + 1) h')
    (tkeep : ∀ h1 h2, tn (i + 1) h1 → (∀ o, h1.get? it = some o → h2.get? it = some o) → tn (i + 1) h2) (hne : e ≠ it)
    (htup : h'.get? s.heap.objs.size = some { cls := .type "tuple", data := .seq #[.int i ti, u] }) (hk : ∀ b o, b ≠ e → b ≠ it → s.heap.get? b = some o → h'.get? b = some o) (ru : RelV y u) (hy : J.yld i H y H) :
    wpAny (model X.prog X.w) X.A (letOwnedTupleGo (.Tuple es k1 tp) (.ref e) (.ref s.heap.objs.size)) (fun _ s2 => ∃ x H', Inv X pins σ H' s2 ∧ RelV x (.ref s.heap.objs.size) ∧ (Ite J).yld i H x H' ∧ ((∃ old, IsEnum s2.heap e it ((i + 1 : Nat) : Int) old) ∧ tn (i + 1) s2.heap) ∧ ∀ b ∈ [e, it], H' b = none) E { s with heap := h', toks := tk } := by
  refine wpAny_letOwnedTupleGo_enum (s := { s with heap := h', toks := tk }) he fun h2 he2 sb => ?_
  obtain ⟨oe, hoe⟩ : ∃ o, s.heap.get? e = some o := let ⟨_, q⟩ := he0; ⟨_, q⟩
  obtain ⟨oi, hoi⟩ := hit0
  have hel : e ≠ s.heap.objs.size := Nat.ne_of_lt (Heap.lt_size hoe)
  have hil : it ≠ s.heap.objs.size := Nat.ne_of_lt (Heap.lt_size hoi)
  have hn := I.hok.fresh (Nat.le_refl s.heap.objs.size)
  have ht2 : h2.get? s.heap.objs.size = some { cls := .type "tuple", data := .seq #[.int i ti, u] } := (sb.2 _ (Ne.symm hel)).trans htup
  refine ⟨.ref s.heap.objs.size, upd H s.heap.objs.size (.tup [.int i, y]), ?_, rfl, ⟨y, _, hy, hn, rfl, rfl⟩, ⟨⟨_, he2⟩, tkeep h' h2 ht fun o q => (sb.2 _ (Ne.symm hne)).trans q⟩, fun b hb => ?_⟩
  · refine I.turnNew (ch := [e, it]) (fun b o hb q => ?_) hf (fun b hb => ?_) (Nat.le_refl _) ?_
    · have hbe : b ≠ e := fun z => hb (by simp [z])
      have hbi : b ≠ it := fun z => hb (by simp [z])
      exact (sb.2 b hbe).trans (hk b o hbe hbi q)
    · rcases List.mem_cons.mp hb with z | z
      · exact ⟨oe, by rw [z]; exact hoe⟩
      · have z' : b = it := by simpa using z
        exact ⟨oi, by rw [z']; exact hoi⟩
    · exact ⟨by show 2 ≤ sizeLine; decide, [.int i ti, u], .cons ⟨_, rfl⟩ (.cons ru .nil), ⟨_, ht2, rfl, _, rfl⟩⟩
  · rcases List.mem_cons.mp hb with z | z
    · rw [upd_ne (by rw [z]; exact hel)]; exact (hf b hb).1
    · have z' : b = it := by simpa using z
      rw [upd_ne (by rw [z']; exact hil)]; exact (hf b hb).1
theorem turn_enumL {P : Program} {w : World} {K : PySem.W.Frag} {es : List Expr} {k1} {tp : Pos} (a e it : Addr) (hne : e ≠ it) :
    Turn P w K (.Tuple es k1 tp) (Ite (Itl K a)) [e, it] e (fun i h => (∃ old, IsEnum h e it (i : Int) old) ∧ h.IsListIter it a i) where
  mem := by simp
  obj := fun i h st b hb => by
    obtain ⟨⟨old, q⟩, o, q2, c, d⟩ := st
    rcases List.mem_cons.mp hb with z | z
    · subst z
      exact ⟨_, q, fun v z => by cases z⟩
    · have z' : b = it := by simpa using z
      subst z'
      exact ⟨o, q2, fun v z => by rw [d] at z; cases z⟩
  keep := fun i h h' st k => by
    obtain ⟨⟨old, q⟩, q2⟩ := st
    exact ⟨⟨old, k e (by simp) _ q⟩, q2.at fun o e => k it (by simp) o e⟩
  item := by
    intro X hP hw hK hc i pins s σ H E I hf st hg
    subst hP hw hK
    obtain ⟨⟨old, he⟩, hit⟩ := st
    obtain ⟨xs, x, hq, hx⟩ := hg
    obtain ⟨its, rv, p, hz⟩ := I.list hq
    obtain ⟨u, hu, ru⟩ := rv.get hx
    refine wpAny_pyNext_enum_item he hit p.isList (x := u) (by simpa using hu) hne fun h' he' hit' ht hsz hk => ?_
    refine ⟨_, rfl, enum_out (tn := fun i h => h.IsListIter it a i) (J := Itl X.K a) I hf ⟨_, he⟩ (let ⟨o, q, _⟩ := hit; ⟨o, q⟩) he' hit' (fun h1 h2 q k => q.at k) hne ht hk ru ⟨rfl, fun ys hy => by rw [I.list_inj hy hq]; exact hx⟩⟩
  done := by
    intro X hP hw hK hc i pins s σ H E I hf st hg
    subst hP hw hK
    obtain ⟨⟨old, he⟩, hit⟩ := st
    obtain ⟨xs, hq, hx⟩ := hg
    obtain ⟨its, rv, p, hz⟩ := I.list hq
    obtain ⟨f0, f1, f2, f3, f4, f5⟩ := hf it (by simp)
    have hl := rv.length
    exact wpAny_pyNext_enum_end (I.ok.hd hc) he hit p.isList (by simp; omega) fun h' eb => ⟨rfl, I.turned (t' := s.toks) (fun b o hb e => eb b o hb e) f0 f1 f3 f4 f5⟩
  self := fun _ _ _ _ _ st h => let ⟨⟨_, q⟩, _⟩ := st; wpAny_pyIter_enum q h
theorem turn_enumS {P : Program} {w : World} {K : PySem.W.Frag} {es : List Expr} {k1} {tp : Pos} (z : Str) (t : Tok) (e it : Addr) (hne : e ≠ it) :
    Turn P w K (.Tuple es k1 tp) (Ite (Its z)) [e, it] e (fun i h => (∃ old, IsEnum h e it (i : Int) old) ∧ h.IsStrIter it (strIterType z) z t i) where
  mem := by simp
  obj := fun i h st b hb => by
    obtain ⟨⟨old, q⟩, o, q2, c, d⟩ := st
    rcases List.mem_cons.mp hb with z | z
    · subst z
      exact ⟨_, q, fun v z => by cases z⟩
    · have z' : b = it := by simpa using z
      subst z'
      exact ⟨o, q2, fun v z => by rw [d] at z; cases z⟩
  keep := fun i h h' st k => by
    obtain ⟨⟨old, q⟩, o, q2, r⟩ := st
    exact ⟨⟨old, k e (by simp) _ q⟩, o, k it (by simp) _ q2, r⟩
  item := by
    intro X hP hw hK hc i pins s σ H E I hf st hg
    subst hP hw hK
    obtain ⟨⟨old, he⟩, hit⟩ := st
    have hi : i < z.cps.size := hg
    have D := drawsStr (prog := X.prog) (w := X.w) (A := X.A.in1) (I.ok.hd hc) it z t
    refine wpAny_pyNext_enum_itemD D he hit hi hne (by simpa using hne) fun x h' tk hP he' hit' ht hsz hk => ?_
    obtain ⟨c, u, hx, rfl⟩ := hP
    refine ⟨_, rfl, enum_out (tn := fun i h => h.IsStrIter it (strIterType z) z t i) (J := Its z) (y := .str ⟨#[c]⟩) I hf ⟨_, he⟩ (let ⟨o, q, _⟩ := hit; ⟨o, q⟩) he' hit' (fun h1 h2 q k => let ⟨o, q, r⟩ := q; ⟨o, k o q, r⟩) hne ht hk ⟨_, rfl⟩ ⟨rfl, c, hx, rfl⟩⟩
  done := by
    intro X hP hw hK hc i pins s σ H E I hf st hg
    subst hP hw hK
    obtain ⟨⟨old, he⟩, hit⟩ := st
    have hi : z.cps.size ≤ i := hg
    obtain ⟨f0, f1, f2, f3, f4, f5⟩ := hf it (by simp)
    have D := drawsStr (prog := X.prog) (w := X.w) (A := X.A.in1) (I.ok.hd hc) it z t
    by_cases q : i = z.cps.size
    · subst q
      exact wpAny_pyNext_enum_endD D he hit fun h' eb => ⟨rfl, I.turned (t' := s.toks) (fun b o hb e => eb b o hb e) f0 f1 f3 f4 f5⟩
    · have hT : s.TypeIs (.ref e) "enumerate" := ⟨_, he, rfl⟩
      have hh := I.ok.hd hc
      unfold pyNext
      refine wpAny_bind (wpAny_attempt (wpAny_callSpecial?_slot (name := Str.ofString "__next__") hT F.slot_enumerate_next
        (wpAny_call_entry F.slot_enumerate_next hT F.entry_enumerate_next ?_ (F.args_enumerate_next_1 _))))
      show wpAny _ _ (field (.ref e) 2 >>= _) _ _ _
      refine wpAny_bind (wpAny_field he rfl (x := .ref it) rfl ?_)
      cases ha : z.cps.all (· < 128)
      · have e1 : strIterType z = "str_iterator" := by simp [strIterType, ha]
        rw [e1] at hit
        refine wpAny_bind (wpAny_nextOf_wide_end hh hit (by simpa using hi) fun h' x eb ⟨o, ho, hc⟩ => ?_)
        exact wpAny_bind (wpAny_isInstance (T := "StopIteration") (b := true) ⟨o, ho, hc⟩ isSubtype_stop (wpAny_pure ⟨rfl, I.turned (t' := s.toks) (fun b o hb e => eb b o hb e) f0 f1 f3 f4 f5⟩))
      · have e1 : strIterType z = "str_ascii_iterator" := by simp [strIterType, ha]
        rw [e1] at hit
        refine wpAny_bind (wpAny_nextOf_ascii_end hh hit (by simpa using hi) fun h' x eb ⟨o, ho, hc⟩ => ?_)
        exact wpAny_bind (wpAny_isInstance (T := "StopIteration") (b := true) ⟨o, ho, hc⟩ isSubtype_stop (wpAny_pure ⟨rfl, I.turned (t' := s.toks) (fun b o hb e => eb b o hb e) f0 f1 f3 f4 f5⟩))
  self := fun _ _ _ _ _ st h => let ⟨⟨_, q⟩, _⟩ := st; wpAny_pyIter_enum q h
section
variable {X : Cx} {tg : Expr}
/-- for c in text -/
def iStr (tl : TE) : TI := fun σ H R => tl σ H fun x H1 => ∃ z, x = .str z ∧ R (Its z) H1
theorem pi_str {l : Expr} {tl : TE} (hl : PE X l tl) : PI X tg l (iStr tl) := by
  intro pins s σ H R I h
  refine thn (hl pins s σ H _ I h) fun v s1 ⟨x, H1, I1, r1, q1⟩ => ?_
  obtain ⟨z, e, q⟩ := q1
  subst e
  obtain ⟨t, rfl⟩ := r1
  refine wpAny_pyIter_strU ?_
  refine ⟨s1.heap.objs.size, [s1.heap.objs.size], _, _, H1, rfl, I1.kept (t' := s1.toks) fun b o e => Heap.get?_push_of_some _ e, turn_str z t _, ⟨_, Heap.get?_push_size _ rfl, rfl, rfl⟩, fun b hb => ?_, q⟩
  have e : b = s1.heap.objs.size := by simpa using hb
  subst e
  exact I1.fpOk (Nat.le_refl _) (I1.hok.fresh (Nat.le_refl _))
/-- for i, c in enumerate(text) -/
def iEnumS (ta : TA) : TI := fun σ H R => ta σ H fun vs H1 => ∃ z, vs = [.str z] ∧ R (Ite (Its z)) H1
def iEnumL (K : PySem.W.Frag) (ta : TA) : TI := fun σ H R => ta σ H fun vs H1 => ∃ a, vs = [.ref a] ∧ (∃ xs, SqL K H1 a xs) ∧ R (Ite (Itl K a)) H1
theorem pi_enumS {a : Expr} {ta : TA} {p pos tp : Pos} {es : List Expr} {k1} (hg : Gl X "enumerate") (hm : X.mg "enumerate" = none) (ha : PA X [a] ta) (hs : starEach [a] X.env = [(false, eval a X.env)] := by rfl) :
    PI X (.Tuple es k1 tp) (.Call (.Name "enumerate" p) [a] [] pos) (iEnumS ta) := by
  intro pins s σ H R I h
  refine Call_ (ld_blt I hg hm boot_enumerate (PyProof.Rows.callWith_type1 (thn (ha pos pins s σ H _ I h) fun us s1 ⟨vs, H1, I1, r1, q1⟩ => ?_) hs rfl))
  obtain ⟨z, e, q⟩ := q1
  subst e
  obtain ⟨u, rfl, ru⟩ := vals1 r1
  obtain ⟨t, rfl⟩ := ru
  refine call_enumerate_str fun h' he hit hsz hk => ?_
  refine wpAny_pyIter_enum (s := { s1 with heap := h' }) he ?_
  have I2 : Inv X pins σ H1 { s1 with heap := h' } := I1.kept (t' := s1.toks) hk
  refine ⟨s1.heap.objs.size + 1, [s1.heap.objs.size + 1, s1.heap.objs.size], _, _, H1, rfl, I2, turn_enumS z t _ _ (Nat.succ_ne_self _), ⟨⟨_, he⟩, hit⟩, fun b hb => ?_, q⟩
  have hb' : s1.heap.objs.size ≤ b := by
    rcases List.mem_cons.mp hb with z | z
    · exact z ▸ Nat.le_succ _
    · have z' : b = s1.heap.objs.size := by simpa using z
      exact z' ▸ Nat.le_refl _
  exact I1.fpOk hb' (I1.hok.fresh hb')
theorem pi_enumL {a : Expr} {ta : TA} {p pos tp : Pos} {es : List Expr} {k1} (hg : Gl X "enumerate") (hm : X.mg "enumerate" = none) (ha : PA X [a] ta) (hs : starEach [a] X.env = [(false, eval a X.env)] := by rfl) :
    PI X (.Tuple es k1 tp) (.Call (.Name "enumerate" p) [a] [] pos) (iEnumL X.K ta) := by
  intro pins s σ H R I h
  refine Call_ (ld_blt I hg hm boot_enumerate (PyProof.Rows.callWith_type1 (thn (ha pos pins s σ H _ I h) fun us s1 ⟨vs, H1, I1, r1, q1⟩ => ?_) hs rfl))
  obtain ⟨l, e, ⟨xs, hq⟩, q⟩ := q1
  subst e
  obtain ⟨u, rfl, ru⟩ := vals1 r1
  cases ru
  obtain ⟨its, rv, pl, hz⟩ := I1.list hq
  refine call_enumerate_list pl.isList fun h' he hit hsz hk => ?_
  refine wpAny_pyIter_enum (s := { s1 with heap := h' }) he ?_
  have I2 : Inv X pins σ H1 { s1 with heap := h' } := I1.kept (t' := s1.toks) hk
  refine ⟨s1.heap.objs.size + 1, [s1.heap.objs.size + 1, s1.heap.objs.size], _, _, H1, rfl, I2, turn_enumL l _ _ (Nat.succ_ne_self _), ⟨⟨_, he⟩, hit⟩, fun b hb => ?_, q⟩
  have hb' : s1.heap.objs.size ≤ b := by
    rcases List.mem_cons.mp hb with z | z
    · exact z ▸ Nat.le_succ _
    · have z' : b = s1.heap.objs.size := by simpa using z
      exact z' ▸ Nat.le_refl _
  exact I1.fpOk hb' (I1.hok.fresh hb')
end
theorem for_str {z : Str} {g : TG} {tb : TS} {D : Ends} {σ : St} {H : Hp} (Pv : Nat → St → Hp → Prop) (h0 : Pv 0 σ H)
    (hs : ∀ i c σ H, z.cps[i]? = some c → Pv i σ H → g (.str ⟨#[c]⟩) σ H fun σ2 H2 => tb { D with nx := Pv (i + 1), ct := Pv (i + 1), bk := D.nx } σ2 H2) (hd : ∀ σ H, Pv z.cps.size σ H → D.nx σ H) :
    ∃ W : Nat → Nat → St → Hp → Prop, (∃ m, W 0 m σ H) ∧ ∀ i m σ H, W i m σ H →
      ((Its z).stop i H ∧ D.nx σ H) ∨ ((Its z).go i H ∧ ∃ N : St → Hp → Prop, (∀ σ' H', N σ' H' → ∃ m', m' < m ∧ W (i + 1) m' σ' H') ∧ ∀ x H', (Its z).yld i H x H' → g x σ H' fun σ2 H2 => tb { D with nx := N, ct := N, bk := D.nx } σ2 H2) := by
  refine ⟨fun i m σ H => m = z.cps.size - i ∧ i ≤ z.cps.size ∧ Pv i σ H, ⟨z.cps.size, by simp, Nat.zero_le _, h0⟩, ?_⟩
  rintro i m σ H ⟨rfl, hi, p⟩
  by_cases hlt : i < z.cps.size
  · refine .inr ⟨hlt, Pv (i + 1), fun σ' H' p' => ⟨z.cps.size - (i + 1), by omega, rfl, hlt, p'⟩, fun x H' y => ?_⟩
    obtain ⟨e, c, hc, rfl⟩ := y
    subst e
    exact hs i c σ _ hc p
  · have e : i = z.cps.size := by omega
    subst e
    exact .inl ⟨Nat.le_refl _, hd σ H p⟩
theorem for_enumS {z : Str} {g : TG} {tb : TS} {D : Ends} {σ : St} {H : Hp} (Pv : Nat → St → Hp → Prop) (h0 : Pv 0 σ H)
    (hs : ∀ i c σ H p, z.cps[i]? = some c → Pv i σ H → H p = none → g (.ref p) σ (upd H p (.tup [.int i, .str ⟨#[c]⟩])) fun σ2 H2 => tb { D with nx := Pv (i + 1), ct := Pv (i + 1), bk := D.nx } σ2 H2) (hd : ∀ σ H, Pv z.cps.size σ H → D.nx σ H) :
    ∃ W : Nat → Nat → St → Hp → Prop, (∃ m, W 0 m σ H) ∧ ∀ i m σ H, W i m σ H →
      ((Ite (Its z)).stop i H ∧ D.nx σ H) ∨ ((Ite (Its z)).go i H ∧ ∃ N : St → Hp → Prop, (∀ σ' H', N σ' H' → ∃ m', m' < m ∧ W (i + 1) m' σ' H') ∧ ∀ x H', (Ite (Its z)).yld i H x H' → g x σ H' fun σ2 H2 => tb { D with nx := N, ct := N, bk := D.nx } σ2 H2) := by
  refine ⟨fun i m σ H => m = z.cps.size - i ∧ i ≤ z.cps.size ∧ Pv i σ H, ⟨z.cps.size, by simp, Nat.zero_le _, h0⟩, ?_⟩
  rintro i m σ H ⟨rfl, hi, p⟩
  by_cases hlt : i < z.cps.size
  · refine .inr ⟨hlt, Pv (i + 1), fun σ' H' p' => ⟨z.cps.size - (i + 1), by omega, rfl, hlt, p'⟩, fun x H' y => ?_⟩
    obtain ⟨v, q, ⟨_, c, hc, rfl⟩, hq, rfl, rfl⟩ := y
    exact hs i c σ H q hc p hq
  · have e : i = z.cps.size := by omega
    subst e
    exact .inl ⟨Nat.le_refl _, hd σ H p⟩
theorem for_enumL {K : PySem.W.Frag} {a : Addr} {xs : List V} {g : TG} {tb : TS} {D : Ends} {σ : St} {H : Hp} (Pv : Nat → St → Hp → Prop) (h0 : Pv 0 σ H) (hl : ∀ i σ H, i ≤ xs.length → Pv i σ H → SqL K H a xs)
    (hs : ∀ i x σ H p, xs[i]? = some x → Pv i σ H → H p = none → g (.ref p) σ (upd H p (.tup [.int i, x])) fun σ2 H2 => tb { D with nx := Pv (i + 1), ct := Pv (i + 1), bk := D.nx } σ2 H2) (hd : ∀ σ H, Pv xs.length σ H → D.nx σ H) :
    ∃ W : Nat → Nat → St → Hp → Prop, (∃ m, W 0 m σ H) ∧ ∀ i m σ H, W i m σ H →
      ((Ite (Itl K a)).stop i H ∧ D.nx σ H) ∨ ((Ite (Itl K a)).go i H ∧ ∃ N : St → Hp → Prop, (∀ σ' H', N σ' H' → ∃ m', m' < m ∧ W (i + 1) m' σ' H') ∧ ∀ x H', (Ite (Itl K a)).yld i H x H' → g x σ H' fun σ2 H2 => tb { D with nx := N, ct := N, bk := D.nx } σ2 H2) := by
  refine ⟨fun i m σ H => m = xs.length - i ∧ i ≤ xs.length ∧ Pv i σ H, ⟨xs.length, by simp, Nat.zero_le _, h0⟩, ?_⟩
  rintro i m σ H ⟨rfl, hi, p⟩
  have q := hl i σ H hi p
  by_cases hlt : i < xs.length
  · refine .inr ⟨⟨xs, xs[i], q, by simp [hlt]⟩, Pv (i + 1), fun σ' H' p' => ⟨xs.length - (i + 1), by omega, rfl, hlt, p'⟩, fun x H' y => ?_⟩
    obtain ⟨v, r, ⟨_, hv⟩, hr, rfl, rfl⟩ := y
    exact hs i v σ H r (hv xs q) p hr
  · have e : i = xs.length := by omega
    subst e
    exact .inl ⟨⟨xs, q, Nat.le_refl _⟩, hd σ H p⟩
end L2
set_option Elab.async false
set_option linter.all false
set_option maxRecDepth 100000
namespace L2
open PySem PySem.Spec PyProof.Rows
abbrev excObj (cls : Value) (t : Addr) (tb : Value) : Obj := { cls := cls, data := .fields #[.ref t, tb, .none, .none, .bool false, .none] }
/-- a traceback's record, its flight -/
def TbAt (h : Heap) (T : Addr) (fl : Value) : Prop := ∃ o ts, h.get? T = some o ∧ o.data = .fields ts ∧ ts[3]? = some fl
theorem excObj_set (cls : Value) (t : Addr) (tb v : Value) : Obj.mapFields (·.setIfInBounds 1 v) (excObj cls t tb) = excObj cls t v := by
  unfold excObj
  show ({ cls := cls, data := .fields ((#[.ref t, tb, .none, .none, .bool false, .none] : Array Value).setIfInBounds 1 v) } : Obj) = _
  rfl
section
variable {M : Model} {A : Around} {E : Value → Shared → Prop} {s : Shared}
theorem flight_ok {a t T : Addr} {cls fl : Value} {Q : Unit → Shared → Prop} (he : s.heap.get? a = some (excObj cls t (.ref T))) (hT : TbAt s.heap T fl)
    (h : ∀ h', TbAt h' T .none → Heap.SameBut T s.heap h' → Q () { s with heap := h' }) : wpAny M A (setFlight (.ref a) none) Q E s := by
  obtain ⟨o, ts, ho, hd, h3⟩ := hT
  have h3l : 3 < ts.size := (Array.getElem?_eq_some_iff.mp h3).1
  unfold setFlight
  refine wpAny_bind (wpAny_field he rfl (x := .ref T) rfl ?_)
  rw [if_pos (by simp)]
  refine wpAny_setField ho hd h3l (h _ ⟨_, _, Heap.get?_update_self _ ho (Obj.isFreed_of_fields (Obj.data_mapFields hd _)), Obj.data_mapFields hd _, ?_⟩ (Heap.SameBut.update ..))
  simp [h3l]
theorem frames_nofields {base : Heap} {l : List Env} {b : Addr} (hl : s.heap.FunFrames base l) (hb : b ∈ frs l) : ∃ o, s.heap.get? b = some o ∧ ∀ vs, o.data ≠ .fields vs := (hl.mem hb).2
theorem note_ok {base : Heap} {env : Env} {outer : List Env} {L a t : Addr} {cls head : Value} {Q : Unit → Shared → Prop} (hfr : A.frames = some (env :: outer)) (hl : s.heap.FunFrames base (env :: outer)) (hf : env.frame = some L)
    (he : s.heap.get? a = some (excObj cls t head)) (hh : head = .none ∨ ∃ T, head = .ref T ∧ T ≠ a ∧ TbAt s.heap T .none)
    (h : ∀ h' T, h'.get? a = some (excObj cls t (.ref T)) → TbAt h' T (rawInt L) → T ≠ a → s.heap.objs.size ≤ T → (∀ b o, s.heap.get? b = some o → b ∉ frs (env :: outer) → b ≠ a → head ≠ .ref b → h'.get? b = some o) →
      (∀ b o, s.heap.get? b = some o → b ∈ frs (env :: outer) → ∃ sl, h'.get? b = some { o with slots := sl }) → Q () { s with heap := h' }) : wpAny M A (noteFrame (.ref a) env) Q E s := by
  -- the head's flight is ended, then an entry is made
  have main : ∀ (h0 : Heap), h0.objs.size = s.heap.objs.size → h0.get? a = some (excObj cls t head) → (∀ b o, s.heap.get? b = some o → head ≠ .ref b → h0.get? b = some o) → h0.FunFrames base (env :: outer) →
      wpAny M A (do setField (.ref a) 1 (← EntryCells.newEntry head (← frameOf env) .none (rawInt L) .none (← entryPlaceOf L (head != .none)))) Q E { s with heap := h0 } := by
    intro h0 hz h0a h0k h0f
    have nfr : ∀ b, b ∈ frs (env :: outer) → head ≠ .ref b := fun b hb q => by
      obtain ⟨o, ho, hn⟩ := frames_nofields hl hb
      rcases hh with z | ⟨T, z, _, o', ts, ho', hd', _⟩
      · rw [z] at q; cases q
      · rw [z] at q; cases q
        rw [ho] at ho'; cases ho'
        exact hn _ hd'
    have nfa : a ∉ frs (env :: outer) := fun hb => by
      obtain ⟨o, ho, hn⟩ := frames_nofields hl hb
      rw [he] at ho; cases ho
      exact hn _ rfl
    refine wpAny_bind (wpAny_frameOf_fun (s := { s with heap := h0 }) hfr h0f hf fun h1 hs1 => ?_)
    refine wpAny_bind (wpAny_entryPlaceOf fun pl hpl => ?_)
    unfold EntryCells.newEntry newFields
    refine wpAny_bind (wpAny_newObj_type ?_ (hpl.sizeOk5 _ _ _ _ _))
    have h1a : h1.get? a = some (excObj cls t head) := (hs1.2.1 a nfa).trans h0a
    have h1z : h1.objs.size = s.heap.objs.size := hs1.1.trans hz
    refine wpAny_setField (s := { s with heap := h1.push _ }) (Heap.get?_push_of_some _ h1a) rfl (by show 1 < 6; decide) ?_
    have ale : a < h1.objs.size := Heap.lt_size h1a
    refine h _ h1.objs.size ?_ ?_ (Nat.ne_of_gt ale) (Nat.le_of_eq h1z.symm) (fun b o ho hb hba hbh => ?_) (fun b o ho hb => ?_)
    · rw [Heap.get?_update_self _ (Heap.get?_push_of_some _ h1a) (Obj.isFreed_of_fields (Obj.data_mapFields rfl _))]
      exact congrArg some (excObj_set ..)
    · refine ⟨_, _, (Heap.get?_update_other _ _ (Nat.ne_of_lt ale)).trans (Heap.get?_push_size _ rfl), rfl, ?_⟩
      rcases hpl with rfl | ⟨_, _, _, _, _, _, _, rfl⟩ <;> rfl
    · rw [Heap.get?_update_other _ _ (Ne.symm hba)]
      exact Heap.get?_push_of_some _ ((hs1.2.1 b hb).trans (h0k b o ho hbh))
    · obtain ⟨sl, q⟩ := hs1.2.2 b o (h0k b o ho (nfr b hb))
      refine ⟨sl, ?_⟩
      rw [Heap.get?_update_other _ _ (fun z => nfa (by rw [z]; exact hb))]
      exact Heap.get?_push_of_some _ q
  unfold noteFrame
  simp only [hf]
  refine wpAny_bind (wpAny_field he rfl (x := head) rfl ?_)
  rcases hh with z | ⟨T, z, hTa, o, ts, ho, hd, h3⟩
  · subst z
    rw [if_neg (by decide)]
    exact main s.heap rfl he (fun b o q _ => q) hl
  · subst z
    have h3l : 3 < ts.size := (Array.getElem?_eq_some_iff.mp h3).1
    rw [if_pos (by simp)]
    refine wpAny_bind (wpAny_field ho hd h3 ?_)
    rw [if_neg (by simp [rawInt])]
    refine wpAny_bind (wpAny_setField ho hd h3l ?_)
    have oth : ∀ b, b ≠ T → (s.heap.update T (Obj.mapFields (·.setIfInBounds 3 Value.none))).get? b = s.heap.get? b := fun b q => Heap.get?_update_other _ _ (Ne.symm q)
    refine main _ (Heap.size_after_update ..) ((oth a (Ne.symm hTa)).trans he) (fun b o' q n => (oth b fun z => n (by rw [z])).trans q) (hl.of_keeps fun b o' q nf => ⟨o', (oth b fun z => ?_).trans q, rfl⟩)
    rw [z, ho] at q; cases q
    exact nf _ hd
end
/-- an exception on its way, new since g; H: what is tracked behind it -/
structure Fly (g : Heap) (H : Hp) (h : Heap) (a : Addr) (cls : Value) : Prop where
  ex : ∃ t T, h.get? a = some (excObj cls t (.ref T)) ∧ T ≠ a ∧ TbAt h T .none ∧ g.get? a = none ∧ g.get? T = none ∧ H a = none ∧ H T = none
/-- how an exception lies behind a call -/
def CXe (P : Program) (w : World) : CXT := fun outer H s E e s' => ∃ (a : Addr) (cls : Value) (H' : Hp), e = .ref a ∧ s'.os = s.os ∧ AllBare s'.gens ∧ Un (frs outer) [] H H' s.heap s'.heap ∧ HOk P w H' s'.heap ∧ Fly s.heap H' s'.heap a cls ∧ E cls none H'
theorem ObjOk.some {P : Program} {w : World} {H : Hp} {h : Heap} {a : Addr} {o : HO} (x : ObjOk P w H h a o) : ∃ u, h.get? a = .some u := by
  cases o with
  | lst xs => obtain ⟨_, _, _, _, e⟩ := x; exact ⟨_, e⟩
  | tup xs => obtain ⟨_, _, _, u, e, _⟩ := x; exact ⟨u, e⟩
  | dK kvs => obtain ⟨_, _, _, _, o, _, _, e, _⟩ := x; exact ⟨_, e⟩
  | dT kvs => obtain ⟨_, _, _, _, o, _, _, e, _⟩ := x; exact ⟨_, e⟩
  | set S n => obtain ⟨o, _, _, _, e, _⟩ := x; exact ⟨_, e⟩
  | ins C dx fs => obtain ⟨_, _, _, e, _⟩ := x; exact ⟨_, e⟩
  | own y => exact x
  | xd fs => obtain ⟨_, ⟨_, _, _, e, _⟩, _⟩ := x; exact ⟨_, e⟩
  | rng lo hi => obtain ⟨_, _, _, e⟩ := x; exact ⟨_, e⟩
  | frz ob u => obtain ⟨e, _⟩ := x; exact ⟨_, e⟩
  | tbl ps => exact ⟨_, x⟩
  | met f y => exact ⟨_, x⟩
  | ext φ => exact x.2.1
section
variable {X : Cx} {pins : List (Addr × Obj)} {σ : St} {H : Hp} {s : Shared}
/-- tracked things stay where only frames' slots, the exception and its traceback change -/
theorem HOk.leave {h0 h' : Heap} (hok : HOk X.prog X.w H h0) (ok : ∀ b u, H b = some u → ∀ o, h0.get? b = some o → h'.get? b = some o) : HOk X.prog X.w H h' := fun b u e =>
  (hok b u e).stay (fun c v hc q => by
    rcases hc with rfl | hc
    · exact ok _ _ e _ q
    · exact ok _ _ hc _ q) (fun _ q => q) fun _ _ q => q
/-- leaving the frame of a def -/
theorem leave_def {h0 : Heap} {a t : Addr} {cls head : Value} {E : XK} {E' : Value → Shared → Prop} (I : Inv X pins σ H s) (hst : X.stack = X.env :: X.outer) (hfr : X.env.frame = some X.env.locals) (hex : X.ex = [])
    (k0 : ∀ b o, s.heap.get? b = some o → h0.get? b = some o) (he : h0.get? a = some (excObj cls t head)) (hh : head = .none ∨ ∃ T, head = .ref T ∧ T ≠ a ∧ TbAt h0 T .none)
    (na : X.s₀.heap.get? a = none) (nT : ∀ T, head = .ref T → X.s₀.heap.get? T = none) (Ha : H a = none) (HT : ∀ T, head = .ref T → H T = none) (q : E cls none H) :
    wpAny (model X.prog X.w) X.A (leaving X.env (.ref a)) (fun _ s'' => CXe X.prog X.w X.outer X.H₀ X.s₀ E (.ref a) s'') E' { s with heap := h0 } := by
  have fr0 : h0.FunFrames X.base (X.env :: X.outer) := by
    have := I.stack
    rw [hst] at this
    exact this.of_keeps fun b o e _ => ⟨o, k0 b o e, rfl⟩
  unfold leaving
  refine wpAny_bind (note_ok (s := { s with heap := h0 }) (by rw [I.ok.frames, hst]) fr0 hfr he hh fun h1 T h1a h1T hTa hTs hk hsl => ?_)
  refine flight_ok (s := { s with heap := h1 }) h1a h1T fun h2 h2T sb => ?_
  have e2 : ∀ b o, s.heap.get? b = some o → b ∉ frs (X.env :: X.outer) → b ≠ a → head ≠ .ref b → h2.get? b = some o := fun b o e n1 n2 n3 =>
    (sb.2 b (Nat.ne_of_lt (Nat.lt_of_lt_of_le (Heap.lt_size (k0 b o e)) hTs))).trans (hk b o (k0 b o e) n1 n2 n3)
  have stkF : ∀ b ∈ frs (X.env :: X.outer), H b = none := by
    have := I.stkFree
    rw [hst] at this
    exact this
  have hl0 : ∀ b o, X.s₀.heap.get? b = some o → b ∉ X.ex := fun b o _ z => by rw [hex] at z; cases z
  have inS : ∀ b o, X.s₀.heap.get? b = some o → b ≠ X.env.locals := fun b o e => Nat.ne_of_lt (Nat.lt_of_lt_of_le (Heap.lt_size e) I.ok.above)
  have nfr : ∀ b o, X.s₀.heap.get? b = some o → b ∉ X.fs → b ∉ frs (X.env :: X.outer) := fun b o e n z => by
    unfold frs at z
    rw [List.filterMap_cons, hfr] at z
    rcases List.mem_cons.mp z with z | z
    · exact inS b o e z
    · exact n z
  have nh : ∀ b o, X.s₀.heap.get? b = some o → head ≠ .ref b := fun b o e z => by rw [nT b z] at e; cases e
  refine ⟨a, cls, H, rfl, I.os, I.bare, ⟨fun b o e n hb _ => ?_, fun b o e n hb _ => ?_, fun b o e n _ => I.base.free b o e n (hl0 b o e), fun b o e _ => ?_, I.base.tups, I.base.frzs, I.base.tbls⟩, ?_, ⟨t, T, ?_, hTa, h2T, na, ?_, Ha, ?_⟩, q⟩
  · exact e2 b o (I.base.keep b o e n hb (hl0 b o e)) (nfr b o e hb) (fun z => by rw [z, na] at e; cases e) (nh b o e)
  · obtain ⟨sl, e1⟩ := I.base.slot b o e n hb (hl0 b o e)
    obtain ⟨sl2, e2'⟩ := hsl b _ (k0 b _ e1) (by unfold frs; rw [List.filterMap_cons, hfr]; exact List.mem_cons_of_mem _ hb)
    exact ⟨sl2, (sb.2 b (Nat.ne_of_lt (Nat.lt_of_lt_of_le (Heap.lt_size (k0 b _ e1)) hTs))).trans e2'⟩
  · obtain ⟨o', e1⟩ := I.base.there b o e (hl0 b o e)
    by_cases hb : b ∈ frs (X.env :: X.outer)
    · obtain ⟨sl2, e2'⟩ := hsl b _ (k0 b _ e1) hb
      exact ⟨_, (sb.2 b (Nat.ne_of_lt (Nat.lt_of_lt_of_le (Heap.lt_size (k0 b _ e1)) hTs))).trans e2'⟩
    · exact ⟨o', e2 b o' e1 hb (fun z => by rw [z, na] at e; cases e) (nh b o e)⟩
  · refine HOk.leave I.hok fun b u e o ho => e2 b o ho (fun z => ?_) (fun z => ?_) fun z => ?_
    · rw [stkF b z] at e; cases e
    · rw [z, Ha] at e; cases e
    · rw [HT b z] at e; cases e
  · exact (sb.2 a (Ne.symm hTa)).trans h1a
  · cases z : X.s₀.heap.get? T with
    | none => rfl
    | some o =>
      obtain ⟨o', e1⟩ := I.base.there T o z (hl0 T o z)
      exact absurd (Nat.lt_of_lt_of_le (Heap.lt_size (k0 T o' e1)) hTs) (Nat.lt_irrefl _)
  · cases z : H T with
    | none => rfl
    | some u =>
      obtain ⟨o, e1⟩ := (I.hok T u z).some
      exact absurd (Nat.lt_of_lt_of_le (Heap.lt_size (k0 T o e1)) hTs) (Nat.lt_irrefl _)
end
def Raises (X : Cx) (E : XK) : Prop := ∀ (pins : List (Addr × Obj)) (σ : St) (H : Hp) (s : Shared) (h' : Heap) (a C : Addr) (vs : List Value), Inv X pins σ H s → Heap.MadeExcOf s.heap h' a (.ref C) vs → E (.ref C) none H → X.xe (.ref a) { s with heap := h' }
section
variable {P : Program} {w : World} {K : PySem.W.Frag} {mg : Str → Option Value} {base : Heap} {N : List Str} {qual : Str} {scope : Scope} {f : Addr} {cdv : Value} {A : Around} {outer : List Env} {s : Shared} {H : Hp} {E : XK}
theorem new_back {X : Cx} {pins : List (Addr × Obj)} {σ : St} {H : Hp} {s : Shared} {a : Addr} (I : Inv X pins σ H s) (hex : X.ex = []) (n : s.heap.get? a = none) : X.s₀.heap.get? a = none := by
  cases z : X.s₀.heap.get? a with
  | none => rfl
  | some o =>
    obtain ⟨o', e⟩ := I.base.there a o z (by rw [hex]; simp)
    rw [n] at e; cases e
theorem new_free {X : Cx} {pins : List (Addr × Obj)} {σ : St} {H : Hp} {s : Shared} {a : Addr} (I : Inv X pins σ H s) (n : s.heap.get? a = none) : H a = none := by
  cases z : H a with
  | none => rfl
  | some u =>
    obtain ⟨o', e⟩ := (I.hok a u z).some
    rw [n] at e; cases e
theorem raises_def : Raises (cxOf (CXe P w) P w K mg base N qual scope f cdv A outer s H E) E := by
  intro pins σ H1 s1 h' a C vs I hm q
  obtain ⟨t, he, _, _⟩ := hm.there
  exact leave_def (X := cxOf (CXe P w) P w K mg base N qual scope f cdv A outer s H E) I rfl rfl rfl hm.keeps he (.inl rfl) (new_back I rfl hm.new) (fun T z => nomatch z) (new_free I hm.new) (fun T z => nomatch z) q
theorem passes_def : Passes (CXe P w) (cxOf (CXe P w) P w K mg base N qual scope f cdv A outer s H E) E := by
  intro pins σ H1 s1 e s2 I h
  obtain ⟨a, cls, H2, rfl, ho, hb, hu, hok, ⟨t, T, he, hTa, hT, na, nT, Ha, HT⟩, q⟩ := h
  have J : Inv (cxOf (CXe P w) P w K mg base N qual scope f cdv A outer s H E) pins σ H2 s2 := I.call' ho hu hok hb (fun _ z => nomatch z)
  exact leave_def (X := cxOf (CXe P w) P w K mg base N qual scope f cdv A outer s H E) (h0 := s2.heap) J rfl rfl rfl (fun _ _ e => e) he (.inr ⟨T, rfl, hTa, hT⟩) (new_back I rfl na) (fun T' z => by cases z; exact new_back I rfl nT) Ha (fun T' z => by cases z; exact HT) q
/-- THE RULE for a def from which exceptions of own classes may leave -/
theorem Fun.okX {x : Str} {st : Stmt} {fd : FuncData} {ps : List Str} {k : Nat} {sp : Sp} (F : Fun K x qual st f fd) (S : FnScope N ps (defScope st)) (len : ∀ vs H Q E, sp vs H Q E → vs.length = ps.length)
    (hbody : ∀ (cdv : Value) (A : Around) (outer : List Env) (s : Shared) (H : Hp) (vs : List V) (Q : VK) (E : XK), Room k (A.deeper (envOfC qual (defScope st) s.heap.objs.size f cdv)) → sp vs H Q E →
      ∃ t, PSs (cxOf (CXe P w) P w K mg base N qual (defScope st) f cdv A outer s H E) (defBody st) t ∧ t { nx := fun _ H' => Q .non H', rt := Q } (start N vs) H) : FnOk P w K mg base (CXe P w) (k + 1) f fd ps sp := by
  obtain ⟨oc, od, kV, doc, pm, an, cdv, ct, osl, rfl, lk, hcd⟩ := F.ex
  exact fn_of lk hcd S len fun A outer s H vs Q E hr hsp => hbody cdv A outer s H vs Q E hr hsp
end
theorem PS.nox {X : Cx} {st : Stmt} {t : TS} (h : PS X.nox st t) : PS X st t := fun pins s σ H D I hw =>
  wpAny_mono (h pins s σ H D (I.wish _) hw) (fun _ _ q => q.unwish) fun _ _ z => False.elim z
theorem PA.nox {X : Cx} {es : List Expr} {t : TA} (h : PA X.nox es t) : PA X es t := fun pos pins s σ H Q I hw =>
  wpAny_mono (h pos pins s σ H Q (I.wish _) hw) (fun _ _ ⟨v, H', I', r, q⟩ => ⟨v, H', I'.unwish, r, q⟩) fun _ _ z => False.elim z
/-- an own error class under ValueError, as the top has made it -/
abbrev bmVE : List Value := [.type "ValueError", .type "Exception", .type "BaseException", .type "object"]
abbrev XC (K : PySem.W.Frag) (C : Addr) : Prop := PySem.W.excIn K C bmVE "ValueError.__new__" = true
theorem xc_of {K : PySem.W.Frag} {h : Heap} {C : Addr} (I : K.In h) (c : XC K C) : ∃ bm N nm q bs hdct sn sub ab col dd k0 k1 k2 k3 k5 mN,
    h.get? C = some (excClassObj nm q C N bs bm hdct sn sub ab col dd k0 k1 k2 k3 k5 "ValueError.__new__") ∧ h.Ns N mN ∧ mN "__init__" = none ∧ OwnTail h bmVE bm := by
  unfold XC PySem.W.excIn at c
  split at c
  · rename_i d0 cd0 sl0 look0
    split at c
    · rename_i C0 m0 a0 a1 a2 a3 n0 a5 em es
      simp only [Bool.and_eq_true, beq_iff_eq, Bool.not_eq_true'] at c
      obtain ⟨⟨⟨⟨⟨e1, e2⟩, nodel⟩, tl⟩, nsok⟩, noinit⟩ := c
      subst e1 e2
      rcases cd0 with ⟨x1, x2, x3, x4, x5, x6, x7, x8, x9, x10, x11⟩
      dsimp only at em nodel nsok noinit
      subst em nodel
      rcases sl0 with ⟨sl0⟩
      dsimp only at es
      subst es
      exact ⟨m0, x4, x1, x5, x2, x6, x7, x8, x9, x10, d0, a0, a1, a2, a3, a5, _, I _ _ look0, .of_isNs (PySem.W.isNs_of_in I nsok), PySem.W.nsMap_none_of_in I nsok noinit, PySem.W.tail_of_in I tl⟩
    · cases c
  · cases c
/-- raise C(e, ..) -/
def tRaise (C : Addr) (E : XK) (t : TA) : TS := fun _ σ H => t σ H fun vs H1 => vs.length ≤ sizeLine ∧ E (.ref C) none H1
theorem ps_raise {X : Cx} {E : XK} {C : Addr} {x : Str} {np cpos pos : Pos} {e : Expr} {es : List Expr} {t : TA} (hx : Raises X E) (hcalm : X.calm = true) (c : XC X.K C) (hg : Gl X x) (hm : X.mg x = some (.ref C)) (ha : PA X (e :: es) t)
    (he : starEach (e :: es) X.env = (false, eval e X.env) :: starEach es X.env := by rfl) (hpl : (backTo cpos (starEach es X.env)).any (·.1) = false := by rfl) (hdb : (x == ("__debug__" : Str)) = false := by decide) :
    PS X (.Raise (some (.Call (.Name x np) (e :: es) [] cpos)) none pos) (tRaise C E t) := by
  intro pins s σ H D I h
  obtain ⟨bm, N, nm, q, bs, hdct, sn, sub, ab, col, dd, k0, k1, k2, k3, k5, mN, hC, hN, hni, hT⟩ := xc_of I.mod.kin c
  have hbase : bm.contains (.type "BaseException") = true := hT.hasType (by decide)
  refine wpAny_Raise_call_subT (nm := nm) (q := q) (N := N) (bs := bs) (bm := bm) (hdct := hdct) (sn := sn) (sub := sub) (ab := ab) (col := col) (dd := dd) (k0 := k0) (k1 := k1) (k2 := k2) (k3 := k3) (k5 := k5) F.excBase_ValueError hbase (I.ok.hd hcalm) (by rw [he]; exact hpl) hni (ld_glob I hg hm ⟨rfl, ?_⟩ hdb)
  have ev := ha cpos pins s σ H _ I h
  rw [he] at ev ⊢
  refine PySem.Calls.evalArgs_plain (thn ev fun us s1 ⟨vs, H1, I1, r, hz, q1⟩ => ⟨rfl, by rw [← r.length]; exact hz, I1.bk _ _ hC, hN.keeps I1.bk, hT.keeps I1.bk, fun h' a hm' => hx pins σ H1 s1 h' a C us I1 hm' q1⟩)
section
variable {X : Cx} {k : Nat} {f : Addr} {fd : FuncData} {ps : List Str} {sp : Sp} {x : Str} {p pos : Pos} {e : Expr} {es : List Expr} {t : TA}
end
end L2
set_option Elab.async false
set_option linter.all false
set_option maxRecDepth 100000
namespace L2
open PySem PySem.Spec PyProof.Rows
abbrev cds (x : Str) : List Nat := x.cps.toList
theorem str_ext {x y : Str} (h : cds x = cds y) : x = y := by
  rcases x with ⟨⟨a⟩⟩
  rcases y with ⟨⟨b⟩⟩
  cases (show a = b from h)
  rfl
theorem cds_app (x y : Str) : cds (x ++ y) = cds x ++ cds y := by
  show (x.cps ++ y.cps).toList = _
  simp [cds]
theorem cds_len (x : Str) : (cds x).length = x.length := rfl
theorem cds_one (c : Nat) : cds ⟨#[c]⟩ = [c] := rfl
theorem cds_of (l : List Nat) : cds ⟨l.toArray⟩ = l := rfl
def rSlS : V → Option Int → Option Int → Hp → VK → Prop := fun x lo hi H Q => ∃ z, x = .str z ∧ z.length ≤ sizeLine ∧ Q (.str (Txt.slice z lo hi)) H
theorem part_of {v : Value} {o : Option Int} (p : IsPart v o) : ∃ l : Option (Int × Tok), v = partValue l ∧ l.map (·.1) = o := by
  cases p with
  | none => exact ⟨none, rfl, rfl⟩
  | int i t => exact ⟨some (i, t), rfl, rfl⟩
theorem sl_str {X : Cx} : SlR X rSlS := by
  intro pins s σ H x v vl vu lo hi sl Q I rx hs pl pu h
  obtain ⟨z, rfl, hz, q⟩ := h
  obtain ⟨t, rfl⟩ := rx
  obtain ⟨l, rfl, rfl⟩ := part_of pl
  obtain ⟨u, rfl, rfl⟩ := part_of pu
  refine ⟨"str", _, F.slot_str_getitem.lookup, typeIs_str _ _ _, wpAny_getItem_str_slice (l := l) (u := u) (st := none) hs rfl ?_⟩
  exact post_val_or_str ⟨Nat.le_trans (Txt.slice_le z _ _) hz, fun t' k => ⟨.str _, H, I.tok k, ⟨_, rfl⟩, q⟩⟩
theorem slice_to {z : Str} {j : Int} (h0 : 0 ≤ j) (h1 : j ≤ (cds z).length) : cds (Txt.slice z none (some j)) = (cds z).take j.toNat := by
  have e := slice_closes_to (x := z) (j := j) ⟨h0, h1⟩
  rw [eq_of_beq e, cds_of]
  simp
theorem slice_from {z : Str} {i : Int} (h0 : 0 ≤ i) : cds (Txt.slice z (some i) none) = (cds z).drop i.toNat := by
  by_cases h : i ≤ (z.length : Int)
  · rw [slice_from_eq (b := z.length) h0 h rfl, cds_of]
    refine List.take_of_length_le ?_
    rw [List.length_drop]
    show z.length - i.toNat ≤ ((z.length : Int) - i).toNat
    omega
  · rw [slice_beyond (by omega)]
    have e1 : (cds z).length = z.length := rfl
    rw [List.drop_eq_nil_of_le (by rw [e1]; omega)]
    rfl
def repS (z : Str) (n : Nat) : Str := ⟨((List.replicate n (cds z)).flatten).toArray⟩
theorem fold_app (a : Array Nat) : ∀ (n : Nat) (acc : Array Nat), (List.replicate n a).foldl (· ++ ·) acc = (acc.toList ++ (List.replicate n a.toList).flatten).toArray
  | 0, acc => by simp
  | n + 1, acc => by
    rw [List.replicate_succ, List.foldl_cons, fold_app a n, List.replicate_succ, List.flatten_cons]
    simp
theorem len_repS (z : Str) (n : Nat) : (repS z n).length = n * z.length := by
  show ((List.replicate n (cds z)).flatten.toArray).size = _
  rw [List.size_toArray, len_rep]
  rfl
def rRepS : R2 := fun x y H Q => ∃ z n, x = .str z ∧ y = .int n ∧ 0 ≤ n ∧ n < 2 ^ 62 ∧ z.length * n.toNat ≤ 1000000 ∧ Q (.str (repS z n.toNat)) H
theorem op_repS {X : Cx} : OpR X (binaryOp .Mult) rRepS := by
  intro pins s σ H x y v u Q I rx ry h
  obtain ⟨z, n, rfl, rfl, h0, h1, h2, q⟩ := h
  obtain ⟨t, rfl⟩ := rx
  obtain ⟨t', rfl⟩ := ry
  have big : (1000000 : Nat) ≤ sizeLine := by rw [sizeLine_eq]; decide
  refine P.mul_str ?_ ?_ ?_ ?_
  · rw [decide_eq_false (by omega), decide_eq_false (by omega)]; rfl
  · intro a b c
    have hn : n = (n.toNat : Int) := by omega
    have : (z.length : Int) * n ≤ 1000000 := by
      have h3 : ((z.length * n.toNat : Nat) : Int) ≤ ((1000000 : Nat) : Int) := Int.ofNat_le.mpr h2
      rw [Int.natCast_mul, ← hn] at h3
      exact h3
    have hp : 0 < n := by omega
    have := (Int.ediv_lt_iff_lt_mul hp).mp c
    omega
  · intro a b
    unfold Builtin.Str.tooLong
    exact decide_eq_false (by omega)
  · by_cases c1 : n < 1
    · rw [if_pos c1]
      have e : n.toNat = 0 := by omega
      refine ⟨by decide, ⟨.str Str.empty, H, I.tok _, ⟨_, rfl⟩, ?_⟩⟩
      rw [e] at q
      exact q
    · rw [if_neg c1]
      by_cases c2 : (n == 1 || z.length == 0) = true
      · rw [if_pos c2]
        refine ⟨.str z, H, I, ⟨_, rfl⟩, ?_⟩
        have e : repS z n.toNat = z := by
          apply str_ext
          show (List.replicate n.toNat (cds z)).flatten = cds z
          rcases Bool.or_eq_true _ _ |>.mp c2 with c | c
          · have : n = 1 := by simpa using c
            subst this
            simp
          · have c' : z.length = 0 := by simpa using c
            have : cds z = [] := List.eq_nil_of_length_eq_zero c'
            rw [this]; simp
        rw [e] at q; exact q
      · rw [if_neg c2]
        have e : (⟨(List.replicate n.toNat z.cps).foldl (· ++ ·) #[]⟩ : Str) = repS z n.toNat := by
          unfold repS
          rw [fold_app]; rfl
        rw [e]
        refine ⟨?_, ⟨.str _, H, I.tok _, ⟨_, rfl⟩, q⟩⟩
        rw [len_repS, Nat.mul_comm]; omega
def catS (ys : List Str) : Str := ⟨((ys.map cds).flatten).toArray⟩
theorem strs_of {ys : List Str} : ∀ {us : List Value}, Vals (ys.map V.str) us → StrsAre us ys := by
  induction ys with
  | nil => intro us r; cases r; exact .nil
  | cons y r ih =>
    intro us h
    cases h with
    | cons a b =>
      obtain ⟨t, rfl⟩ := a
      exact .cons y t (ih b)
theorem join_cds0 : ∀ ys : List Str, cds (Str.join ⟨#[]⟩ ys) = (ys.map cds).flatten
  | [] => rfl
  | y :: r => by
    rw [join_nil_cons y r, cds_app, join_cds0 r]
    rfl
theorem join_cds (ys : List Str) : cds (Txt.join ⟨#[]⟩ ys) = (ys.map cds).flatten := by
  rw [eq_of_beq (join_closes (sep := ⟨#[]⟩) (sep' := ⟨#[]⟩) (ys := ys) rfl)]
  exact join_cds0 ys
def rJoin (K : PySem.W.Frag) : V → List V → Hp → VK → Prop := fun x vs H Q => ∃ l ys, x = .str ⟨#[]⟩ ∧ vs = [.ref l] ∧ SqL K H l (ys.map V.str) ∧ (ys.map (·.length)).sum ≤ 1000000 ∧ Q (.str (catS ys)) H
theorem mt_join {X : Cx} : MtR X "str.join" (rJoin X.K) := by
  intro pins s σ H x xs v us Q I rx r h
  obtain ⟨l, ys, rfl, rfl, hl, hz, q⟩ := h
  obtain ⟨t, rfl⟩ := rx
  obtain ⟨u, rfl, ru⟩ := vals1 r
  cases ru
  obtain ⟨its, rv, p, _⟩ := I.list hl
  refine join_list (ys := ys) p.isList (strs_of rv) (by show (ys.map (·.length)).sum + ys.length * 0 ≤ 16777216; omega) fun t' k => ⟨.str _, H, I.tok k, ⟨_, rfl⟩, ?_⟩
  have e : Txt.join ⟨#[]⟩ ys = catS ys := str_ext (join_cds ys)
  rw [e]; exact q
theorem ints_arr : ∀ {ns : List Int} {us : List Value}, Vals (ns.map V.int) us → ∃ xs : List (Int × Tok), us = xs.map (fun p => Value.int p.1 p.2) ∧ xs.map (·.1) = ns
  | [], _, r => by cases r; exact ⟨[], rfl, rfl⟩
  | n :: ns, _, r => by
    cases r with
    | cons a b =>
      obtain ⟨t, rfl⟩ := a
      obtain ⟨xs, rfl, e⟩ := ints_arr b
      exact ⟨(n, t) :: xs, rfl, by rw [List.map_cons, e]⟩
theorem intItems_of (xs : List (Int × Tok)) : (xs.map (fun p => Value.int p.1 p.2)).toArray = intItems xs.toArray := by simp [intItems]
section
variable {X : Cx}
theorem call_sumL (hc : X.calm = true) : CallR X (.builtin "sum") (fun xs H Q => ∃ (l : Addr) (ns : List Int), xs = [.ref l] ∧ SqL X.K H l (ns.map V.int) ∧ Q (.int ns.sum) H) := by
  intro pins s σ H xs us Q I r h
  obtain ⟨l, ns, rfl, hl, q⟩ := h
  obtain ⟨u, rfl, ru⟩ := vals1 r
  cases ru
  obtain ⟨its, rv, p, _⟩ := I.list hl
  obtain ⟨ps, rfl, e⟩ := ints_arr rv
  have pl := p.isList
  rw [intItems_of] at pl
  refine sum_intListG (I.ok.hd hc) pl fun h' tk t' k => ⟨.int ns.sum, H, I.kept k, ⟨t', ?_⟩, q⟩
  rw [preSum_eq, List.take_of_length_le (by simp), ← e]
theorem call_minL (hc : X.calm = true) : CallR X (.builtin "min") (fun xs H Q => ∃ (l : Addr) (ns : List Int), xs = [.ref l] ∧ SqL X.K H l (ns.map V.int) ∧ ns ≠ [] ∧ ∀ M, M ∈ ns → (∀ a ∈ ns, M ≤ a) → Q (.int M) H) := by
  intro pins s σ H xs us Q I r h
  obtain ⟨l, ns, rfl, hl, hne, q⟩ := h
  obtain ⟨u, rfl, ru⟩ := vals1 r
  cases ru
  obtain ⟨its, rv, p, _⟩ := I.list hl
  obtain ⟨ps, rfl, e⟩ := ints_arr rv
  have pl := p.isList
  rw [intItems_of] at pl
  have hn0 : 0 < ps.toArray.size := by
    have : ps ≠ [] := fun z => hne (by rw [← e, z]; rfl)
    cases ps with
    | nil => exact absurd rfl this
    | cons a b => simp
  refine min_intList (I.ok.hd hc) pl hn0 fun v h' tk hv k => ?_
  obtain ⟨t, rfl⟩ := intItems_at hv
  have am := argBest_lt (numAt ps.toArray) (ps.toArray.size - 1)
  have na : ∀ i, i < ps.length → ∃ x ∈ ns, numAt ps.toArray i = x ∧ ns[i]? = some x := fun i hi => by
    refine ⟨(ps[i]).1, ?_, ?_, ?_⟩
    · rw [← e]; exact List.mem_map.mpr ⟨ps[i], List.getElem_mem hi, rfl⟩
    · unfold numAt; simp [hi]
    · rw [← e]; simp [hi]
  have hsz : ps.toArray.size = ps.length := by simp
  refine ⟨.int _, H, I.kept k, ⟨t, rfl⟩, q _ ?_ fun a ha => ?_⟩
  · obtain ⟨x, hx, e1, _⟩ := na (argBest (fun i j => decide (numAt ps.toArray i < numAt ps.toArray j)) (ps.toArray.size - 1)) (by have := am.1; omega)
    rw [e1]; exact hx
  · obtain ⟨i, hi⟩ := List.getElem?_of_mem ha
    have hil : i < ns.length := (List.getElem?_eq_some_iff.mp hi).1
    rw [← e, List.length_map] at hil
    obtain ⟨x, hx, e1, e2⟩ := na i hil
    rw [e2] at hi
    cases hi
    have := am.2 i (by omega)
    rw [e1] at this
    exact this
theorem bools_at : ∀ {bs : List Bool} {us : List Value} {i : Nat} {v : Value}, Vals (bs.map V.bl) us → us[i]? = some v → v = .bool ((bs[i]?).getD false)
  | [], _, _, _, .nil, e => by simp at e
  | b :: bs, _, 0, _, .cons r _, e => by
    have r' : _ = Value.bool b := r
    simp at e
    subst e
    exact r'
  | b :: bs, _, i + 1, v, .cons _ t, e => by
    have := bools_at (bs := bs) (i := i) (v := v) t (by simpa using e)
    simpa using this
theorem all_rng (bs : List Bool) : (List.range bs.length).all (fun i => (bs[i]?).getD false) = bs.all id := by
  rw [Bool.eq_iff_iff]
  simp only [List.all_eq_true, List.mem_range, id]
  constructor
  · intro h b hb
    obtain ⟨i, hi⟩ := List.getElem?_of_mem hb
    have := h i (List.getElem?_eq_some_iff.mp hi).1
    rw [hi] at this
    exact this
  · intro h i hi
    rw [List.getElem?_eq_getElem hi]
    exact h _ (List.getElem_mem hi)
theorem bools_truth {prog : Program} {w : World} {A : Around} {bs : List Bool} {its : List Value} (rv : Vals (bs.map V.bl) its) : TruthOf prog w A (fun i v => its.toArray[i]? = some v) (fun i => (bs[i]?).getD false) := fun i v s Q E hv q => by
  have e := bools_at (i := i) (v := v) rv (by simpa using hv)
  subst e
  exact wpAny_truthy_bool q
theorem list_ne_new {h : Heap} {l : Addr} {its : Array Value} (p : h.IsList l its) : l ≠ h.objs.size := by
  obtain ⟨o, e, _⟩ := p
  exact Nat.ne_of_lt (Heap.lt_size e)
theorem call_allL (hc : X.calm = true) : CallR X (.builtin "all") (fun xs H Q => ∃ (l : Addr) (bs : List Bool), xs = [.ref l] ∧ SqL X.K H l (bs.map V.bl) ∧ Q (.bl (bs.all id)) H) := by
  intro pins s σ H xs us Q I r h
  obtain ⟨l, bs, rfl, hl, q⟩ := h
  obtain ⟨u, rfl, ru⟩ := vals1 r
  cases ru
  obtain ⟨its, rv, p, _⟩ := I.list hl
  have hlen : its.toArray.size = bs.length := by
    have := rv.length
    rw [List.length_map] at this
    simp [this]
  refine call_all_walk (wpAny_pyIter_list p.isList ⟨s.heap.objs.size, _, _, _, _, _, _, rfl, Walks.list (A := X.A.in1) (I.ok.hd hc) _ l (list_ne_new p.isList) its.toArray, ⟨⟨_, Heap.get?_push_size _ rfl, rfl, rfl⟩, p.isList.at fun o e => Heap.get?_push_of_some _ e⟩, bools_truth rv, fun h' tk k => ?_⟩)
  refine ⟨.bl _, H, I.kept fun b o e => k b o (fun z => ?_) (Heap.get?_push_of_some _ e), rfl, ?_⟩
  · have : b = s.heap.objs.size := by simpa using z
    exact absurd (this ▸ Heap.lt_size e) (Nat.lt_irrefl _)
  · rw [hlen, all_rng]; exact q
end
end L2
set_option Elab.async false
set_option linter.all false
set_option maxRecDepth 100000
namespace L2
open PySem PySem.Spec PyProof.Rows
def clOf (cells : List (Str × Addr)) : List (Str × NameKind) → List (Str × Addr) → List (Str × Addr)
  | [], cs => cs
  | (n, k) :: r, cs => clOf cells r (if k == .free then (n, (cells.lookup n).getD 0) :: cs else cs)
def frAll (cells : List (Str × Addr)) (ns : List (Str × NameKind)) : Bool := ns.all fun y => y.2 != .free || (cells.lookup y.1).isSome
theorem clo_go {env : Env} : ∀ (ns : List (Str × NameKind)) (cs : List (Str × Addr)), frAll env.cells ns = true →
    (forIn ns cs (fun (x : Str × NameKind) (r : List (Str × Addr)) => do
      let (name, kind) := x
      if kind == .free then do
        let y ← cellOf env name
        pure (ForInStep.yield ((name, y) :: r))
      else pure (ForInStep.yield r)) : Sem (List (Str × Addr))) = pure (clOf env.cells ns cs)
  | [], cs, _ => rfl
  | (n, k) :: r, cs, h => by
    have h1 : (k != .free || (env.cells.lookup n).isSome) = true ∧ frAll env.cells r = true := by
      unfold frAll at h
      rw [List.all_cons, Bool.and_eq_true] at h
      exact h
    rw [List.forIn_cons]
    by_cases c : (k == NameKind.free) = true
    · have e : ∃ a, env.cells.lookup n = some a := by
        have := h1.1
        rw [bne, c] at this
        exact Option.isSome_iff_exists.mp (by simpa using this)
      obtain ⟨a, e⟩ := e
      have z := clo_go (env := env) r ((n, a) :: cs) h1.2
      simp only [c, if_true, cellOf, e, clOf, Option.getD_some]
      exact z
    · have z := clo_go (env := env) r cs h1.2
      simp only [c, clOf]
      exact z
theorem clo_eq {scope : Scope} {env : Env} (h : frAll env.cells scope.names = true) : closureFor scope env = pure (clOf env.cells scope.names []) := by
  unfold closureFor
  have := clo_go (env := env) scope.names [] h
  simp only [bind_pure] at this ⊢
  exact this
/-- the block's scope -/
def blkScope (scope : Scope) (env : Env) : Scope := { scope with names := scope.names.map fun (n, k) => if (k == .free && env.scope.kind == .function && env.kindOf n == some .cell) then (n, .cell) else (n, k) }
theorem clOf_some {cells : List (Str × Addr)} : ∀ (ns : List (Str × NameKind)) (cs : List (Str × Addr)) {x : Str} {c : Addr}, (clOf cells ns cs).lookup x = some c → (∀ y d, cs.lookup y = some d → cells.lookup y = some d) → frAll cells ns = true → cells.lookup x = some c
  | [], cs, x, c, h, k, _ => k x c h
  | (n, kd) :: r, cs, x, c, h, k, f => by
    have f1 : (kd != .free || (cells.lookup n).isSome) = true ∧ frAll cells r = true := by
      unfold frAll at f
      rw [List.all_cons, Bool.and_eq_true] at f
      exact f
    refine clOf_some r _ h (fun y d q => ?_) f1.2
    by_cases z : (kd == NameKind.free) = true
    · simp only [z, if_true] at q
      rw [List.lookup_cons] at q
      by_cases w : (y == n) = true
      · rw [w] at q
        have : y = n := by simpa using w
        subst this
        have e : ∃ a, cells.lookup y = some a := by
          have := f1.1
          rw [bne, z] at this
          exact Option.isSome_iff_exists.mp (by simpa using this)
        obtain ⟨a, e⟩ := e
        rw [e] at q ⊢
        exact q
      · have w' : (y == n) = false := by simpa using w
        rw [w'] at q
        exact k y d q
    · simp only [z] at q
      exact k y d q
theorem clOf_has {cells : List (Str × Addr)} : ∀ (ns : List (Str × NameKind)) (cs : List (Str × Addr)) {x : Str}, (x, NameKind.free) ∈ ns ∨ (∃ c, cs.lookup x = some c) → ∃ c, (clOf cells ns cs).lookup x = some c
  | [], cs, x, h => by
    rcases h with h | h
    · cases h
    · exact h
  | (n, kd) :: r, cs, x, h => by
    refine clOf_has r _ ?_
    rcases h with h | ⟨c, h⟩
    · rcases List.mem_cons.mp h with e | e
      · cases e
        exact .inr ⟨(cells.lookup n).getD 0, by simp⟩
      · exact .inl e
    · refine .inr ?_
      by_cases z : (kd == NameKind.free) = true
      · simp only [z, if_true]
        rw [List.lookup_cons]
        cases (x == n)
        · exact ⟨c, h⟩
        · exact ⟨_, rfl⟩
      · simp only [z]
        exact ⟨c, h⟩
section
variable {M : Model} {A : Around} {E : Value → Shared → Prop} {s : Shared} {env : Env}
theorem comp_gen {e : Expr} {scope : Scope} {pos : Pos} {newAcc first : Sem Value} {g : Comprehension} {gs : List Comprehension} {Q : Value → Shared → Prop} (hcl : clausesOf e = g :: gs) (hs : ∀ x, foldedSetIterable g.iter env x = pure x)
    (hfr : frAll env.cells scope.names = true) (hkind : scope.kind = .function) (hown : ∀ x ∈ scope.names, x.2 = .local → (blkScope scope env).names.lookup x.1 = some .local)
    (h : wpAny M A first (fun x s1 => wpAny M A (pyIter x) (fun it s2 => wpAny M A newAcc (fun acc s3 => wpAny M A (newFunctionEnv scope env.globals (clOf env.cells scope.names []) [] env.qual none .none (some env)) (fun cenv s4 =>
      codeAny M A (.compStart e 0 it acc { cenv with scope := blkScope scope env }) (fun r s' => ∃ m, s'.heap.Ns cenv.locals m ∧ ∀ h', Heap.SameBut cenv.locals s'.heap h' → (∃ f, r = .ok f) ∧ Q acc { s' with heap := h' }) s4) E s3) E s2) E s1) E s) :
    wpAny M A (comprehension e scope env pos newAcc false first) Q E s := by
  unfold comprehension
  rw [clo_eq hfr, hcl]
  refine wpAny_bind (wpAny_mono h (fun x s1 h1 => wpAny_bind (wpAny_standAt ?_)) fun _ _ z => z)
  refine wpAny_bind (wpAny_of_eq (hs x) ?_)
  refine wpAny_bind (wpAny_holding (wpAny_mono h1 (fun it s2 h2 => ?_) fun _ _ z => z))
  refine wpAny_standIf (wpAny_bind (wpAny_mono h2 (fun acc s3 h3 => ?_) fun _ _ z => z))
  refine wpAny_bind (wpAny_pure (wpAny_bind (wpAny_mono h3 (fun cenv s4 h4 => ?_) fun _ _ z => z)))
  dsimp only
  refine wpAny_holding (wpAny_bind (wpAny_attempt (wpAny_holding (wpAny_run (codeAny_mono h4 fun r s' hr => ?_)))))
  obtain ⟨m, hn, hr⟩ := hr
  obtain ⟨⟨f, rfl⟩, _⟩ := hr s'.heap (.refl ..)
  refine wpAny_bind (wpAny_holding (wpAny_comp_letGo (cenv := { cenv with scope := blkScope scope env }) hkind _ s' m (fun x hx hl => ?_) hn fun h' m' _ sb => wpAny_pure (hr h' sb).2))
  exact hown x (List.mem_filter.mp (List.mem_reverse.mp hx)).1 hl
end
/-- one turn of a comprehension's loop -/
theorem comp_turn {prog : Program} {w : World} {A : Around} {s : Shared} {R : Result → Shared → Prop} {elt target iter : Expr} {scope : Scope} {pos : Pos} {it acc : Value} {env : Env} (I : Nat → Shared → Prop)
    (turn : ∀ n s, I n s → wpAny (model prog w) A (pyNext it) (fun r s1 => match r with
      | none => R (.ok .next) s1
      | some v => wpAny (model prog w) A (letOwnedTupleGo target it v) (fun _ s2 => wpAny (model prog w) A (assign target env v) (fun _ s3 => wpAny (model prog w) A (eval elt env) (fun x s4 =>
          wpAny (model prog w) A (call (.builtin "list.append") [acc, x]) (fun _ s5 => ∃ m, m < n ∧ I m s5) (fun _ _ => False) s4) (fun _ _ => False) s3) (fun _ _ => False) s2) (fun _ _ => False) s1) (fun _ _ => False) s)
    (n : Nat) (h : I n s) : codeAny (model prog w) A (.compLoop (.ListComp elt [⟨target, iter, [], 0⟩] scope pos) 0 it acc env) R s := by
  refine codeAny_loop rfl I (fun n s hI => ?_) n h
  show wpAny _ _ ((compTurn (.ListComp elt [⟨target, iter, [], 0⟩] scope pos) 0 it acc env).onRaise (fun x => do noteFrame x env; theTreesLotGoes x)) _ _ s
  refine wpAny_noted (wpAny_mono (E := fun _ _ => False) (Q := fun fin s' => match fin with | .done f => R (.ok f) s' | .again c' => c' = (.compLoop (.ListComp elt [⟨target, iter, [], 0⟩] scope pos) 0 it acc env) ∧ ∃ m, m < n ∧ I m s') ?_ (fun _ _ q => q) fun _ _ z => False.elim z)
  rw [compTurn_list1]
  refine wpAny_bind (wpAny_standAt (wpAny_bind (wpAny_mono (turn n s hI) (fun r s1 h1 => ?_) fun _ _ z => z)))
  cases r with
  | none => exact wpAny_pure h1
  | some v =>
    refine wpAny_bind (wpAny_mono h1 (fun _ s2 h2 => ?_) fun _ _ z => z)
    refine wpAny_bind (wpAny_mono h2 (fun _ s3 h3 => ?_) fun _ _ z => z)
    refine wpAny_bind (wpAny_bind (wpAny_mono h3 (fun x s4 h4 => ?_) fun _ _ z => z))
    exact wpAny_bind (wpAny_mono h4 (fun _ s5 h5 => wpAny_pure (wpAny_pure ⟨rfl, h5⟩)) fun _ _ z => z)
/-- the context of the block -/
def blk (X : Cx) (pins : List (Addr × Obj)) (s : Shared) (H : Hp) (fp : List Addr) (N : List Str) (scope : Scope) : Cx where
  prog := X.prog
  w := X.w
  K := X.K
  mg := X.mg
  base := X.base
  A := X.A
  N := N
  s₀ := s
  H₀ := H
  env := { newEnv scope s.heap.objs.size X.env.globals (clOf X.env.cells scope.names []) X.env.qual none .none (some X.env) builtinsNs with scope := blkScope scope X.env }
  outer := X.stack
  stack := X.stack
  ex := fp
  fn := fun _ => false
  calm := X.calm
  pn := X.pn ++ pins
  xe := fun _ _ => False
/-- how the block's names lie: its own (none), or the outer slot of a free one -/
def jsOk (X : Cx) (scope : Scope) (N : List Str) (js : List (Option Nat)) : Bool := decide (js.length = N.length) && (N.zip js).all fun p => match p.2 with
  | none => true
  | some j => X.N[j]? == some p.1 && scope.names.lookup p.1 == some .free && (X.env.kindOf p.1 == some .cell || X.env.kindOf p.1 == some .free)
def blkSt (js : List (Option Nat)) (σ : St) : St := js.map fun o => o.bind fun j => (σ[j]?).join
theorem lookup_map_k {f : Str → NameKind → NameKind} : ∀ (ns : List (Str × NameKind)) (x : Str), (ns.map fun (n, k) => (n, f n k)).lookup x = (ns.lookup x).map (f x)
  | [], _ => rfl
  | (n, k) :: r, x => by
    rw [List.map_cons, List.lookup_cons, List.lookup_cons]
    by_cases w : (x == n) = true
    · have : x = n := by simpa using w
      subst this
      simp
    · have w' : (x == n) = false := by simpa using w
      rw [w']
      exact lookup_map_k r x
theorem blk_lookup (scope : Scope) (env : Env) (x : Str) : (blkScope scope env).names.lookup x = (scope.names.lookup x).map (fun k => if (k == .free && env.scope.kind == .function && env.kindOf x == some .cell) then .cell else k) := by
  unfold blkScope
  have := lookup_map_k (f := fun n k => if (k == .free && env.scope.kind == .function && env.kindOf n == some .cell) then NameKind.cell else k) scope.names x
  rw [← this]
  congr 1
  apply List.map_congr_left
  intro p hp
  rcases p with ⟨n, k⟩
  dsimp only
  split <;> rfl
theorem mem_of_lookup {α β : Type} [BEq α] [LawfulBEq α] : ∀ {l : List (α × β)} {x : α} {v : β}, l.lookup x = some v → (x, v) ∈ l
  | [], _, _, h => by cases h
  | (a, b) :: r, x, v, h => by
    rw [List.lookup_cons] at h
    by_cases w : (x == a) = true
    · rw [w] at h
      have : x = a := by simpa using w
      subst this
      cases h
      exact List.mem_cons_self
    · have w' : (x == a) = false := by simpa using w
      rw [w'] at h
      exact List.mem_cons_of_mem _ (mem_of_lookup h)
section
variable {X : Cx} {pins : List (Addr × Obj)} {σ : St} {H : Hp} {s : Shared} {fp : List Addr} {N : List Str} {scope : Scope} {js : List (Option Nat)}
theorem stk_ne (I : Inv X pins σ H s) {b : Addr} (h1 : b ≠ X.env.locals) (h2 : b ∉ X.fs) : b ∉ frs X.stack := fun z => by
  rcases List.mem_cons.mp (I.stkSub b z) with e | e
  · exact h1 e
  · exact h2 e
theorem blk_start {h' : Heap} {m' : Str → Option Value} {t' : Nat} (I : Inv X pins σ H s) (hf : ∀ b ∈ fp, FpOk X pins H b) (hl : ∀ b ∈ fp, ∃ o, s.heap.get? b = some o) (hk : scope.kind = .function) (hnc : (scope.names.all fun y => y.2 != .cell) = true)
    (hfr : frAll X.env.cells scope.names = true) (hjs : jsOk X scope N js = true) (hn : h'.Ns s.heap.objs.size m') (sb : Heap.SameBut s.heap.objs.size (s.heap.push { cls := .type "dict", data := .dict #[] }) h') :
    Inv (blk X pins s H fp N scope) [] (blkSt js σ) H { s with heap := h', toks := t' } := by
  have keep : ∀ b o, s.heap.get? b = some o → h'.get? b = some o := fun b o e => (sb.2 b (Nat.ne_of_lt (Heap.lt_size e))).trans (Heap.get?_push_of_some _ e)
  have cl : ∀ x c, (clOf X.env.cells scope.names []).lookup x = some c → X.env.cells.lookup x = some c := fun x c q => clOf_some _ _ q (fun y d z => by cases z) hfr
  have lt : ∀ b o, s.heap.get? b = some o → b ≠ s.heap.objs.size := fun b o e => Nat.ne_of_lt (Heap.lt_size e)
  have kinds : ∀ x, ((blkScope scope X.env).names.lookup x = some .cell ∨ (blkScope scope X.env).names.lookup x = some .free) → (x, NameKind.free) ∈ scope.names := fun x h => by
    rw [blk_lookup] at h
    have q : ∃ k, scope.names.lookup x = some k ∧ (k = .free ∨ k = .cell) := by
      cases e : scope.names.lookup x with
      | none => rw [e] at h; rcases h with h | h <;> cases h
      | some k =>
        refine ⟨k, rfl, ?_⟩
        rw [e] at h
        simp only [Option.map_some] at h
        by_cases c : (k == NameKind.free) = true
        · exact .inl (by simpa using c)
        · have c' : (k == NameKind.free) = false := by simpa using c
          rw [c'] at h
          simp only [Bool.false_and, Bool.false_eq_true, if_false] at h
          rcases h with h | h
          · exact .inr (Option.some.inj h)
          · exact .inl (Option.some.inj h)
    obtain ⟨k, e, hk⟩ := q
    rcases hk with rfl | rfl
    · exact mem_of_lookup e
    · have := List.all_eq_true.mp hnc _ (mem_of_lookup e)
      simp at this
  have okB : (blk X pins s H fp N scope).Ok := by
    refine ⟨I.ok.mod, hk, I.ok.glob, I.ok.blt, Nat.le_refl _, fun x y c a b => I.ok.inj x y c (cl x c a) (cl y c b), fun x h => clOf_has _ _ (.inl (kinds x h)), (fun x c z => nomatch z), I.ok.hd, I.ok.frames, .inl rfl, fun b hb => ⟨?_, fun x c e => (hf b hb).2.2.2.2.1 x c (cl x c e)⟩, I.bs, Nat.le_trans I.ok.bsz I.sz, fun b o e z => ?_, fun b hb => ?_, I.stack, I.stkFree⟩
    · obtain ⟨o, e⟩ := hl b hb
      exact lt b o e
    · rcases (hf b z).2.2.2.1 with q | q
      · exact I.ok.noex b o e q
      · exact absurd (Nat.lt_of_lt_of_le (Heap.lt_size e) (Nat.le_trans I.ok.bsz q)) (Nat.lt_irrefl _)
    · exact stk_ne I (hf b hb).2.1 (hf b hb).2.2.1
  have hjl : js.length = N.length := by
    have := (Bool.and_eq_true _ _ |>.mp hjs).1
    simpa using this
  refine ⟨okB, rfl, I.bare, Un.kept keep, ⟨m', hn, fun i x v e1 e2 e3 => ?_⟩, fun x c e => ?_, I.hok.fresh (Nat.le_refl _), fun x c e => I.freeC x c (cl x c e), fun p hp => ?_, I.hok.kept keep, by simp [blkSt, hjl, blk]⟩
  · unfold blkSt at e2
    rw [List.getElem?_map] at e2
    cases ej : js[i]? with
    | none => rw [ej] at e2; cases e2
    | some o =>
      rw [ej] at e2
      have e2' : (o.bind fun j => (σ[j]?).join) = some v := Option.some.inj e2
      cases o with
      | none => cases e2'
      | some j =>
        have e3' : (σ[j]?).join = some v := e2'
        have e4 : σ[j]? = some (some v) := by
          cases z : σ[j]? with
          | none => rw [z] at e3'; cases e3'
          | some y => rw [z] at e3'; exact congrArg some e3'
        have hm : (x, some j) ∈ N.zip js := by
          have h1 : N[i]? = some x := e1
          exact List.mem_of_getElem? (i := i) (by rw [List.getElem?_zip_eq_some]; exact ⟨h1, ej⟩)
        have ck := List.all_eq_true.mp (Bool.and_eq_true _ _ |>.mp hjs).2 _ hm
        simp only [Bool.and_eq_true, Bool.or_eq_true, beq_iff_eq] at ck
        obtain ⟨⟨c1, c2⟩, c3⟩ := ck
        obtain ⟨mo, _, hlo⟩ := I.loc
        obtain ⟨u, r, lk⟩ := hlo j x v c1 e4 (by rcases c3 with q | q; exact .inr (.inl q); exact .inr (.inr q))
        refine ⟨u, r, .inr ?_⟩
        rcases lk with ⟨q, _⟩ | ⟨_, c, hc, hcell⟩
        · rcases c3 with z | z <;> (rw [q] at z; cases z)
        · obtain ⟨c', hc'⟩ := clOf_has (cells := X.env.cells) scope.names [] (x := x) (.inl (mem_of_lookup c2))
          have : c' = c := Option.some.inj ((cl x c' hc').symm.trans hc)
          subst this
          refine ⟨?_, c', hc', ?_⟩
          · show (blkScope scope X.env).names.lookup x = some .cell ∨ (blkScope scope X.env).names.lookup x = some .free
            rw [blk_lookup, c2]
            simp only [Option.map_some]
            split
            · exact .inl rfl
            · exact .inr rfl
          · obtain ⟨o, ho, hd⟩ := hcell
            exact ⟨o, keep _ o ho, hd⟩
  · obtain ⟨v, o, ho, hd⟩ := I.cell x c (cl x c e)
    exact ⟨v, o, keep _ o ho, hd⟩
  · have hp' : p ∈ X.pn ++ pins := by simpa [blk] using hp
    obtain ⟨e, n, ne, nf, d⟩ := I.pin p hp'
    exact ⟨keep _ _ e, n, lt _ _ e, stk_ne I ne nf, d⟩
theorem blk_end {H' : Hp} {σ' : St} {pins' : List (Addr × Obj)} {s' : Shared} {h' : Heap} (I : Inv X pins σ H s) (hf : ∀ b ∈ fp, FpOk X pins H b) (J : Inv (blk X pins s H fp N scope) pins' σ' H' s') (sb : Heap.SameBut s.heap.objs.size s'.heap h') :
    Inv X pins σ H' { s' with heap := h' } := by
  have lt : ∀ b o, s.heap.get? b = some o → b ≠ s.heap.objs.size := fun b o e => Nat.ne_of_lt (Heap.lt_size e)
  have hu : Un (frs X.stack) fp H H' s.heap s'.heap := J.base
  refine I.call' (s' := { s' with heap := h' }) (ch := fp) J.os ⟨fun b o e n hb hx => (sb.2 b (lt b o e)).trans (hu.keep b o e n hb hx), fun b o e n hb hx => ?_, hu.free, fun b o e hx => ?_, hu.tups, hu.frzs, hu.tbls⟩ ?_ J.bare (fun b hb => ⟨(hf b hb).2.2.2.1, (hf b hb).2.1, (hf b hb).2.2.2.2.1, (hf b hb).2.2.2.2.2⟩)
  · obtain ⟨sl, q⟩ := hu.slot b o e n hb hx
    exact ⟨sl, (sb.2 b (lt b o e)).trans q⟩
  · obtain ⟨o', q⟩ := hu.there b o e hx
    exact ⟨o', (sb.2 b (lt b o e)).trans q⟩
  · have hfree : H' s.heap.objs.size = none := J.free
    refine HOk.leave (X := X) (h0 := s'.heap) J.hok fun b u e o ho => (sb.2 b fun z => ?_).trans ho
    rw [z, hfree] at e; cases e
end
def tLC (js : List (Option Nat)) (wi : TI) (g : TG) (te : TE) : TE := fun σ H Q => wi σ H fun J H1 => ∀ l, H1 l = none → ∃ W : Nat → Nat → List V → St → Hp → Prop, (∃ m, W 0 m [] (blkSt js σ) (upd H1 l (.lst []))) ∧ ∀ i m acc σ' H', W i m acc σ' H' →
  ((J.stop i H' ∧ Q (.ref l) H') ∨ (J.go i H' ∧ ∀ x H2, J.yld i H' x H2 → g x σ' H2 fun σ2 H3 => te σ2 H3 fun v H4 => H4 l = some (.lst acc) ∧ acc.length < sizeLine ∧ ∃ m', m' < m ∧ W (i + 1) m' (acc ++ [v]) σ2 (upd H4 l (.lst (acc ++ [v])))))
theorem pe_lcomp {X : Cx} {elt target iter : Expr} {scope : Scope} {pos : Pos} {N : List Str} {js : List (Option Nat)} {wi : TI} {g : TG} {te : TE} (hc : X.calm = true) (hi : PI X target iter wi)
    (hg : ∀ pins s H fp, PG (blk X pins s H fp N scope) target g) (he : ∀ pins s H fp, PE (blk X pins s H fp N scope) elt te)
    (hk : scope.kind = .function := by rfl) (hnc : (scope.names.all fun y => y.2 != .cell) = true := by rfl) (hfr : frAll X.env.cells scope.names = true := by rfl) (hjs : jsOk X scope N js = true := by rfl)
    (hown : (scope.names.all fun y => y.2 != .local || (blkScope scope X.env).names.lookup y.1 == some .local) = true := by rfl) (hs : ∀ x, foldedSetIterable iter X.env x = pure x := by intro _; rfl) :
    PE X (.ListComp elt [⟨target, iter, [], 0⟩] scope pos) (tLC js wi g te) := by
  intro pins s σ H Q I h
  rw [eval_ListComp]
  refine comp_gen rfl hs hfr hk (fun x hx hl => ?_) ?_
  · have := List.all_eq_true.mp hown x hx
    rw [hl] at this
    simpa using this
  refine thn (hi pins s σ H _ I h) fun v s1 h1 => thn h1 fun itv s2 h2 => ?_
  obtain ⟨it, fp, tn, J, H2, e, I2, T, st2, f2, hW⟩ := h2
  subst e
  refine wpAny_newObj_type (s := s2) ?_ (by show 0 ≤ sizeLine; exact Nat.zero_le _)
  -- the new list
  have I3 : Inv X pins σ (upd H2 s2.heap.objs.size (.lst [])) { s2 with heap := s2.heap.push { cls := .type "list", data := .seq #[] } } := I2.lnew (t' := s2.toks) (its := []) .nil (Nat.zero_le _)
  obtain ⟨W, ⟨m0, w0⟩, turn⟩ := hW s2.heap.objs.size (I2.hok.fresh (Nat.le_refl _))
  have lt2 : ∀ b ∈ fp, ∃ o, s2.heap.get? b = some o := fun b hb => let ⟨o, e, _⟩ := T.obj 0 _ st2 b hb; ⟨o, e⟩
  have f3 : ∀ b ∈ fp, FpOk X pins (upd H2 s2.heap.objs.size (.lst [])) b := fun b hb => by
    obtain ⟨o, e⟩ := lt2 b hb
    refine ⟨?_, (f2 b hb).2⟩
    rw [upd_ne (Nat.ne_of_lt (Heap.lt_size e))]
    exact (f2 b hb).1
  have k3 : ∀ b o, s2.heap.get? b = some o → (s2.heap.push { cls := .type "list", data := .seq #[] }).get? b = some o := fun b o e => Heap.get?_push_of_some _ e
  refine wpAny_newFunctionEnv (s := { s2 with heap := s2.heap.push { cls := .type "list", data := .seq #[] } }) (fun x hx => by have := List.all_eq_true.mp hnc x hx; simpa using this) (fun x z => nomatch z) (fun h4 hn4 sb4 => ?_) hk
  have I4 := blk_start (N := N) (js := js) (t' := s2.toks + ([] : List (Str × Value)).length) I3 f3 (fun b hb => let ⟨o, e⟩ := lt2 b hb; ⟨o, k3 b o e⟩) hk hnc hfr hjs hn4 sb4
  have st4 : tn 0 h4 := T.keep 0 _ _ st2 fun b hb o e => (sb4.2 b (Nat.ne_of_lt (Nat.lt_of_lt_of_le (Heap.lt_size e) (Nat.le_of_lt (by rw [Heap.size_push]; exact Nat.lt_succ_self _))))).trans (Heap.get?_push_of_some _ (k3 b o e))
  let B := blk X pins { s2 with heap := s2.heap.push { cls := .type "list", data := .seq #[] } } (upd H2 s2.heap.objs.size (.lst [])) fp N scope
  have stat : ∀ {H' : Hp}, (∀ b ∈ fp, H' b = none) → ∀ b ∈ fp, FpOk B [] H' b := fun hn b hb => by
    refine ⟨hn b hb, (I4.ok.exf b hb).1, I4.ok.exfs b hb, .inl hb, (I4.ok.exf b hb).2, fun p hp => (f3 b hb).2.2.2.2.2 p (by simpa [B, blk] using hp)⟩
  have loop : ∀ (s5 : Shared) (σ5 : St) (H5 : Hp), Inv B [] σ5 H5 s5 → tn 0 s5.heap → (∀ b ∈ fp, H5 b = none) → W 0 m0 [] σ5 H5 →
      codeAny (model X.prog X.w) X.A (.compLoop (.ListComp elt [⟨target, iter, [], 0⟩] scope pos) 0 (.ref it) (.ref s2.heap.objs.size) B.env) (fun r s' => ∃ m, s'.heap.Ns B.env.locals m ∧ ∀ h', Heap.SameBut B.env.locals s'.heap h' → (∃ f, r = .ok f) ∧ EP X pins σ Q (.ref s2.heap.objs.size) { s' with heap := h' }) s5 := by
    intro s5 σ5 H5 I5 st5 fr5 w5
    refine comp_turn (fun n s' => ∃ i acc σ' H', Inv B [] σ' H' s' ∧ tn i s'.heap ∧ (∀ b ∈ fp, H' b = none) ∧ W i n acc σ' H') ?_ m0 ⟨0, [], σ5, H5, I5, st5, fr5, w5⟩
    rintro n s6 ⟨i, acc, σ6, H6, I6, st6, fr6, w6⟩
    rcases turn i n acc σ6 H6 w6 with ⟨stop, q⟩ | ⟨go, step⟩
    · refine thn (T.done B rfl rfl rfl hc i [] s6 σ6 H6 _ I6 (stat fr6) st6 stop) fun r s7 ⟨hr, I7⟩ => ?_
      subst hr
      obtain ⟨m, hn, _⟩ := I7.loc
      exact ⟨m, hn, fun h' sb => ⟨⟨_, rfl⟩, ⟨.ref s2.heap.objs.size, H6, blk_end I3 f3 I7 sb, rfl, q⟩⟩⟩
    · refine thn (T.item B rfl rfl rfl hc i [] s6 σ6 H6 _ I6 (stat fr6) st6 go) fun r s7 ⟨u, hr, h7⟩ => ?_
      subst hr
      refine thn h7 fun _ s8 ⟨x, H8, I8, r8, y8, st8, fr8⟩ => ?_
      have I8' := I8.pinned (stat fr8) (T.obj _ _ st8)
      refine thn (hg _ _ _ _ _ s8 σ6 H8 x u _ I8' r8 (step x H8 y8)) fun _ s9 ⟨σ9, H9, I9, q9⟩ => ?_
      refine thn (he _ _ _ _ _ s9 σ9 H9 _ I9 q9) fun v s10 ⟨y, H10, I10, r10, q10⟩ => ?_
      obtain ⟨hl, hz, m', hm, w'⟩ := q10
      refine thn (mt_append _ s10 σ9 H10 (.ref s2.heap.objs.size) [y] _ [v] (fun z H' => z = .non ∧ H' = upd H10 s2.heap.objs.size (.lst (acc ++ [y]))) I10 rfl (.cons r10 .nil) ⟨_, acc, y, rfl, rfl, hl, hz, rfl, rfl⟩) fun _ s11 ⟨z, H11, I11, _, _, e11⟩ => ?_
      subst e11
      refine ⟨m', hm, i + 1, acc ++ [y], σ9, _, I11.unpinned, T.keep _ _ _ st8 fun b hb o e => (I11.pin (b, o) (List.mem_append_right _ (List.mem_append_right _ (mem_pinsAt hb e)))).1, fun b hb => ?_, w'⟩
      obtain ⟨o, e, d⟩ := T.obj _ _ st8 b hb
      exact (I11.pin (b, o) (List.mem_append_right _ (List.mem_append_right _ (mem_pinsAt hb e)))).2.1
  refine codeAny_compStart_list (loop _ _ _ I4 st4 (fun b hb => (f3 b hb).1) w0) ?_
  exact wpAny_mono (T.self X.A 0 _ (fun v s' => v = .ref it ∧ s' = _) (fun _ _ => False) st4 ⟨rfl, rfl⟩) (fun v s' ⟨e1, e2⟩ => by subst e1 e2; exact loop _ _ _ I4 st4 (fun b hb => (f3 b hb).1) w0) fun _ _ z => False.elim z
end L2
set_option Elab.async false
set_option linter.all false
set_option maxRecDepth 100000
namespace L2
open PySem PySem.Spec PyProof.Rows
def clsV : V → Option Value
  | .ty n => some (.type n)
  | .ref a => some (.ref a)
  | _ => none
theorem clsV_rel {c : V} {cv u : Value} (e : clsV c = some cv) (r : RelV c u) : u = cv := by
  cases c <;> cases e <;> exact r
def rIsi (K : PySem.W.Frag) : List V → Hp → VK → Prop := fun xs H Q => ∃ x c t cv b, xs = [x, c] ∧ clsV c = some cv ∧ TyOf K H x t ∧ PySem.W.kitOne K t cv = some b ∧ Q (.bl b) H
theorem call_isi {X : Cx} : CallR X (.builtin "isinstance") (rIsi X.K) := by
  intro pins s σ H xs us Q I r h
  obtain ⟨x, c, t, cv, b, rfl, hcv, ty, k, q⟩ := h
  obtain ⟨u, w', rfl, ru, rw'⟩ := vals2 r
  cases clsV_rel hcv rw'
  exact isinst_ok I ru ty k fun tk => ⟨.bl b, H, I.tok tk, rfl, q⟩
end L2
set_option Elab.async false
set_option linter.all false
set_option maxRecDepth 100000
namespace L2
open PySem PySem.Spec PyProof.Rows
/-- what of an own error class its instances' __class__ asks -/
structure XA (K : PySem.W.Frag) (C : Addr) : Prop where
  ga : PySem.W.findIn K (.ref C) "__getattribute__" = some (some (.builtin "BaseException.__getattribute__"))
  nh : PySem.W.findIn K (.ref C) "__getattr__" = some none
  ca : PySem.W.findIn K (.ref C) "__class__" = some (some (.builtin "object.__class__"))
  gt : PySem.W.specialIn K (.builtin "object.__class__") "__get__" = some (some (.builtin "getset_descriptor.__get__"))
  tk : PySem.W.takesIn K (.builtin "object.__class__") = some true
  mo : PySem.W.mroIn K C (.type "object") = some true
  mb : PySem.W.mroIn K C (.type "BaseException") = some true
  is : PySem.W.clsIn K C ≠ none
end L2
set_option Elab.async false
set_option linter.all false
set_option maxRecDepth 100000
namespace L2
open PySem PySem.Spec PyProof.Rows
theorem nextOf_str {prog : Program} {w : World} {A : Around} {E : Value → Shared → Prop} {s : Shared} {it : Addr} {x : Str} {t : Tok} {i c : Nat} {Q : Value → Shared → Prop} (hit : s.heap.IsStrIter it (strIterType x) x t i) (hx : x.cps[i]? = some c)
    (hQ : ∀ h', h'.IsStrIter it (strIterType x) x t (i + 1) → Heap.SameBut it s.heap h' → Q (.str ⟨#[c]⟩ s.toks) { s with heap := h', toks := s.toks + 1 }) :
    wpAny (model prog w) A (Builtin.SmallTypes.nextOf (.ref it)) Q E s := by
  cases ha : x.cps.all (· < 128)
  · have e : strIterType x = "str_iterator" := by simp [strIterType, ha]
    rw [e] at hit hQ; exact wpAny_nextOf_wide_item hit hx hQ
  · have e : strIterType x = "str_ascii_iterator" := by simp [strIterType, ha]
    rw [e] at hit hQ; exact wpAny_nextOf_ascii_item hit hx hQ
theorem nextOf_str_end {prog : Program} {w : World} {A : Around} {E : Value → Shared → Prop} {s : Shared} {it : Addr} {x : Str} {t : Tok} {i : Nat} {Q : Value → Shared → Prop} (hh : A.handled = none) (hit : s.heap.IsStrIter it (strIterType x) x t i) (hx : x.cps[i]? = none)
    (hE : ∀ h' e, Heap.ExtBut it s.heap h' → (∃ o, h'.get? e = some o ∧ o.cls = .type "StopIteration") → E (.ref e) { s with heap := h' }) :
    wpAny (model prog w) A (Builtin.SmallTypes.nextOf (.ref it)) Q E s := by
  cases ha : x.cps.all (· < 128)
  · have e : strIterType x = "str_iterator" := by simp [strIterType, ha]
    rw [e] at hit; exact wpAny_nextOf_wide_end hh hit hx hE
  · have e : strIterType x = "str_ascii_iterator" := by simp [strIterType, ha]
    rw [e] at hit; exact wpAny_nextOf_ascii_end hh hit hx hE
theorem strIter_but {h h' : Heap} {it c : Addr} {x : Str} {n : String} {t : Tok} {i : Nat} (p : h.IsStrIter it n x t i) (e : Heap.ExtBut c h h') (ne : it ≠ c) : h'.IsStrIter it n x t i := by
  obtain ⟨o, q, r⟩ := p
  exact ⟨o, e _ _ ne q, r⟩
theorem zipS_item {prog : Program} {w : World} {A : Around} {E : Value → Shared → Prop} {s : Shared} {z TI TO i1 i2 : Addr} {x y : Str} {t u : Tok} {k c d : Nat} {a b : Value} {Q : Value → Shared → Prop} (D : ZipApart z TI TO i1 i2 TI TI)
    (hz : IsZip s.heap z TI TO .none) (hTI : IsPair s.heap TI (.ref i1) (.ref i2)) (hTO : IsPair s.heap TO a b)
    (h1 : s.heap.IsStrIter i1 (strIterType x) x t k) (h2 : s.heap.IsStrIter i2 (strIterType y) y u k) (hx : x.cps[k]? = some c) (hy : y.cps[k]? = some d)
    (hQ : ∀ h' tk p q, IsZip h' z TI TO (rawInt s.heap.objs.size) → IsPair h' TO (.str ⟨#[c]⟩ p) (.str ⟨#[d]⟩ q) → h'.IsStrIter i1 (strIterType x) x t (k + 1) → h'.IsStrIter i2 (strIterType y) y u (k + 1) → IsPair h' s.heap.objs.size (.str ⟨#[c]⟩ p) (.str ⟨#[d]⟩ q) → h'.objs.size = s.heap.objs.size + 1 →
      (∀ c o, c ≠ z → c ≠ TO → c ≠ i1 → c ≠ i2 → s.heap.get? c = some o → h'.get? c = some o) → Q (.ref s.heap.objs.size) { s with heap := h', toks := tk }) :
    wpAny (model prog w) A (Builtin.«zip.__next__» ⟨[.ref z], []⟩) (fun fin s' => ∃ v, fin = .done (.ret v) ∧ Q v s') E s := by
  show wpAny _ _ (field (.ref z) 2 >>= _) _ _ _
  refine wpAny_bind (wpAny_field hz rfl (x := .bool false) rfl ?_)
  show wpAny _ _ (field (.ref z) 3 >>= _) _ _ _
  refine wpAny_bind (wpAny_field hz rfl (x := .ref TI) rfl ?_)
  refine wpAny_bind (wpAny_seqItems hTI rfl ?_)
  show wpAny _ _ (Builtin.SmallTypes.ownedTupleIsFree (.ref z) >>= _) _ _ _
  refine wpAny_bind ?_
  unfold Builtin.SmallTypes.ownedTupleIsFree
  refine wpAny_bind (wpAny_field hz rfl (x := .none) rfl (wpAny_pure ?_))
  simp only [if_true]
  refine wpAny_bind (wpAny_rule ?_)
  refine wpAny_bind (wpAny_field hz rfl (x := .ref TO) rfl ?_)
  refine wpAny_bind (wpAny_setField_rec hz (by simp) fun h₁ hz₁ hs₁ => ?_)
  replace hz₁ : IsZip h₁ z TI TO .ellipsis := hz₁
  refine wpAny_bind ?_
  simp only [List.zipIdx_cons, List.zipIdx_nil, List.forIn_cons, List.forIn_nil]
  refine wpAny_bind (wpAny_bind (wpAny_onRaise ?_))
  show wpAny _ _ (Builtin.SmallTypes.nextOf (.ref i1) >>= _) _ _ _
  refine wpAny_bind (nextOf_str (strIter_but h1 hs₁.extBut D.i1z) hx fun h₂ h1₂ hs₂ => wpAny_pure ?_)
  have hTO₂ : IsPair h₂ TO a b := hs₂.extBut _ _ D.TOi1 (hs₁.extBut _ _ D.TOz hTO)
  refine wpAny_bind (wpAny_seqItems (s := { s with heap := h₂, toks := s.toks + 1 }) hTO₂ rfl ?_)
  refine wpAny_bind (wpAny_updateSeq_pair (s := { s with heap := h₂, toks := s.toks + 1 }) hTO₂ fun h₃ hTO₃ hs₃ => ?_)
  replace hTO₃ : IsPair h₃ TO (.str ⟨#[c]⟩ s.toks) b := hTO₃
  refine wpAny_bind (wpAny_letGo (wpAny_pure ?_))
  refine wpAny_bind (wpAny_bind (wpAny_onRaise ?_))
  show wpAny _ _ (Builtin.SmallTypes.nextOf (.ref i2) >>= _) _ _ _
  refine wpAny_bind (nextOf_str (s := { s with heap := h₃, toks := s.toks + 1 }) (strIter_but (strIter_but (strIter_but h2 hs₁.extBut D.i2z) hs₂.extBut D.i12.symm) hs₃.extBut D.TOi2.symm) hy fun h₄ h2₄ hs₄ => wpAny_pure ?_)
  have hTO₄ : IsPair h₄ TO (.str ⟨#[c]⟩ s.toks) b := hs₄.extBut _ _ D.TOi2 hTO₃
  refine wpAny_bind (wpAny_seqItems (s := { s with heap := h₄, toks := s.toks + 1 + 1 }) hTO₄ rfl ?_)
  refine wpAny_bind (wpAny_updateSeq_pair (s := { s with heap := h₄, toks := s.toks + 1 + 1 }) hTO₄ fun h₅ hTO₅ hs₅ => ?_)
  replace hTO₅ : IsPair h₅ TO (.str ⟨#[c]⟩ s.toks) (.str ⟨#[d]⟩ (s.toks + 1)) := hTO₅
  refine wpAny_bind (wpAny_letGo (wpAny_pure (wpAny_pure ?_)))
  refine wpAny_bind (wpAny_seqItems (s := { s with heap := h₅, toks := s.toks + 1 + 1 }) hTO₅ rfl ?_)
  refine wpAny_bind (wpAny_newTuple ?_)
  have hsz : h₅.objs.size = s.heap.objs.size := by rw [hs₅.1, hs₄.1, hs₃.1, hs₂.1, hs₁.1]
  have hz₅ : IsZip h₅ z TI TO .ellipsis := hs₅.extBut _ _ D.TOz.symm (hs₄.extBut _ _ D.i2z.symm (hs₃.extBut _ _ D.TOz.symm (hs₂.extBut _ _ D.i1z.symm hz₁)))
  have hk₅ : ∀ c o, c ≠ z → c ≠ TO → c ≠ i1 → c ≠ i2 → s.heap.get? c = some o → h₅.get? c = some o := fun c o c1 c2 c3 c4 e =>
    hs₅.extBut _ _ c2 (hs₄.extBut _ _ c4 (hs₃.extBut _ _ c2 (hs₂.extBut _ _ c3 (hs₁.extBut _ _ c1 e))))
  have h1₅ : h₅.IsStrIter i1 (strIterType x) x t (k + 1) := strIter_but (strIter_but (strIter_but h1₂ hs₃.extBut D.TOi1.symm) hs₄.extBut D.i12) hs₅.extBut D.TOi1.symm
  have h2₅ : h₅.IsStrIter i2 (strIterType y) y u (k + 1) := strIter_but h2₄ hs₅.extBut D.TOi2.symm
  have hzlt : z < h₅.objs.size := Heap.lt_size hz₅
  have hTOlt : TO < h₅.objs.size := Heap.lt_size hTO₅
  have hi1lt : i1 < h₅.objs.size := by obtain ⟨_, e, _⟩ := h1₅; exact Heap.lt_size e
  have hi2lt : i2 < h₅.objs.size := by obtain ⟨_, e, _⟩ := h2₅; exact Heap.lt_size e
  show wpAny _ _ (Builtin.SmallTypes.ownedTupleHandOut (.ref z) (.ref h₅.objs.size) >>= _) _ _ _
  refine wpAny_bind ?_
  unfold Builtin.SmallTypes.ownedTupleHandOut
  have hz₆ : IsZip (h₅.push { cls := .type "tuple", data := .seq #[.str ⟨#[c]⟩ s.toks, .str ⟨#[d]⟩ (s.toks + 1)] }) z TI TO .ellipsis := Heap.get?_push_of_some _ hz₅
  refine wpAny_bind (wpAny_setField_rec (s := { s with heap := h₅.push { cls := .type "tuple", data := .seq #[.str ⟨#[c]⟩ s.toks, .str ⟨#[d]⟩ (s.toks + 1)] }, toks := s.toks + 1 + 1 }) hz₆ (by simp) fun h₇ hz₇ hs₇ => ?_)
  replace hz₇ : IsZip h₇ z TI TO (rawInt h₅.objs.size) := hz₇
  refine wpAny_setField_rec (s := { s with heap := h₇, toks := s.toks + 1 + 1 }) hz₇ (by simp) fun h₈ hz₈ hs₈ => ?_
  replace hz₈ : IsZip h₈ z TI TO (rawInt h₅.objs.size) := hz₈
  have up : ∀ c o, c ≠ z → h₅.get? c = some o → h₈.get? c = some o := fun c o c1 e => hs₈.extBut _ _ c1 (hs₇.extBut _ _ c1 (Heap.get?_push_of_some _ e))
  have hT₈ : IsPair h₈ h₅.objs.size (.str ⟨#[c]⟩ s.toks) (.str ⟨#[d]⟩ (s.toks + 1)) := hs₈.extBut _ _ (Nat.ne_of_gt hzlt) (hs₇.extBut _ _ (Nat.ne_of_gt hzlt) (Heap.get?_push_size _ rfl))
  have hz8 : h₈.objs.size = h₅.objs.size + 1 := by rw [hs₈.1, hs₇.1, Heap.size_push]
  rw [hsz] at hz₈ hT₈ hz8
  refine wpAny_pure ⟨_, rfl, ?_⟩
  show Q (.ref h₅.objs.size) _
  rw [hsz]
  exact hQ h₈ _ _ _ hz₈ (up _ _ D.TOz hTO₅) (strIter_but h1₅ (fun c o c1 e => up c o c1 e) D.i1z) (strIter_but h2₅ (fun c o c1 e => up c o c1 e) D.i2z) hT₈ hz8 fun c o c1 c2 c3 c4 e => up c o c1 (hk₅ c o c1 c2 c3 c4 e)
theorem zipS_end {prog : Program} {w : World} {A : Around} {E : Value → Shared → Prop} {s : Shared} {z TI TO i1 i2 : Addr} {x y : Str} {t u : Tok} {k : Nat} {a b : Value} {Q : Fin → Shared → Prop} (hh : A.handled = none) (D : ZipApart z TI TO i1 i2 TI TI)
    (hz : IsZip s.heap z TI TO .none) (hTI : IsPair s.heap TI (.ref i1) (.ref i2)) (hTO : IsPair s.heap TO a b)
    (h1 : s.heap.IsStrIter i1 (strIterType x) x t k) (h2 : s.heap.IsStrIter i2 (strIterType y) y u k) (hend : x.cps[k]? = none ∨ y.cps[k]? = none)
    (hE : ∀ h' tk e, (∀ c o, c ≠ z → c ≠ TO → c ≠ i1 → c ≠ i2 → s.heap.get? c = some o → h'.get? c = some o) → (∃ o, h'.get? e = some o ∧ o.cls = .type "StopIteration") → E (.ref e) { s with heap := h', toks := tk }) :
    wpAny (model prog w) A (Builtin.«zip.__next__» ⟨[.ref z], []⟩) Q E s := by
  show wpAny _ _ (field (.ref z) 2 >>= _) _ _ _
  refine wpAny_bind (wpAny_field hz rfl (x := .bool false) rfl ?_)
  show wpAny _ _ (field (.ref z) 3 >>= _) _ _ _
  refine wpAny_bind (wpAny_field hz rfl (x := .ref TI) rfl ?_)
  refine wpAny_bind (wpAny_seqItems hTI rfl ?_)
  show wpAny _ _ (Builtin.SmallTypes.ownedTupleIsFree (.ref z) >>= _) _ _ _
  refine wpAny_bind ?_
  unfold Builtin.SmallTypes.ownedTupleIsFree
  refine wpAny_bind (wpAny_field hz rfl (x := .none) rfl (wpAny_pure ?_))
  simp only [if_true]
  refine wpAny_bind (wpAny_rule ?_)
  refine wpAny_bind (wpAny_field hz rfl (x := .ref TO) rfl ?_)
  refine wpAny_bind (wpAny_setField_rec hz (by simp) fun h₁ hz₁ hs₁ => ?_)
  replace hz₁ : IsZip h₁ z TI TO .ellipsis := hz₁
  refine wpAny_bind ?_
  simp only [List.zipIdx_cons, List.zipIdx_nil, List.forIn_cons, List.forIn_nil]
  refine wpAny_bind (wpAny_bind (wpAny_onRaise ?_))
  show wpAny _ _ (Builtin.SmallTypes.nextOf (.ref i1) >>= _) _ _ _
  cases hx : x.cps[k]? with
  | none =>
    refine wpAny_bind (nextOf_str_end hh (strIter_but h1 hs₁.extBut D.i1z) hx fun h₂ e hs₂ he => ?_)
    obtain ⟨oe, hoe, hce⟩ := he
    have hz₂ : IsZip h₂ z TI TO .ellipsis := hs₂ _ _ D.i1z.symm hz₁
    have hez : e ≠ z := fun x => by subst x; rw [hz₂] at hoe; cases hoe; simp at hce
    refine wpAny_setField_rec hz₂ (by simp) fun h₃ _ hs₃ => hE h₃ _ e (fun c o c1 _ c3 _ x => hs₃.extBut _ _ c1 (hs₂ _ _ c3 (hs₁.extBut _ _ c1 x))) ⟨oe, hs₃.extBut _ _ hez hoe, hce⟩
  | some c =>
    have hy : y.cps[k]? = none := by rcases hend with h | h; rw [hx] at h; cases h; exact h
    refine wpAny_bind (nextOf_str (strIter_but h1 hs₁.extBut D.i1z) hx fun h₂ h1₂ hs₂ => wpAny_pure ?_)
    have hTO₂ : IsPair h₂ TO a b := hs₂.extBut _ _ D.TOi1 (hs₁.extBut _ _ D.TOz hTO)
    refine wpAny_bind (wpAny_seqItems (s := { s with heap := h₂, toks := s.toks + 1 }) hTO₂ rfl ?_)
    refine wpAny_bind (wpAny_updateSeq_pair (s := { s with heap := h₂, toks := s.toks + 1 }) hTO₂ fun h₃ hTO₃ hs₃ => ?_)
    refine wpAny_bind (wpAny_letGo (wpAny_pure ?_))
    refine wpAny_bind (wpAny_bind (wpAny_onRaise ?_))
    show wpAny _ _ (Builtin.SmallTypes.nextOf (.ref i2) >>= _) _ _ _
    refine wpAny_bind (nextOf_str_end (s := { s with heap := h₃, toks := s.toks + 1 }) hh (strIter_but (strIter_but (strIter_but h2 hs₁.extBut D.i2z) hs₂.extBut D.i12.symm) hs₃.extBut D.TOi2.symm) hy fun h₄ e hs₄ he => ?_)
    obtain ⟨oe, hoe, hce⟩ := he
    have hz₄ : IsZip h₄ z TI TO .ellipsis := hs₄ _ _ D.i2z.symm (hs₃.extBut _ _ D.TOz.symm (hs₂.extBut _ _ D.i1z.symm hz₁))
    have hez : e ≠ z := fun x => by subst x; rw [hz₄] at hoe; cases hoe; simp at hce
    refine wpAny_setField_rec (s := { s with heap := h₄, toks := s.toks + 1 }) hz₄ (by simp) fun h₅ _ hs₅ => hE h₅ _ e (fun c o c1 c2 c3 c4 x => hs₅.extBut _ _ c1 (hs₄ _ _ c4 (hs₃.extBut _ _ c2 (hs₂.extBut _ _ c3 (hs₁.extBut _ _ c1 x))))) ⟨oe, hs₅.extBut _ _ hez hoe, hce⟩
theorem next_zipS {prog : Program} {w : World} {A : Around} {E : Value → Shared → Prop} {s : Shared} {z TI TO i1 i2 : Addr} {x y : Str} {t u : Tok} {k c d : Nat} {a b : Value} {Q : Option Value → Shared → Prop} (D : ZipApart z TI TO i1 i2 TI TI)
    (hz : IsZip s.heap z TI TO .none) (hTI : IsPair s.heap TI (.ref i1) (.ref i2)) (hTO : IsPair s.heap TO a b)
    (h1 : s.heap.IsStrIter i1 (strIterType x) x t k) (h2 : s.heap.IsStrIter i2 (strIterType y) y u k) (hx : x.cps[k]? = some c) (hy : y.cps[k]? = some d)
    (hQ : ∀ h' tk p q, IsZip h' z TI TO (rawInt s.heap.objs.size) → IsPair h' TO (.str ⟨#[c]⟩ p) (.str ⟨#[d]⟩ q) → h'.IsStrIter i1 (strIterType x) x t (k + 1) → h'.IsStrIter i2 (strIterType y) y u (k + 1) → IsPair h' s.heap.objs.size (.str ⟨#[c]⟩ p) (.str ⟨#[d]⟩ q) → h'.objs.size = s.heap.objs.size + 1 →
      (∀ c o, c ≠ z → c ≠ TO → c ≠ i1 → c ≠ i2 → s.heap.get? c = some o → h'.get? c = some o) → Q (some (.ref s.heap.objs.size)) { s with heap := h', toks := tk }) :
    wpAny (model prog w) A (pyNext (.ref z)) Q E s := by
  have hT : s.TypeIs (.ref z) "zip" := ⟨_, hz, rfl⟩
  unfold pyNext
  exact wpAny_bind (wpAny_attempt (wpAny_callSpecial?_slot (name := Str.ofString "__next__") hT F.slot_zip_next
    (wpAny_call_entry F.slot_zip_next hT F.entry_zip_next
      (zipS_item D hz hTI hTO h1 h2 hx hy fun h' tk p q a1 a2 a3 a4 a5 a6 a7 => wpAny_pure (hQ h' tk p q a1 a2 a3 a4 a5 a6 a7)) (F.args_zip_next_1 _))))
theorem next_zipS_end {prog : Program} {w : World} {A : Around} {E : Value → Shared → Prop} {s : Shared} {z TI TO i1 i2 : Addr} {x y : Str} {t u : Tok} {k : Nat} {a b : Value} {Q : Option Value → Shared → Prop} (hh : A.handled = none) (D : ZipApart z TI TO i1 i2 TI TI)
    (hz : IsZip s.heap z TI TO .none) (hTI : IsPair s.heap TI (.ref i1) (.ref i2)) (hTO : IsPair s.heap TO a b)
    (h1 : s.heap.IsStrIter i1 (strIterType x) x t k) (h2 : s.heap.IsStrIter i2 (strIterType y) y u k) (hend : x.cps[k]? = none ∨ y.cps[k]? = none)
    (hQ : ∀ h' tk, (∀ c o, c ≠ z → c ≠ TO → c ≠ i1 → c ≠ i2 → s.heap.get? c = some o → h'.get? c = some o) → Q none { s with heap := h', toks := tk }) : wpAny (model prog w) A (pyNext (.ref z)) Q E s := by
  have hT : s.TypeIs (.ref z) "zip" := ⟨_, hz, rfl⟩
  unfold pyNext
  refine wpAny_bind (wpAny_attempt (wpAny_callSpecial?_slot (name := Str.ofString "__next__") hT F.slot_zip_next
    (wpAny_call_entry F.slot_zip_next hT F.entry_zip_next (zipS_end hh D hz hTI hTO h1 h2 hend fun h' tk e hk he => ?_) (F.args_zip_next_1 _))))
  obtain ⟨o, ho, hc⟩ := he
  refine wpAny_bind (wpAny_isInstance (s := { s with heap := h', toks := tk }) (T := "StopIteration") (b := true) ⟨o, ho, hc⟩ isSubtype_stop ?_)
  exact wpAny_pure (hQ _ _ hk)
abbrev strIt (x : Str) (t : Tok) : Obj := { cls := .type (strIterType x), data := .fields #[.str x t, .int 0 0] }
abbrev zsH2 (h : Heap) (x y : Str) (t u : Tok) : Heap := (h.push (strIt x t)).push (strIt y u)
abbrev zsH3 (h : Heap) (x y : Str) (t u : Tok) : Heap := (zsH2 h x y t u).push { cls := .type "tuple", data := .seq #[.ref h.objs.size, .ref (h.push (strIt x t)).objs.size] }
abbrev zsH4 (h : Heap) (x y : Str) (t u : Tok) : Heap := (zsH3 h x y t u).push { cls := .type "tuple", data := .seq #[.none, .none] }
abbrev zsH5 (h : Heap) (x y : Str) (t u : Tok) : Heap := (zsH4 h x y t u).push { cls := .type "zip", data := .fields #[.none, .bool false, .bool false, .ref (zsH2 h x y t u).objs.size, .ref (zsH3 h x y t u).objs.size] }
set_option maxHeartbeats 1000000 in
theorem meets_zip_newS (x y : Str) (t u : Tok) :
    Meets (Builtin.«zip.__new__» ⟨[.type "zip", .str x t, .str y u], []⟩) (fun _ R s => R (.ok (.ret (.ref (zsH4 s.heap x y t u).objs.size))) { s with heap := zsH5 s.heap x y t u }) :=
  .of_wp fun prog w A R s h => by
    obtain ⟨hp, g, d, tk, os⟩ := s
    have hsub := sub_zip
    wp_walk using wpAny_pyIter_strU (s := ⟨hp, g, d, tk, os⟩) (x := x) (t := t), wpAny_pyIter_strU (s := ⟨hp.push (strIt x t), g, d, tk, os⟩) (x := y) (t := u)
    exact ⟨_, rfl, h⟩
theorem call_zipS {prog : Program} {w : World} {A : Around} {E : Value → Shared → Prop} {s : Shared} {x y : Str} {t u : Tok} {Q : Value → Shared → Prop}
    (h : ∀ h', IsZip h' (s.heap.objs.size + 4) (s.heap.objs.size + 2) (s.heap.objs.size + 3) .none → IsPair h' (s.heap.objs.size + 2) (.ref s.heap.objs.size) (.ref (s.heap.objs.size + 1)) →
      IsPair h' (s.heap.objs.size + 3) .none .none → h'.IsStrIter s.heap.objs.size (strIterType x) x t 0 → h'.IsStrIter (s.heap.objs.size + 1) (strIterType y) y u 0 → h'.objs.size = s.heap.objs.size + 5 →
      (∀ c o, s.heap.get? c = some o → h'.get? c = some o) → Q (.ref (s.heap.objs.size + 4)) { s with heap := h' }) :
    wpAny (model prog w) A (call (.type "zip") [.str x t, .str y u]) Q E s := by
  refine callType_new F.called_zip (by decide) (F.typeCall_zip_2 _ _) (F.newCall_zip_2 _ _) (fun obj => F.args_object_init_3 obj _ _) F.entry_zip_new
    (meets_zip_newS x y t u) ?_
  have z1 : (s.heap.push (strIt x t)).objs.size = s.heap.objs.size + 1 := Heap.size_push ..
  have z2 : (zsH2 s.heap x y t u).objs.size = s.heap.objs.size + 2 := by rw [Heap.size_push, z1]
  have z3 : (zsH3 s.heap x y t u).objs.size = s.heap.objs.size + 3 := by rw [Heap.size_push, z2]
  have z4 : (zsH4 s.heap x y t u).objs.size = s.heap.objs.size + 4 := by rw [Heap.size_push, z3]
  have z5 : (zsH5 s.heap x y t u).objs.size = s.heap.objs.size + 5 := by rw [Heap.size_push, z4]
  have g5 : (zsH5 s.heap x y t u).get? (zsH4 s.heap x y t u).objs.size = some _ := Heap.get?_push_size _ rfl
  have g4 : (zsH5 s.heap x y t u).get? (zsH3 s.heap x y t u).objs.size = some _ := Heap.get?_push_of_some _ (Heap.get?_push_size _ rfl)
  have g3 : (zsH5 s.heap x y t u).get? (zsH2 s.heap x y t u).objs.size = some _ := Heap.get?_push_of_some _ (Heap.get?_push_of_some _ (Heap.get?_push_size _ rfl))
  have g2 : (zsH5 s.heap x y t u).get? (s.heap.push (strIt x t)).objs.size = some _ := Heap.get?_push_of_some _ (Heap.get?_push_of_some _ (Heap.get?_push_of_some _ (Heap.get?_push_size _ rfl)))
  have g1 : (zsH5 s.heap x y t u).get? s.heap.objs.size = some _ := Heap.get?_push_of_some _ (Heap.get?_push_of_some _ (Heap.get?_push_of_some _ (Heap.get?_push_of_some _ (Heap.get?_push_size _ rfl))))
  show _ ∧ _
  rw [z2, z3, z4] at g5
  rw [z1, z2] at g3
  rw [z3] at g4
  rw [z1] at g2
  rw [z4]
  exact ⟨⟨_, g5, rfl⟩, h _ g5 g3 g4 ⟨_, g1, rfl, rfl⟩ ⟨_, g2, rfl, rfl⟩ z5 fun c o x =>
    Heap.get?_push_of_some _ (Heap.get?_push_of_some _ (Heap.get?_push_of_some _ (Heap.get?_push_of_some _ (Heap.get?_push_of_some _ x))))⟩
/-- pairs of two texts; of two lists that stay -/
def ItzS (x y : Str) : It := ⟨fun i _ => i < x.cps.size ∧ i < y.cps.size, fun i H v H' => ∃ c d p, x.cps[i]? = some c ∧ y.cps[i]? = some d ∧ H p = none ∧ v = .ref p ∧ H' = upd H p (.tup [.str ⟨#[c]⟩, .str ⟨#[d]⟩]), fun i _ => x.cps.size ≤ i ∨ y.cps.size ≤ i⟩
def ItzL (K : PySem.W.Frag) (a b : Addr) : It := ⟨fun i H => ∃ xs ys x y, SqL K H a xs ∧ SqL K H b ys ∧ xs[i]? = some x ∧ ys[i]? = some y,
  fun i H v H' => ∃ x y p, (∀ xs, SqL K H a xs → xs[i]? = some x) ∧ (∀ ys, SqL K H b ys → ys[i]? = some y) ∧ H p = none ∧ v = .ref p ∧ H' = upd H p (.tup [x, y]),
  fun i H => ∃ xs ys, SqL K H a xs ∧ SqL K H b ys ∧ (xs.length ≤ i ∨ ys.length ≤ i)⟩
/-- behind an item of zip -/
theorem zip_out {X : Cx} {pins : List (Addr × Obj)} {σ : St} {H : Hp} {s : Shared} {h' : Heap} {tk : Nat} {z TI TO i1 i2 : Addr} {es : List Expr} {k1} {tp : Pos} {x y : V} {u v : Value} {i : Nat} {t1 t2 : Nat → Heap → Prop} {E : Value → Shared → Prop} {yld : V → Hp → Prop}
    (I : Inv X pins σ H s) (D : ZipApart z TI TO i1 i2 TI TI) (hf : ∀ b ∈ [z, TI, TO, i1, i2], FpOk X pins H b) (hl : ∀ b ∈ [z, TI, TO, i1, i2], ∃ o, s.heap.get? b = some o)
    (hz : IsZip h' z TI TO (rawInt s.heap.objs.size)) (hTI : IsPair h' TI (.ref i1) (.ref i2)) (hTO : ∃ a b, IsPair h' TO a b) (h1 : t1 (i + 1) h') (h2 : t2 (i + 1) h')
    (k1' : ∀ h1 h2, t1 (i + 1) h1 → (∀ o, h1.get? i1 = some o → h2.get? i1 = some o) → t1 (i + 1) h2) (k2' : ∀ h1 h2, t2 (i + 1) h1 → (∀ o, h1.get? i2 = some o → h2.get? i2 = some o) → t2 (i + 1) h2)
    (htup : IsPair h' s.heap.objs.size u v) (hk : ∀ c o, c ≠ z → c ≠ TO → c ≠ i1 → c ≠ i2 → s.heap.get? c = some o → h'.get? c = some o) (ru : RelV x u) (rv : RelV y v)
    (hy : yld (.ref s.heap.objs.size) (upd H s.heap.objs.size (.tup [x, y]))) :
    wpAny (model X.prog X.w) X.A (letOwnedTupleGo (.Tuple es k1 tp) (.ref z) (.ref s.heap.objs.size)) (fun _ s2 => ∃ x' H', Inv X pins σ H' s2 ∧ RelV x' (.ref s.heap.objs.size) ∧ yld x' H' ∧
      ((IsZip s2.heap z TI TO .none ∧ IsPair s2.heap TI (.ref i1) (.ref i2) ∧ (∃ a b, IsPair s2.heap TO a b)) ∧ t1 (i + 1) s2.heap ∧ t2 (i + 1) s2.heap) ∧ ∀ b ∈ [z, TI, TO, i1, i2], H' b = none) E { s with heap := h', toks := tk } := by
  refine wpAny_letOwnedTupleGo_zip (s := { s with heap := h', toks := tk }) hz fun h2' hz2 sb => ?_
  have nw : ∀ b ∈ [z, TI, TO, i1, i2], b ≠ s.heap.objs.size := fun b hb => let ⟨o, q⟩ := hl b hb; Nat.ne_of_lt (Heap.lt_size q)
  have hn := I.hok.fresh (Nat.le_refl s.heap.objs.size)
  have ht2 : IsPair h2' s.heap.objs.size u v := (sb.2 _ (Ne.symm (nw z (by simp)))).trans htup
  obtain ⟨a, b, hTO⟩ := hTO
  refine ⟨.ref s.heap.objs.size, upd H s.heap.objs.size (.tup [x, y]), ?_, rfl, hy, ⟨⟨hz2, (sb.2 _ D.TIz).trans hTI, _, _, (sb.2 _ D.TOz).trans hTO⟩, k1' h' h2' h1 fun o q => (sb.2 _ D.i1z).trans q, k2' h' h2' h2 fun o q => (sb.2 _ D.i2z).trans q⟩, fun b hb => ?_⟩
  · refine I.turnNew (ch := [z, TI, TO, i1, i2]) (fun b o hb q => ?_) hf hl (Nat.le_refl _) ?_
    · have n1 : b ≠ z := fun z => hb (by simp [z])
      have n2 : b ≠ TO := fun z => hb (by simp [z])
      have n3 : b ≠ i1 := fun z => hb (by simp [z])
      have n4 : b ≠ i2 := fun z => hb (by simp [z])
      exact (sb.2 b n1).trans (hk b o n1 n2 n3 n4 q)
    · exact ⟨by show 2 ≤ sizeLine; decide, [u, v], .cons ru (.cons rv .nil), ⟨_, ht2, rfl, _, rfl⟩⟩
  · rw [upd_ne (nw b hb)]; exact (hf b hb).1
theorem zip_fp {X : Cx} {pins : List (Addr × Obj)} {σ : St} {H : Hp} {s : Shared} {h' : Heap} {t' : Nat} {z TI TO i1 i2 : Addr} (I : Inv X pins σ H s) (hf : ∀ b ∈ [z, TI, TO, i1, i2], FpOk X pins H b) (hl : ∀ b ∈ [z, TI, TO, i1, i2], ∃ o, s.heap.get? b = some o)
    (hk : ∀ c o, c ≠ z → c ≠ TO → c ≠ i1 → c ≠ i2 → s.heap.get? c = some o → h'.get? c = some o) : Inv X pins σ H { s with heap := h', toks := t' } := by
  have nit : ∀ b u, H b = some u → b ∉ [z, TI, TO, i1, i2] := fun b u e q => by rw [(hf b q).1] at e; cases e
  have k : ∀ b o, b ∉ [z, TI, TO, i1, i2] → s.heap.get? b = some o → h'.get? b = some o := fun b o hb q => hk b o (fun z => hb (by simp [z])) (fun z => hb (by simp [z])) (fun z => hb (by simp [z])) (fun z => hb (by simp [z])) q
  refine I.step (g' := s.gens) (d' := s.drawn) (ch := [z, TI, TO, i1, i2]) (fun b hb => ?_) (fun b o _ _ hc e _ => k b o hc e) (fun b o _ _ hc e _ => ⟨o.slots, k b o hc e⟩) (fun b o _ e n => n)
    (fun b o hc e => ⟨o, k b o hc e⟩) (fun b xs e => e) (fun b o u e => e) (fun b ps e => ⟨#[], by rw [e]; simp⟩) (fun m hm => ?_) (fun b u e => ?_) I.bare
  · obtain ⟨f0, f1, f2, f3, f4, f5⟩ := hf b hb
    exact ⟨f3, f1, f4, f5⟩
  · obtain ⟨o, es, ep, ho, r⟩ := hm
    exact ⟨o, es, ep, k _ o (fun z => (hf _ z).2.1 rfl) ho, r⟩
  · refine (I.hok b u e).stay (fun c v hc q => k c v ?_ q) (fun c q => q) fun c xs q => q
    rcases hc with z | z
    · rw [z]; exact nit b u e
    · exact nit c _ z
theorem mem5 {z TI TO i1 i2 b : Addr} (h : b ∈ [z, TI, TO, i1, i2]) : b = z ∨ b = TI ∨ b = TO ∨ b = i1 ∨ b = i2 := by simpa using h
theorem turn_zipS {P : Program} {w : World} {K : PySem.W.Frag} {es : List Expr} {k1} {tp : Pos} (x y : Str) (t u : Tok) (z TI TO i1 i2 : Addr) (D : ZipApart z TI TO i1 i2 TI TI) :
    Turn P w K (.Tuple es k1 tp) (ItzS x y) [z, TI, TO, i1, i2] z (fun i h => (IsZip h z TI TO .none ∧ IsPair h TI (.ref i1) (.ref i2) ∧ (∃ a b, IsPair h TO a b)) ∧ h.IsStrIter i1 (strIterType x) x t i ∧ h.IsStrIter i2 (strIterType y) y u i) where
  mem := by simp
  obj := fun i h st b hb => by
    obtain ⟨⟨hz, hTI, a, b', hTO⟩, ⟨o1, q1, c1, d1⟩, o2, q2, c2, d2⟩ := st
    rcases mem5 hb with e | e | e | e | e <;> subst e
    · exact ⟨_, hz, fun v z => by cases z⟩
    · exact ⟨_, hTI, fun v z => by cases z⟩
    · exact ⟨_, hTO, fun v z => by cases z⟩
    · exact ⟨o1, q1, fun v z => by rw [d1] at z; cases z⟩
    · exact ⟨o2, q2, fun v z => by rw [d2] at z; cases z⟩
  keep := fun i h h' st k => by
    obtain ⟨⟨hz, hTI, a, b', hTO⟩, ⟨o1, q1, r1⟩, o2, q2, r2⟩ := st
    exact ⟨⟨k z (by simp) _ hz, k TI (by simp) _ hTI, a, b', k TO (by simp) _ hTO⟩, ⟨o1, k i1 (by simp) _ q1, r1⟩, o2, k i2 (by simp) _ q2, r2⟩
  item := by
    intro X hP hw hK hc i pins s σ H E I hf st hg
    subst hP hw hK
    obtain ⟨⟨hz, hTI, a, b', hTO⟩, h1, h2⟩ := st
    obtain ⟨g1, g2⟩ : i < x.cps.size ∧ i < y.cps.size := hg
    have hl : ∀ b ∈ [z, TI, TO, i1, i2], ∃ o, s.heap.get? b = some o := fun b hb => by
      rcases mem5 hb with e | e | e | e | e <;> subst e
      · exact ⟨_, hz⟩
      · exact ⟨_, hTI⟩
      · exact ⟨_, hTO⟩
      · exact let ⟨o, q, _⟩ := h1; ⟨o, q⟩
      · exact let ⟨o, q, _⟩ := h2; ⟨o, q⟩
    refine next_zipS D hz hTI hTO h1 h2 (c := x.cps[i]) (d := y.cps[i]) (by simp [g1]) (by simp [g2]) fun h' tk p q a1 a2 a3 a4 a5 a6 a7 => ⟨_, rfl, ?_⟩
    exact zip_out (x := .str ⟨#[x.cps[i]]⟩) (y := .str ⟨#[y.cps[i]]⟩) (t1 := fun i h => h.IsStrIter i1 (strIterType x) x t i) (t2 := fun i h => h.IsStrIter i2 (strIterType y) y u i) (yld := fun v H' => (ItzS x y).yld i H v H') I D hf hl a1 (a7 _ _ D.TIz D.TITO D.TIi1 D.TIi2 hTI) ⟨_, _, a2⟩ a3 a4
      (fun h1 h2 q k => let ⟨o, q, r⟩ := q; ⟨o, k o q, r⟩) (fun h1 h2 q k => let ⟨o, q, r⟩ := q; ⟨o, k o q, r⟩) a5 a7 ⟨_, rfl⟩ ⟨_, rfl⟩ ⟨x.cps[i], y.cps[i], _, by simp [g1], by simp [g2], I.hok.fresh (Nat.le_refl _), rfl, rfl⟩
  done := by
    intro X hP hw hK hc i pins s σ H E I hf st hg
    subst hP hw hK
    obtain ⟨⟨hz, hTI, a, b', hTO⟩, h1, h2⟩ := st
    have hl : ∀ b ∈ [z, TI, TO, i1, i2], ∃ o, s.heap.get? b = some o := fun b hb => by
      rcases mem5 hb with e | e | e | e | e <;> subst e
      · exact ⟨_, hz⟩
      · exact ⟨_, hTI⟩
      · exact ⟨_, hTO⟩
      · exact let ⟨o, q, _⟩ := h1; ⟨o, q⟩
      · exact let ⟨o, q, _⟩ := h2; ⟨o, q⟩
    have hg' : x.cps.size ≤ i ∨ y.cps.size ≤ i := hg
    refine next_zipS_end (I.ok.hd hc) D hz hTI hTO h1 h2 ?_ fun h' tk a7 => ⟨rfl, zip_fp I hf hl a7⟩
    rcases hg' with q | q
    · exact .inl (by simpa using q)
    · exact .inr (by simpa using q)
  self := fun _ _ _ _ _ st h => let ⟨⟨hz, _⟩, _⟩ := st; wpAny_pyIter_zip hz h
section
variable {X : Cx}
def iZipS (ta : TA) : TI := fun σ H R => ta σ H fun vs H1 => ∃ x y, vs = [.str x, .str y] ∧ R (ItzS x y) H1
def iZipL (K : PySem.W.Frag) (ta : TA) : TI := fun σ H R => ta σ H fun vs H1 => ∃ a b, vs = [.ref a, .ref b] ∧ (∃ xs, SqL K H1 a xs) ∧ (∃ ys, SqL K H1 b ys) ∧ R (ItzL K a b) H1
theorem apart5 (n : Nat) : ZipApart (n + 4) (n + 2) (n + 3) n (n + 1) (n + 2) (n + 2) := by
  constructor <;> (show @Ne Nat _ _; omega)
theorem fp5 {n b : Nat} (h : b ∈ [n + 4, n + 2, n + 3, n, n + 1]) : n ≤ b := by
  have h' : b = n + 4 ∨ b = n + 2 ∨ b = n + 3 ∨ b = n ∨ b = n + 1 := by simpa using h
  omega
theorem pi_zipS {a b : Expr} {ta : TA} {p pos tp : Pos} {es : List Expr} {k1} (hg : Gl X "zip") (hm : X.mg "zip" = none) (ha : PA X [a, b] ta) (hs : starEach [a, b] X.env = (false, eval a X.env) :: starEach [b] X.env := by rfl) (hp : (backTo pos (starEach [b] X.env)).any (·.1) = false := by rfl) :
    PI X (.Tuple es k1 tp) (.Call (.Name "zip" p) [a, b] [] pos) (iZipS ta) := by
  intro pins s σ H R I h
  refine Call_ (ld_blt I hg hm boot_zip (PyProof.Rows.callWith_type1 (thn (ha pos pins s σ H _ I h) fun us s1 ⟨vs, H1, I1, r1, q1⟩ => ?_) hs hp))
  obtain ⟨x, y, e, q⟩ := q1
  subst e
  obtain ⟨u, v, rfl, ru, rv⟩ := vals2 r1
  obtain ⟨t, rfl⟩ := ru
  obtain ⟨t', rfl⟩ := rv
  refine call_zipS fun h' a1 a2 a3 a4 a5 hsz hk => ?_
  refine wpAny_pyIter_zip (s := { s1 with heap := h' }) a1 ?_
  have I2 : Inv X pins σ H1 { s1 with heap := h' } := I1.kept (t' := s1.toks) hk
  refine ⟨s1.heap.objs.size + 4, _, _, _, H1, rfl, I2, turn_zipS x y t t' (s1.heap.objs.size + 4) (s1.heap.objs.size + 2) (s1.heap.objs.size + 3) s1.heap.objs.size (s1.heap.objs.size + 1) (apart5 _), ⟨⟨a1, a2, _, _, a3⟩, a4, a5⟩, fun b hb => ?_, q⟩
  exact I1.fpOk (fp5 hb) (I1.hok.fresh (fp5 hb))
end
end L2
set_option Elab.async false
set_option linter.all false
set_option maxRecDepth 100000
namespace L2
open PySem PySem.Spec PyProof.Rows
def tLCI (js : List (Option Nat)) (wi : TI) (g : TG) (tc : TT) (te : TE) : TE := fun σ H Q => wi σ H fun J H1 => ∀ l, H1 l = none → ∃ W : Nat → Nat → List V → St → Hp → Prop, (∃ m, W 0 m [] (blkSt js σ) (upd H1 l (.lst []))) ∧ ∀ i m acc σ' H', W i m acc σ' H' →
  ((J.stop i H' ∧ Q (.ref l) H') ∨ (J.go i H' ∧ ∀ x H2, J.yld i H' x H2 → g x σ' H2 fun σ2 H3 => tc σ2 H3 fun b H3' => if b = true then te σ2 H3' fun v H4 => H4 l = some (.lst acc) ∧ acc.length < sizeLine ∧ ∃ m', m' < m ∧ W (i + 1) m' (acc ++ [v]) σ2 (upd H4 l (.lst (acc ++ [v])))
    else ∃ m', m' < m ∧ W (i + 1) m' acc σ2 H3'))
end L2
set_option Elab.async false
set_option linter.all false
set_option maxRecDepth 100000
namespace L2
open PySem PySem.Spec PyProof.Rows
def Itd (hi : Int) (n : Nat) : It := ⟨fun i _ => i < n, fun i H x H' => H' = H ∧ x = .int (hi - i), fun i _ => n ≤ i⟩
section
variable {X : Cx} {tg : Expr}
def iRngD (ta : TA) : TI := fun σ H R => ta σ H fun vs H1 => ∃ i j : Int, vs = [.int i, .int j, .int (-1)] ∧ (-(2 ^ 62) ≤ i ∧ i < 2 ^ 62 ∧ -(2 ^ 62) ≤ j ∧ j < 2 ^ 62) ∧ R (Itd i (i - j).toNat) H1
end
/-- tuples stay -/
def Kt (H H' : Hp) : Prop := ∀ b ys, H b = some (.tup ys) → H' b = some (.tup ys)
theorem Same.kt {H H' : Hp} (h : Same H H') : Kt H H' := fun b ys e => h b _ e
theorem Kt.refl (H : Hp) : Kt H H := fun _ _ h => h
theorem Kt.trans {H H1 H2 : Hp} (a : Kt H H1) (b : Kt H1 H2) : Kt H H2 := fun c o h => b c o (a c o h)
theorem Kt.upd {H : Hp} {l : Addr} {o : HO} (h : ∀ ys, H l ≠ some (.tup ys)) : Kt H (upd H l o) := fun b ys e => by
  rw [upd_ne (fun z => h ys (by rw [← z]; exact e))]; exact e
structure ItOf (J : It) (H : Hp) (n : Nat) (F : Nat → V → Hp → Prop) : Prop where
  go : ∀ i H', i < n → Same H H' → J.go i H'
  stop : ∀ H', Same H H' → J.stop n H'
  yld : ∀ i H' x H2, i < n → Same H H' → J.yld i H' x H2 → Same H' H2 ∧ F i x H2
theorem same_new' {H : Hp} {l : Addr} {o : HO} (hl : H l = none) : Same H (upd H l o) := fun b u e => by rw [upd_ne (ne_of_none e hl)]; exact e
theorem itOf_str (z : Str) (H : Hp) : ItOf (Its z) H z.length (fun i x _ => ∃ c, (cds z)[i]? = some c ∧ x = .str ⟨#[c]⟩) where
  go := fun i H' h _ => h
  stop := fun H' _ => Nat.le_refl _
  yld := fun i H' x H2 _ _ y => by
    obtain ⟨e, c, hc, rfl⟩ := y
    subst e
    exact ⟨Same.refl _, c, by rw [← hc]; simp [cds], rfl⟩
theorem itOf_list {K : PySem.W.Frag} {a : Addr} {xs : List V} {H : Hp} (h : SqL K H a xs) : ItOf (Itl K a) H xs.length (fun i x _ => xs[i]? = some x) where
  go := fun i H' hi hS => ⟨xs, xs[i], hS.seq h, by simp [hi]⟩
  stop := fun H' hS => ⟨xs, hS.seq h, Nat.le_refl _⟩
  yld := fun i H' x H2 hi hS y => by
    obtain ⟨e, q⟩ := y
    subst e
    exact ⟨Same.refl _, q xs (hS.seq h)⟩
theorem itOf_range (lo : Int) (n : Nat) (H : Hp) : ItOf (Itr lo n) H n (fun i x _ => x = .int (lo + i)) where
  go := fun i H' h _ => h
  stop := fun H' _ => Nat.le_refl _
  yld := fun i H' x H2 _ _ y => by
    obtain ⟨e, q⟩ := y
    subst e
    exact ⟨Same.refl _, q⟩
theorem itOf_zipS (x y : Str) (H : Hp) : ItOf (ItzS x y) H (min x.length y.length) (fun i v H2 => ∃ c d p, (cds x)[i]? = some c ∧ (cds y)[i]? = some d ∧ v = .ref p ∧ H2 p = some (.tup [.str ⟨#[c]⟩, .str ⟨#[d]⟩])) where
  go := fun i H' h _ => ⟨Nat.lt_of_lt_of_le h (Nat.min_le_left _ _), Nat.lt_of_lt_of_le h (Nat.min_le_right _ _)⟩
  stop := fun H' _ => by
    show x.length ≤ min x.length y.length ∨ y.length ≤ min x.length y.length
    omega
  yld := fun i H' v H2 _ _ q => by
    obtain ⟨c, d, p, hc, hd, hp, rfl, rfl⟩ := q
    exact ⟨same_new' hp, c, d, p, by rw [← hc]; simp [cds], by rw [← hd]; simp [cds], rfl, upd_same⟩
theorem paired_map {α : Type} {f : α → V} : ∀ {a : List α} {b : List V}, Paired (fun i v => v = f i) a b → b = a.map f
  | _, _, .nil => rfl
  | _, _, .cons h t => by rw [h, paired_map t]; rfl
theorem lc_gen {J : It} {H : Hp} {n : Nat} {F : Nat → V → Hp → Prop} {js : List (Option Nat)} {g : TG} {te : TE} {σ : St} {Fi : Addr → Hp → Prop} (it : ItOf J H n F) (hn : n ≤ sizeLine) (S : St → Prop) (G : Nat → V → Hp → Prop) (mono : ∀ i v H' H2, G i v H' → Kt H' H2 → G i v H2) (h0 : S (blkSt js σ))
    (step : ∀ i x σ' H', i < n → F i x H' → S σ' → Same H H' → ∀ (R : St → V → Hp → Prop), (∀ σ2 v H2, S σ2 → Same H' H2 → G i v H2 → R σ2 v H2) →
      g x σ' H' fun σ2 H3 => te σ2 H3 fun v H4 => R σ2 v H4)
    (fin : ∀ l vs H', Same H H' → H l = none → H' l = some (.lst vs) → Paired (fun i v => G i v H') (List.range n) vs → Fi l H') :
    ∀ l, H l = none → ∃ W : Nat → Nat → List V → St → Hp → Prop, (∃ m, W 0 m [] (blkSt js σ) (upd H l (.lst []))) ∧ ∀ i m acc σ' H', W i m acc σ' H' →
      ((J.stop i H' ∧ Fi l H') ∨ (J.go i H' ∧ ∀ x H2, J.yld i H' x H2 → g x σ' H2 fun σ2 H3 => te σ2 H3 fun v H4 => H4 l = some (.lst acc) ∧ acc.length < sizeLine ∧ ∃ m', m' < m ∧ W (i + 1) m' (acc ++ [v]) σ2 (upd H4 l (.lst (acc ++ [v]))))) := by
  intro l hl
  refine ⟨fun i m acc σ' H' => m = n - i ∧ i ≤ n ∧ S σ' ∧ Same H H' ∧ H' l = some (.lst acc) ∧ Paired (fun i v => G i v H') (List.range i) acc, ⟨n, by simp, Nat.zero_le _, h0, same_new' hl, upd_same, .nil⟩, ?_⟩
  rintro i m acc σ' H' ⟨rfl, hi, hs, hS, hL, hP⟩
  by_cases hlt : i < n
  · refine .inr ⟨it.go i H' hlt hS, fun x H2 y => ?_⟩
    obtain ⟨hS2, hF⟩ := it.yld i H' x H2 hlt hS y
    have hlen : acc.length < sizeLine := by
      have h1 := Paired.length hP
      rw [List.length_range] at h1
      exact Nat.lt_of_lt_of_le (by omega) hn
    refine step i x σ' H2 hlt hF hs (hS.trans hS2) (fun σ2 v H4 => _) (fun σ2 v H3 s3 hS3 hG => ?_)
    have hL3 : H3 l = some (.lst acc) := hS3 _ _ (hS2 _ _ hL)
    have kt : Kt H3 (upd H3 l (.lst (acc ++ [v]))) := .upd fun ys e => by rw [hL3] at e; cases e
    refine ⟨hL3, hlen, n - (i + 1), by omega, rfl, hlt, s3, ?_, upd_same, ?_⟩
    · intro b o e
      rw [upd_ne (ne_of_none e hl)]
      exact hS3 _ _ (hS2 _ _ (hS _ _ e))
    · rw [List.range_succ]
      exact Paired.snoc (Paired.imp' (fun a b h => mono _ _ _ _ h ((hS2.trans hS3).kt.trans kt)) hP) (mono _ _ _ _ hG kt)
  · have e : i = n := by omega
    subst e
    exact .inl ⟨it.stop H' hS, fin l acc H' hS hl hL hP⟩
/-- the elements are told by their place -/
theorem lc_fun {J : It} {H : Hp} {n : Nat} {F : Nat → V → Hp → Prop} {js : List (Option Nat)} {g : TG} {te : TE} {σ : St} {Fi : Addr → Hp → Prop} (it : ItOf J H n F) (hn : n ≤ sizeLine) (S : St → Prop) (f : Nat → V) (h0 : S (blkSt js σ))
    (step : ∀ i x σ' H', i < n → F i x H' → S σ' → Same H H' → ∀ (R : St → V → Hp → Prop), (∀ σ2 H2, S σ2 → Same H' H2 → R σ2 (f i) H2) →
      g x σ' H' fun σ2 H3 => te σ2 H3 fun v H4 => R σ2 v H4)
    (fin : ∀ l H', Same H H' → H l = none → H' l = some (.lst ((List.range n).map f)) → Fi l H') :
    ∀ l, H l = none → ∃ W : Nat → Nat → List V → St → Hp → Prop, (∃ m, W 0 m [] (blkSt js σ) (upd H l (.lst []))) ∧ ∀ i m acc σ' H', W i m acc σ' H' →
      ((J.stop i H' ∧ Fi l H') ∨ (J.go i H' ∧ ∀ x H2, J.yld i H' x H2 → g x σ' H2 fun σ2 H3 => te σ2 H3 fun v H4 => H4 l = some (.lst acc) ∧ acc.length < sizeLine ∧ ∃ m', m' < m ∧ W (i + 1) m' (acc ++ [v]) σ2 (upd H4 l (.lst (acc ++ [v]))))) :=
  lc_gen it hn S (fun i v _ => v = f i) (fun _ _ _ _ h _ => h) h0 (fun i x σ' H' a b c d R k => step i x σ' H' a b c d R fun σ2 H2 s hS => k σ2 _ H2 s hS rfl)
    fun l vs H' hS hl hL hP => fin l H' hS hl (by rw [hL, paired_map hP])
end L2
set_option Elab.async false
set_option linter.all false
set_option maxRecDepth 100000
namespace L2
open PySem PySem.Spec PyProof.Rows
theorem setGen_toks (s : Shared) (g : Nat) (x : GenState) : (s.setGen g x).toks = s.toks := rfl
theorem runs_toks {M : Model} {Γ : PySem.Ctx} {p : Pos} {t : Sem Fin} {fs : List Frame} {s s' : Shared} {e : End} (h : Runs M Γ p t fs s e s') : s.toks ≤ s'.toks := by
  induction h <;> first
    | exact Nat.le_refl _
    | assumption
    | (simp only [setGen_toks] at *; omega)
    | (simp only [setGen_toks] at *; first | assumption | exact Nat.le_of_succ_le (by assumption) | exact Nat.le_trans (by assumption) (by assumption))
    | (rename_i ih; exact Nat.le_trans (Nat.le_succ _) ih)
    | (rename_i ih1 ih2; exact Nat.le_trans ih1 ih2)
theorem wakes_toks {M : Model} {Γ : PySem.Ctx} {p : Pos} {g : Nat} {r : Resume} {s s' : Shared} {res : GenResult} (h : Wakes M Γ p g r s res s') : s.toks ≤ s'.toks := by
  unfold Wakes at h
  split at h
  · exact h.elim
  · split at h
    · obtain ⟨e, s1, hr, _, _, rfl⟩ := h
      have := runs_toks hr
      exact this
    · obtain ⟨_, rfl⟩ := h
      exact Nat.le_refl _
    · obtain ⟨_, rfl⟩ := h
      exact Nat.le_refl _
  · obtain ⟨e, s1, hr, _, _, rfl⟩ := h
    have := runs_toks hr
    exact this
  · obtain ⟨_, rfl⟩ := h
    exact Nat.le_refl _
  · obtain ⟨_, rfl⟩ := h
    exact Nat.le_refl _
theorem wp_toks {α : Type} {M : Model} {Γ : PySem.Ctx} : ∀ (t : Sem α) (n : Nat) (Q : α → Pos → Shared → Prop) (E : Value → Pos → Shared → Prop) (p : Pos) (s : Shared), n ≤ s.toks → Sem.wp M Γ t (fun a p' s' => n ≤ s'.toks → Q a p' s') (fun e p' s' => n ≤ s'.toks → E e p' s') p s → Sem.wp M Γ t Q E p s := by
  intro t n
  induction t with
  | pure a => intro Q E p s hn h; exact h hn
  | raise e => intro Q E p s hn h; exact h hn
  | unsupported _ => intro Q E p s hn h; exact h
  | finish _ => intro Q E p s hn h; exact h
  | rule _ k ih => intro Q E p s hn h; exact ih () Q E p s hn h
  | «at» p' k ih => intro Q E p s hn h; exact ih () Q E p' s hn h
  | load a _ k ih => intro Q E p s hn h; obtain ⟨o, h1, h2⟩ := h; exact ⟨o, h1, ih o Q E p s hn h2⟩
  | update a _ f k ih => intro Q E p s hn h; exact ⟨h.1, ih () Q E p _ hn h.2⟩
  | loadIfAlive a k ih => intro Q E p s hn h; exact ih _ Q E p s hn h
  | point _ k ih => intro Q E p s hn h; exact ih () Q E p s hn h
  | register _ _ _ => intro Q E p s hn h; exact h
  | alloc o k ih => intro Q E p s hn h; exact ih _ Q E p _ hn h
  | fresh k ih => intro Q E p s hn h; exact ih _ Q E p _ (Nat.le_succ_of_le hn) h
  | ask k ih => intro Q E p s hn h; exact ih _ Q E p s hn h
  | choose src m k ih => intro Q E p s hn h; exact ⟨h.1, ih _ Q E p _ hn h.2⟩
  | os q _ k ih => intro Q E p s hn h; exact ih _ Q E p _ hn h
  | call c hh _ _ k ih =>
    intro Q E p s hn h
    obtain ⟨r, s', hr, hw⟩ := h
    exact ⟨r, s', hr, ih r Q E p s' (Nat.le_trans hn (runs_toks hr)) hw⟩
  | handled own k ih => intro Q E p s hn h; exact ih _ Q E p s hn h
  | genState g k ih => intro Q E p s hn h; obtain ⟨o, h1, h2⟩ := h; exact ⟨o, h1, ih _ Q E p s hn h2⟩
  | newGen c k ih => intro Q E p s hn h; exact ih _ Q E p _ hn h
  | resume g r _ k ih =>
    intro Q E p s hn h
    obtain ⟨res, s', hr, hw⟩ := h
    exact ⟨res, s', hr, ih res Q E p s' (Nat.le_trans hn (wakes_toks hr)) hw⟩
  | yield _ _ _ _ _ => intro Q E p s hn h; exact h
  | stack k ih => intro Q E p s hn h; exact ih _ Q E p s hn h
  | fork _ _ _ => intro Q E p s hn h; exact h
  | thread k ih => intro Q E p s hn h; exact ih _ Q E p s hn h
  | await _ _ _ _ _ _ => intro Q E p s hn h; exact h
theorem wpAny_tk {α : Type} {M : Model} {A : Around} {t : Sem α} {Q : α → Shared → Prop} {E : Value → Shared → Prop} {s : Shared} {n : Nat} (hn : n ≤ s.toks) (h : wpAny M A t (fun a s' => n ≤ s'.toks → Q a s') (fun e s' => n ≤ s'.toks → E e s') s) : wpAny M A t Q E s :=
  fun Γ p hΓ => wp_toks t n _ _ p s hn (h Γ p hΓ)
end L2
set_option Elab.async false
set_option linter.all false
set_option maxRecDepth 100000
namespace L2
open PySem PySem.Spec PyProof.Rows Builtin Builtin.Str
/-- the places of a sign, at most n of them -/
def occs (a : Nat) : Nat → Nat → List Nat → List Nat
  | _, _, [] => []
  | n, i, x :: r => if x = a ∧ 0 < n then i :: occs a (n - 1) (i + 1) r else occs a n (i + 1) r
/-- the first n signs a turned to c -/
def replN (a c : Nat) : Nat → List Nat → List Nat
  | _, [] => []
  | n, x :: r => if x = a ∧ 0 < n then c :: replN a c (n - 1) r else x :: replN a c n r
theorem occ_run (x : Str) (a limit : Nat) : ∀ (m i : Nat) (st : Array Nat × Nat), i + m = x.length → st.2 ≤ i →
    (forIn (List.range' i (m + 1)) st (StrLaws.occBody x ⟨#[a]⟩ x.length limit)).run.fst.toList = st.1.toList ++ occs a (limit - st.1.size) i ((cds x).drop i)
  | 0, i, st, hm, hs => by
    have hi : (cds x).drop i = [] := List.drop_eq_nil_of_le (by rw [cds_len]; omega)
    rw [hi]
    rw [List.range'_succ, List.forIn_cons]
    unfold StrLaws.occBody
    have hn : ¬ ((((st.fst.size < limit ∧ st.snd ≤ i) ∧ i + (⟨#[a]⟩ : Str).length ≤ x.length)) ∧ subAt x ⟨#[a]⟩ i = true) := fun h => by
      have h1 : i + 1 ≤ x.length := h.1.2
      omega
    rw [if_neg hn]
    simp [occs]
  | m + 1, i, st, hm, hs => by
    have hil : i < (cds x).length := by rw [cds_len]; omega
    have hd : (cds x).drop i = (cds x)[i] :: (cds x).drop (i + 1) := List.drop_eq_getElem_cons hil
    rw [List.range'_succ, List.forIn_cons]
    have hiff := StrLaws.subAt_one x a i
    have hget : (cds x)[i]? = some (cds x)[i] := List.getElem?_eq_getElem hil
    rw [hd]
    by_cases hc : (cds x)[i] = a ∧ 0 < limit - st.1.size
    · have h2 := hiff.mpr (by rw [← hc.1]; exact hget)
      unfold StrLaws.occBody
      rw [if_pos ⟨⟨⟨by omega, hs⟩, h2.1⟩, h2.2⟩]
      have ih := occ_run x a limit m (i + 1) (st.1.push i, i + (⟨#[a]⟩ : Str).length) (by omega) (Nat.le_refl _)
      refine Eq.trans ih ?_
      simp only [occs, hc, and_self, if_true, Array.toList_push, Array.size_push]
      rw [List.append_assoc, List.singleton_append, show limit - (st.1.size + 1) = limit - st.1.size - 1 by omega]
    · have hn : ¬ ((((st.fst.size < limit ∧ st.snd ≤ i) ∧ i + (⟨#[a]⟩ : Str).length ≤ x.length)) ∧ subAt x ⟨#[a]⟩ i = true) := fun h => by
        have h3 := hiff.mp ⟨h.1.2, h.2⟩
        have h4 : (cds x)[i]? = some a := h3
        rw [hget] at h4
        exact hc ⟨Option.some.inj h4, by have := h.1.1.1; omega⟩
      unfold StrLaws.occBody
      rw [if_neg hn]
      have ih := occ_run x a limit m (i + 1) (st.1, st.2) (by omega) (Nat.le_succ_of_le hs)
      refine Eq.trans ih ?_
      simp only [occs]
      rw [if_neg hc]
theorem occ_one (x : Str) (a limit : Nat) : occurrences x ⟨#[a]⟩ 0 x.length limit = occs a limit 0 (cds x) := by
  rw [StrLaws.occ_eq]
  have h := occ_run x a limit x.length 0 (#[], 0) (by omega) (Nat.le_refl _)
  simpa using h
theorem occs_count (a : Nat) : ∀ (l : List Nat) (n i : Nat), l.length ≤ n → (occs a n i l).length = l.count a
  | [], _, _, _ => rfl
  | x :: r, n, i, h => by
    simp only [List.length_cons] at h
    unfold occs
    by_cases e : x = a
    · rw [if_pos ⟨e, by omega⟩, List.length_cons, occs_count a r (n - 1) (i + 1) (by omega), e, List.count_cons_self]
    · rw [if_neg (fun z => e z.1), occs_count a r n (i + 1) (by omega), List.count_cons_of_ne (by simpa using e)]
theorem count_one (x : Str) (a : Nat) : Txt.count x ⟨#[a]⟩ = ((cds x).count a : Int) := by
  show ((occurrences x ⟨#[a]⟩ 0 x.length (x.length + 1)).length : Int) = _
  rw [occ_one, occs_count]
  rw [cds_len]; omega
theorem cds_sub (x : Str) (i j : Nat) : cds (strSub x i j) = ((cds x).drop i).take (j - i) := StrLaws.strSub_toList x i j
theorem join_parts (x : Str) (a c : Nat) : ∀ (l : List Nat) (n i j : Nat), (cds x).drop i = l → j ≤ i → cds (Str.join ⟨#[c]⟩ (StrLaws.partsFrom x 1 j (occs a n i l))) = ((cds x).drop j).take (i - j) ++ replN a c n l
  | [], n, i, j, h, hj => by
    have hi : (cds x).length ≤ i := by
      have := congrArg List.length h
      rw [List.length_drop, List.length_nil] at this
      omega
    show cds (strSub x j x.length) = _
    rw [cds_sub, replN, List.append_nil, List.take_of_length_le (by rw [List.length_drop, cds_len]; omega), List.take_of_length_le (by rw [List.length_drop]; omega)]
  | y :: r, n, i, j, h, hj => by
    have hil : i < (cds x).length := by
      have := congrArg List.length h
      rw [List.length_drop, List.length_cons] at this
      omega
    have hd : (cds x).drop i = (cds x)[i] :: (cds x).drop (i + 1) := List.drop_eq_getElem_cons hil
    rw [h] at hd
    have h1 : (cds x).drop (i + 1) = r := (List.cons.inj hd).2.symm
    have h0 : (cds x)[i] = y := (List.cons.inj hd).1.symm
    unfold occs replN
    by_cases e : y = a ∧ 0 < n
    · rw [if_pos e, if_pos e]
      have ih := join_parts x a c r (n - 1) (i + 1) (i + 1) h1 (Nat.le_refl _)
      obtain ⟨p, q, hp⟩ := StrLaws.partsFrom_ne x 1 (i + 1) (occs a (n - 1) (i + 1) r)
      show cds (Str.join ⟨#[c]⟩ (strSub x j i :: StrLaws.partsFrom x 1 (i + 1) (occs a (n - 1) (i + 1) r))) = _
      rw [hp] at ih ⊢
      show cds (strSub x j i ++ ⟨#[c]⟩ ++ Str.join ⟨#[c]⟩ (p :: q)) = _
      rw [cds_app, cds_app, ih, cds_sub, cds_one]
      simp
    · rw [if_neg e, if_neg e]
      rw [join_parts x a c r n (i + 1) j h1 (by omega)]
      rw [show i + 1 - j = (i - j) + 1 by omega, List.take_add_one]
      have hg : ((cds x).drop j)[i - j]? = some y := by
        rw [List.getElem?_drop, show j + (i - j) = i by omega, List.getElem?_eq_getElem hil, h0]
      rw [hg]
      simp
theorem replN_len (a c : Nat) : ∀ (n : Nat) (l : List Nat), (replN a c n l).length = l.length
  | _, [] => rfl
  | n, x :: r => by
    unfold replN
    split
    · rw [List.length_cons, replN_len a c (n - 1) r, List.length_cons]
    · rw [List.length_cons, replN_len a c n r, List.length_cons]
theorem replN_no (a c : Nat) : ∀ (n i : Nat) (l : List Nat), occs a n i l = [] → replN a c n l = l
  | _, _, [], _ => rfl
  | n, i, x :: r, h => by
    unfold occs at h
    unfold replN
    by_cases e : x = a ∧ 0 < n
    · rw [if_pos e] at h; cases h
    · rw [if_neg e] at h ⊢
      rw [replN_no a c n (i + 1) r h]
/-- the text with the first n signs a turned to c -/
def replS (z : Str) (a c n : Nat) : Str := ⟨(replN a c n (cds z)).toArray⟩
theorem cds_repl (z : Str) (a c n : Nat) : cds (replS z a c n) = replN a c n (cds z) := rfl
theorem glued_repl (x : Str) (a c n : Nat) : glued ⟨#[c]⟩ (partsBetween x (occurrences x ⟨#[a]⟩ 0 x.length n) (⟨#[a]⟩ : Str).length) = replS x a c n := by
  refine str_ext ?_
  rw [StrLaws.glued_eq_join, StrLaws.partsBetween_eq, occ_one, cds_repl]
  have := join_parts x a c (cds x) n 0 0 rfl (Nat.le_refl _)
  rw [Nat.sub_self, List.take_zero, List.nil_append] at this
  exact this
theorem replS_len (z : Str) (a c n : Nat) : (replS z a c n).length = z.length := by rw [← cds_len, cds_repl, replN_len, cds_len]
theorem occ_fits (x : Str) (a n : Nat) (hx : x.length ≤ 1000000) : tooLong (x.length + (occurrences x ⟨#[a]⟩ 0 x.length n).length * 1) = false := by
  have h1 : ∀ (l : List Nat) (n i : Nat), (occs a n i l).length ≤ l.length := by
    intro l
    induction l with
    | nil => intro n i; exact Nat.le_refl _
    | cons y r ih =>
      intro n i
      unfold occs
      split
      · simp only [List.length_cons]; have := ih (n - 1) (i + 1); omega
      · simp only [List.length_cons]; have := ih n (i + 1); omega
  have h2 := h1 (cds x) n 0
  rw [cds_len] at h2
  rw [occ_one]
  unfold tooLong
  rw [sizeLine_eq]
  exact decide_eq_false (by omega)
theorem gives_repl2 (x : Str) (a c : Nat) (t u v : Tok) (hx : x.length ≤ 1000000) (hu : u ≠ 0) (hv : v ≠ 0) (huv : u ≠ v) (hac : a ≠ c) :
    Gives («str.replace» ⟨[.str x t, .str ⟨#[a]⟩ u, .str ⟨#[c]⟩ v], []⟩) (if (occurrences x ⟨#[a]⟩ 0 x.length (x.length + 1)).isEmpty = true then .val (.str x t) else .str (replS x a c (x.length + 1))) := by
  have h := gives_str_replace x ⟨#[a]⟩ ⟨#[c]⟩ t u v fun _ => ⟨by simp [hu, hv], by simp [huv], by
    rw [Bool.eq_false_iff]
    intro q
    have := eq_of_beq q
    have := congrArg cds this
    simp [cds] at this
    exact hac this, occ_fits x a _ hx⟩
  rw [show ((⟨#[a]⟩ : Str).length == 0) = false from rfl, Bool.false_and, Bool.or_false, glued_repl] at h
  exact h
theorem gives_repl3 (x : Str) (a c : Nat) (k : Int) (t u v q : Tok) (hx : x.length ≤ 1000000) (hu : u ≠ 0) (hv : v ≠ 0) (huv : u ≠ v) (hac : a ≠ c) (hk0 : 0 ≤ k) (hk1 : k < 2 ^ 62) :
    Gives («str.replace» ⟨[.str x t, .str ⟨#[a]⟩ u, .str ⟨#[c]⟩ v, .int k q], []⟩) (if (occurrences x ⟨#[a]⟩ 0 x.length k.toNat).isEmpty = true then .val (.str x t) else .str (replS x a c k.toNat)) := by
  have hyz : ((⟨#[a]⟩ : Str) == ⟨#[c]⟩) = false := by
    rw [Bool.eq_false_iff]
    intro q
    have := eq_of_beq q
    have := congrArg cds this
    simp [cds] at this
    exact hac this
  show Gives (do
    let limit ← countLimit "str.replace" (some (.int k q)) (x.length + 1)
    if ((occurrences x ⟨#[a]⟩ 0 x.length limit).isEmpty || ((⟨#[a]⟩ : Str).length == 0 && (⟨#[c]⟩ : Str).length == 0)) = true then (do rule "str.replace.nothing"; ret (.str x t)) else
          (do let same ← isSame (.str ⟨#[a]⟩ u) (.str ⟨#[c]⟩ v)
              if same = true then (do rule "str.replace.old-is-new"; ret (.str x t)) else
              if tooLong (x.length + (occurrences x ⟨#[a]⟩ 0 x.length limit).length * (⟨#[c]⟩ : Str).length) = true then unsupported "str.replace:memory" else
              retStr (glued ⟨#[c]⟩ (partsBetween x (occurrences x ⟨#[a]⟩ 0 x.length limit) (⟨#[a]⟩ : Str).length)))) _
  rw [countLimit_int "str.replace" k q (x.length + 1) (by
    rw [decide_eq_false (by omega), decide_eq_false (by omega)]
    rfl), if_neg (by omega)]
  show Gives (if ((occurrences x ⟨#[a]⟩ 0 x.length k.toNat).isEmpty || ((⟨#[a]⟩ : Str).length == 0 && (⟨#[c]⟩ : Str).length == 0)) = true then (do rule "str.replace.nothing"; ret (.str x t)) else
          (do let same ← isSame (.str ⟨#[a]⟩ u) (.str ⟨#[c]⟩ v)
              if same = true then (do rule "str.replace.old-is-new"; ret (.str x t)) else
              if tooLong (x.length + (occurrences x ⟨#[a]⟩ 0 x.length k.toNat).length * (⟨#[c]⟩ : Str).length) = true then unsupported "str.replace:memory" else
              retStr (glued ⟨#[c]⟩ (partsBetween x (occurrences x ⟨#[a]⟩ 0 x.length k.toNat) (⟨#[a]⟩ : Str).length)))) _
  rw [show ((⟨#[a]⟩ : Str).length == 0) = false from rfl, Bool.false_and, Bool.or_false]
  cases hc : (occurrences x ⟨#[a]⟩ 0 x.length k.toNat).isEmpty
  · rw [isSame_str_other _ _ u v (by simp [hu, hv]) (by simp [huv]) hyz, show (⟨#[c]⟩ : Str).length = 1 from rfl, occ_fits x a _ hx, glued_repl]
    exact .of_eq rfl
  · exact .rule (.of_eq rfl)
theorem repl_same (x : Str) (a c n : Nat) (h : (occurrences x ⟨#[a]⟩ 0 x.length n).isEmpty = true) : replS x a c n = x := by
  rw [occ_one] at h
  refine str_ext ?_
  rw [cds_repl, replN_no a c n 0 (cds x) (List.isEmpty_iff.mp h)]
section
variable {prog : Program} {w : World} {A : Around} {E : Value → Shared → Prop} {s : Shared} {x : Str} {a c : Nat} {t u v q : Tok} {k : Int} {Q : Value → Shared → Prop}
theorem repl2_ok (hx : x.length ≤ 1000000) (hu : u ≠ 0) (hv : v ≠ 0) (huv : u ≠ v) (hac : a ≠ c) (hq : ∀ t' k, Q (.str (replS x a c (x.length + 1)) t') { s with toks := k }) :
    wpAny (model prog w) A (call (.builtin "str.replace") [.str x t, .str ⟨#[a]⟩ u, .str ⟨#[c]⟩ v]) Q E s := by
  refine call_gives F.slot_str_replace (typeIs_str _ _ _) F.entry_str_replace (F.args_str_replace_3 _ _ _) (gives_repl2 x a c t u v hx hu hv huv hac) ?_
  cases hc : (occurrences x ⟨#[a]⟩ 0 x.length (x.length + 1)).isEmpty
  · simp only [Bool.false_eq_true, if_false]
    exact ⟨by rw [replS_len, sizeLine_eq]; omega, hq _ _⟩
  · simp only [if_true]
    have := hq t s.toks
    rw [repl_same x a c _ hc] at this
    exact this
theorem repl3_ok (hx : x.length ≤ 1000000) (hu : u ≠ 0) (hv : v ≠ 0) (huv : u ≠ v) (hac : a ≠ c) (hk0 : 0 ≤ k) (hk1 : k < 2 ^ 62) (hq : ∀ t' j, Q (.str (replS x a c k.toNat) t') { s with toks := j }) :
    wpAny (model prog w) A (call (.builtin "str.replace") [.str x t, .str ⟨#[a]⟩ u, .str ⟨#[c]⟩ v, .int k q]) Q E s := by
  refine call_gives F.slot_str_replace (typeIs_str _ _ _) F.entry_str_replace (F.args_str_replace_4 _ _ _ _) (gives_repl3 x a c k t u v q hx hu hv huv hac hk0 hk1) ?_
  cases hc : (occurrences x ⟨#[a]⟩ 0 x.length k.toNat).isEmpty
  · simp only [Bool.false_eq_true, if_false]
    exact ⟨by rw [replS_len, sizeLine_eq]; omega, hq _ _⟩
  · simp only [if_true]
    have := hq t s.toks
    rw [repl_same x a c _ hc] at this
    exact this
end
/-- text.count(sign) -/
def rCount (a : Nat) : V → List V → Hp → VK → Prop := fun x vs H Q => ∃ z y, x = .str z ∧ vs = [.str y] ∧ y = ⟨#[a]⟩ ∧ Q (.int ((cds z).count a)) H
theorem mt_count {X : Cx} (a : Nat) : MtR X "str.count" (rCount a) := by
  intro pins s σ H x xs v us Q I rx r h
  obtain ⟨z, y, rfl, rfl, rfl, q⟩ := h
  obtain ⟨t, rfl⟩ := rx
  obtain ⟨u, rfl, ru⟩ := vals1 r
  obtain ⟨t', rfl⟩ := ru
  exact SC.count ⟨.int _, H, I.tok _, ⟨_, rfl⟩, by rw [count_one]; exact q⟩
end L2
set_option Elab.async false
set_option linter.all false
set_option maxRecDepth 100000
namespace L2
open PySem PySem.Spec PyProof.Rows
/-- .. if one has been made ahead -/
def PEp (X : Cx) (e : Expr) (t : TE) : Prop :=
  ∀ (pins : List (Addr × Obj)) (s : Shared) (σ : St) (H : Hp) (Q : VK), 1 ≤ s.toks → Inv X pins σ H s → t σ H Q → wpAny (model X.prog X.w) X.A (eval e X.env) (EP X pins σ Q) X.xe s
def PSp (X : Cx) (st : Stmt) (t : TS) : Prop :=
  ∀ (pins : List (Addr × Obj)) (s : Shared) (σ : St) (H : Hp) (D : Ends), 1 ≤ s.toks → Inv X pins σ H s → t D σ H → wpAny (model X.prog X.w) X.A (exec st X.env) (SP X pins D) X.xe s
def PSsp (X : Cx) (st : List Stmt) (t : TS) : Prop :=
  ∀ (pins : List (Addr × Obj)) (s : Shared) (σ : St) (H : Hp) (D : Ends), 1 ≤ s.toks → Inv X pins σ H s → t D σ H → wpAny (model X.prog X.w) X.A (execs st X.env) (SP X pins D) X.xe s
/-- .. one is made -/
def PEu (X : Cx) (e : Expr) (t : TE) : Prop :=
  ∀ (pins : List (Addr × Obj)) (s : Shared) (σ : St) (H : Hp) (Q : VK), Inv X pins σ H s → t σ H Q → wpAny (model X.prog X.w) X.A (eval e X.env) (fun v s' => EP X pins σ Q v s' ∧ 1 ≤ s'.toks) X.xe s
def PTu (X : Cx) (e : Expr) (t : TT) : Prop :=
  ∀ (pins : List (Addr × Obj)) (s : Shared) (σ : St) (H : Hp) (Q : Bool → Hp → Prop), Inv X pins σ H s → t σ H Q → wpAny (model X.prog X.w) X.A (isTrue e X.env (eval e X.env)) (fun v s' => TP X pins σ Q v s' ∧ 1 ≤ s'.toks) X.xe s
def PSu (X : Cx) (st : Stmt) (t : TS) : Prop :=
  ∀ (pins : List (Addr × Obj)) (s : Shared) (σ : St) (H : Hp) (D : Ends), Inv X pins σ H s → t D σ H → wpAny (model X.prog X.w) X.A (exec st X.env) (fun f s' => SP X pins D f s' ∧ 1 ≤ s'.toks) X.xe s
def PSsu (X : Cx) (st : List Stmt) (t : TS) : Prop :=
  ∀ (pins : List (Addr × Obj)) (s : Shared) (σ : St) (H : Hp) (D : Ends), Inv X pins σ H s → t D σ H → wpAny (model X.prog X.w) X.A (execs st X.env) (fun f s' => SP X pins D f s' ∧ 1 ≤ s'.toks) X.xe s
theorem wpAny_up {α : Type} {M : Model} {A : Around} {t : Sem α} {Q : α → Shared → Prop} {E : Value → Shared → Prop} {s : Shared} {n : Nat} (hn : n ≤ s.toks) (h : wpAny M A t Q E s) : wpAny M A t (fun a s' => Q a s' ∧ n ≤ s'.toks) E s :=
  wpAny_tk hn (wpAny_mono h (fun _ _ q hk => ⟨q, hk⟩) fun _ _ q _ => q)
section
variable {X : Cx} {e a b : Expr} {ta tb te : TE} {st : Stmt} {rest : List Stmt} {t u : TS} {pos : Pos}
theorem PE.p (h : PE X e te) : PEp X e te := fun pins s σ H Q _ I q => h pins s σ H Q I q
theorem PS.p (h : PS X st t) : PSp X st t := fun pins s σ H D _ I q => h pins s σ H D I q
theorem PSs.p (h : PSs X rest t) : PSsp X rest t := fun pins s σ H D _ I q => h pins s σ H D I q
theorem peu_opC {op : Operator} {r : R2} {i : Int} {j : Nat} {p2 : Pos} (ho : OpR X (binaryOp op) r) (ha : PE X a ta) : PEu X (.BinOp a op (.Constant (.int i) j p2) pos) (tOp r ta (tC (.int i))) := by
  intro pins s σ H Q I h
  refine wpAny_BinOp (thn (ha pins s σ H _ I h) fun v s1 ⟨x, H1, I1, r1, q1⟩ => wpAny_Constant_int ?_)
  exact wpAny_up (Nat.succ_le_succ (Nat.zero_le _)) (ho pins _ σ H1 x (.int i) v _ Q (I1.tok _) r1 ⟨_, rfl⟩ q1)
theorem peu_opL {op : Operator} {r : R2} (ho : OpR X (binaryOp op) r) (ha : PEu X a ta) (hb : PE X b tb) : PEu X (.BinOp a op b pos) (tOp r ta tb) := by
  intro pins s σ H Q I h
  refine wpAny_BinOp (thn (ha pins s σ H _ I h) fun v s1 ⟨⟨x, H1, I1, r1, q1⟩, k1⟩ => ?_)
  refine thn (wpAny_up k1 (hb pins s1 σ H1 _ I1 q1)) fun u s2 ⟨⟨y, H2, I2, r2, q2⟩, k2⟩ => ?_
  exact wpAny_up k2 (ho pins s2 σ H2 x y v u Q I2 r1 r2 q2)
theorem ptu_cmpL {op : CmpOp} {r : R2} (ho : OpR X (compareOp op) r) (ha : PEu X a ta) (hb : PE X b tb) (hm : behindInMarks op b = false) : PTu X (.Compare a [op] [b] pos) (tTest (tOp r ta tb)) := by
  intro pins s σ H Q I h
  refine wpAny_isTrue_Compare1 (thn (ha pins s σ H _ I h) fun v s1 ⟨⟨x, H1, I1, r1, q1⟩, k1⟩ => thn (wpAny_up k1 (hb pins s1 σ H1 _ I1 q1)) fun u s2 ⟨⟨y, H2, I2, r2, q2⟩, k2⟩ =>
    thn (wpAny_up k2 (ho pins s2 σ H2 x y v u _ I2 r1 r2 q2)) fun c s3 ⟨⟨z, H3, I3, r3, k, e, q3⟩, k3⟩ => ?_) hm
  subst e
  cases r3
  exact wpAny_truthy_bool ⟨⟨H3, I3, q3⟩, k3⟩
theorem psu_if {c : Expr} {aa bb : List Stmt} {tc : TT} (hc : PTu X c tc) (ha : PSs X aa t) (hb : PSs X bb u) : PSu X (.If c aa bb pos) (tIfS tc t u) := by
  intro pins s σ H D I h
  refine wpAny_If (thn (hc pins s σ H _ I h) fun d s1 ⟨⟨H1, I1, q1⟩, k1⟩ => ?_)
  cases d with
  | true => exact wpAny_up k1 (ha pins s1 σ H1 D I1 q1)
  | false => exact wpAny_up k1 (hb pins s1 σ H1 D I1 q1)
theorem psu_set {i : Nat} {x : Str} {pos' : Pos} (hN : X.N.Nodup) (hi : X.N[i]? = some x) (hx : Loc X.env.scope x) (he : PEu X e te) (hs : swapsWith e (some (.Name x pos')) pos.line X.env = pure false := by rfl) (hf : X.fn x = true ∨ X.env.scope.names.lookup x = some .local := by first | exact .inl rfl | exact .inr rfl | assumption) :
    PSu X (.Assign [.Name x pos'] e pos) (tAsg te (gName i)) := by
  intro pins s σ H D I h
  refine wpAny_Assign_Name (thn (he pins s σ H _ I h) fun v s1 ⟨⟨y, H1, I1, r1, q1⟩, k1⟩ => ?_) hs
  exact wpAny_up k1 (store_ok I1 hN hi hx r1 (fun s2 I2 => ⟨_, H1, I2, q1⟩) hf)
/-- a statement that makes one, then code that wants one -/
theorem pss_up (h1 : PSu X st t) (h2 : PSsp X rest u) : PSs X (st :: rest) (tSeq t u) := by
  intro pins s σ H D I h
  refine wpAny_execs_cons (thn (h1 pins s σ H { D with nx := u D } I h) fun f s1 ⟨q, k⟩ => ?_)
  cases f with
  | next =>
    obtain ⟨σ', H', I', q⟩ := q
    exact h2 pins s1 σ' H' D k I' q
  | ret v => exact q
  | brk => exact q
  | cont => exact q
theorem pssp_one (h1 : PSp X st t) : PSsp X [st] t := by
  intro pins s σ H D k I h
  refine wpAny_execs_cons (thn (h1 pins s σ H D k I h) fun f s1 q => ?_)
  cases f with
  | next => exact wpAny_execs_nil q
  | ret v => exact q
  | brk => exact q
  | cont => exact q
theorem pssu_head (h1 : PSu X st t) (h2 : PSs X rest u) : PSsu X (st :: rest) (tSeq t u) := by
  intro pins s σ H D I h
  refine wpAny_execs_cons (thn (h1 pins s σ H { D with nx := u D } I h) fun f s1 ⟨q, k⟩ => ?_)
  cases f with
  | next =>
    obtain ⟨σ', H', I', q⟩ := q
    exact wpAny_up k (h2 pins s1 σ' H' D I' q)
  | ret v => exact ⟨q, k⟩
  | brk => exact ⟨q, k⟩
  | cont => exact ⟨q, k⟩
theorem psp_ret (he : PEp X e te) : PSp X (.Return (some e) pos) (tRet te) := by
  intro pins s σ H D k I h
  exact wpAny_Return_some (thn (he pins s σ H _ k I h) fun v s1 ⟨x, H1, I1, r1, q1⟩ => ⟨x, σ, H1, I1, r1, q1⟩)
end
section
variable {X : Cx} {o e : Expr} {to te : TE} {apos cpos : Pos}
def tRep2 (a c : Nat) (to : TE) : TE := fun σ H Q => to σ H fun x H1 => ∃ z, x = .str z ∧ z.length ≤ 1000000 ∧ Q (.str (replS z a c (z.length + 1))) H1
def tRep3 (a c : Nat) (to te : TE) : TE := fun σ H Q => to σ H fun x H1 => ∃ z, x = .str z ∧ te σ H1 fun y H2 => ∃ k, y = .int k ∧ z.length ≤ 1000000 ∧ 0 ≤ k ∧ k < 2 ^ 62 ∧ Q (.str (replS z a c k.toNat)) H2
theorem pep_rep2 {y z : Str} (a c : Nat) {j1 j2 : Nat} {p1 p2 : Pos} (ho : PEp X o to) (hy : y = ⟨#[a]⟩) (hz : z = ⟨#[c]⟩) (hac : a ≠ c) (hbase : attributeBase o "replace" X.env (eval o X.env) = eval o X.env := by rfl)
    (hline : (apos.endLine == cpos.line) = true := by rfl) :
    PEp X (.Call (.Attribute o "replace" apos) [.Constant (.str y) j1 p1, .Constant (.str z) j2 p2] [] cpos) (tRep2 a c to) := by
  subst hy hz
  intro pins s σ H Q k I h
  refine wpAny_Call_method_late hbase rfl hline rfl (thn (wpAny_up k (ho pins s σ H (fun x H1 => ∃ z, x = .str z ∧ z.length ≤ 1000000 ∧ Q (.str (replS z a c (z.length + 1))) H1) k I h)) fun v s1 ⟨⟨x, H1, I1, r1, z, e, hl, q1⟩, k1⟩ => ?_)
  subst e
  obtain ⟨t, rfl⟩ := r1
  obtain ⟨h1, h2⟩ := tyV_is (T := "str") I1 (x := .str z) ⟨t, rfl⟩ rfl
  refine ⟨"str", "str.replace", PySem.F.plainAttrs_str, PySem.F.slot_str_replace, PySem.F.type_str_replace, h1, h2, ?_⟩
  refine Calls.callWith_builtin rfl (Calls.evalArgs_plain ?_)
  show wpAny _ _ (spliced ((false, eval (.Constant (.str ⟨#[a]⟩) j1 p1) X.env) :: (false, eval (.Constant (.str ⟨#[c]⟩) j2 p2) X.env) :: [])) _ _ s1
  refine Calls.spliced_cons (Calls.Constant_str (Calls.spliced_cons (Calls.Constant_str (Calls.spliced_nil ?_))))
  show wpAny _ _ (call (.builtin "str.replace") [.str z t, .str ⟨#[a]⟩ s1.toks, .str ⟨#[c]⟩ (s1.toks + 1)]) _ _ _
  exact repl2_ok hl (Nat.ne_of_gt k1) (Nat.succ_ne_zero _) (Nat.ne_of_lt (Nat.lt_succ_self _)) hac fun t' j => ⟨.str _, H1, (I1.tok (s1.toks + 1 + 1)).tok j, ⟨_, rfl⟩, q1⟩
theorem pep_rep3 {y z : Str} (a c : Nat) {j1 j2 : Nat} {p1 p2 : Pos} (ho : PEp X o to) (hy : y = ⟨#[a]⟩) (hz : z = ⟨#[c]⟩) (hac : a ≠ c) (he : PE X e te) (hbase : attributeBase o "replace" X.env (eval o X.env) = eval o X.env := by rfl)
    (hfew : ((backTo cpos (starEach [.Constant (.str y) j1 p1, .Constant (.str z) j2 p2, e] X.env)).all (fun x => !x.1) && (backToKw cpos (keywordEach [] X.env)).all (fun x => x.1.isSome)
      && decide (([.Constant (.str y) j1 p1, .Constant (.str z) j2 p2, e] : List Expr).length + ([] : List Keyword).length + (if ([] : List Keyword).isEmpty then 0 else 1) < 30)) = true := by rfl)
    (hline : (apos.endLine == cpos.line) = true := by rfl) (hs : starEach [e] X.env = [(false, eval e X.env)] := by rfl) :
    PEp X (.Call (.Attribute o "replace" apos) [.Constant (.str y) j1 p1, .Constant (.str z) j2 p2, e] [] cpos) (tRep3 a c to te) := by
  subst hy hz
  intro pins s σ H Q k I h
  refine wpAny_Call_method_late hbase hfew hline rfl (thn (wpAny_up k (ho pins s σ H (fun x H1 => ∃ z, x = .str z ∧ te σ H1 fun y H2 => ∃ k, y = .int k ∧ z.length ≤ 1000000 ∧ 0 ≤ k ∧ k < 2 ^ 62 ∧ Q (.str (replS z a c k.toNat)) H2) k I h)) fun v s1 ⟨⟨x, H1, I1, r1, z, ez, q1⟩, k1⟩ => ?_)
  have e3 : backTo cpos (starEach [.Constant (.str ⟨#[a]⟩) j1 p1, .Constant (.str ⟨#[c]⟩) j2 p2, e] X.env) = [(false, eval (.Constant (.str ⟨#[a]⟩) j1 p1) X.env), (false, eval (.Constant (.str ⟨#[c]⟩) j2 p2) X.env), (false, eval e X.env)] := by
    show (false, eval (.Constant (.str ⟨#[a]⟩) j1 p1) X.env) :: (false, eval (.Constant (.str ⟨#[c]⟩) j2 p2) X.env) :: backTo cpos (starEach [e] X.env) = _
    rw [hs]; rfl
  rw [e3]
  subst ez
  obtain ⟨t, rfl⟩ := r1
  obtain ⟨h1, h2⟩ := tyV_is (T := "str") I1 (x := .str z) ⟨t, rfl⟩ rfl
  refine ⟨"str", "str.replace", PySem.F.plainAttrs_str, PySem.F.slot_str_replace, PySem.F.type_str_replace, h1, h2, ?_⟩
  refine Calls.callWith_builtin rfl (Calls.evalArgs_plain ?_)
  refine Calls.spliced_cons (Calls.Constant_str (Calls.spliced_cons (Calls.Constant_str (Calls.spliced_cons ?_))))
  refine thn (he pins _ σ H1 _ (I1.tok (s1.toks + 1 + 1)) q1) fun w s2 ⟨y, H2, I2, r2, k', e2, hl, hk0, hk1, q2⟩ => ?_
  subst e2
  obtain ⟨t2, rfl⟩ := r2
  refine Calls.spliced_nil ?_
  show wpAny _ _ (call (.builtin "str.replace") [.str z t, .str ⟨#[a]⟩ s1.toks, .str ⟨#[c]⟩ (s1.toks + 1), .int k' t2]) _ _ _
  exact repl3_ok hl (Nat.ne_of_gt k1) (Nat.succ_ne_zero _) (Nat.ne_of_lt (Nat.lt_succ_self _)) hac hk0 hk1 fun t' j => ⟨.str _, H2, I2.tok j, ⟨_, rfl⟩, q2⟩
end
end L2
set_option Elab.async false
set_option linter.all false
set_option maxRecDepth 100000
namespace L2
open PySem PySem.Spec PyProof.Rows
structure FnUp (P : Program) (w : World) (K : PySem.W.Frag) (mg : Str → Option Value) (base : Heap) (CX : CXT) (k : Nat) (f : Addr) (fd : FuncData) (ps : List Str) (sp : Sp) : Prop where
  len : ∀ vs H Q E, sp vs H Q E → vs.length = ps.length
  run : ∀ (A : Around) (outer : List Env) (s : Shared) (H : Hp) (args : Args) (us : List Value) (vs : List V) (Q : VK) (E : XK), Room k A → Env0 P w K mg base A outer s H → BindsTo s fd args (ps.zip us) → Vals vs us → sp vs H Q E →
    codeAny (model P w) A (.call (.ref f) args) (fun r s' => CR CX outer P w H s Q E r s' ∧ ∀ fl, r = .ok fl → 1 ≤ s'.toks) s
structure FnPos (P : Program) (w : World) (K : PySem.W.Frag) (mg : Str → Option Value) (base : Heap) (CX : CXT) (k : Nat) (f : Addr) (fd : FuncData) (ps : List Str) (sp : Sp) : Prop where
  len : ∀ vs H Q E, sp vs H Q E → vs.length = ps.length
  run : ∀ (A : Around) (outer : List Env) (s : Shared) (H : Hp) (args : Args) (us : List Value) (vs : List V) (Q : VK) (E : XK), 1 ≤ s.toks → Room k A → Env0 P w K mg base A outer s H → BindsTo s fd args (ps.zip us) → Vals vs us → sp vs H Q E →
    codeAny (model P w) A (.call (.ref f) args) (CR CX outer P w H s Q E) s
theorem FnUp.ok {P : Program} {w : World} {K : PySem.W.Frag} {mg : Str → Option Value} {base : Heap} {CX : CXT} {k : Nat} {f : Addr} {fd : FuncData} {ps : List Str} {sp : Sp} (F : FnUp P w K mg base CX k f fd ps sp) : FnOk P w K mg base CX k f fd ps sp :=
  ⟨F.len, fun A outer s H args us vs Q E hr he hb hv hs => codeAny_mono (F.run A outer s H args us vs Q E hr he hb hv hs) fun _ _ q => q.1⟩
theorem fn_up {CX : CXT} {P : Program} {w : World} {K : PySem.W.Frag} {mg : Str → Option Value} {base : Heap} {k : Nat} {f : Addr} {name qual : Str} {params : Arguments} {body : List Stmt} {scope : Scope} {dV kV doc pm cdv ct oc : Value} {an od : Option Addr}
    {osl : Array (Option Value)} {N ps : List Str} {sp : Sp} (lk : K.lookup f = some ⟨oc, od, .func (PySem.W.fnOf name qual params body scope dV kV doc pm an cdv ct), osl⟩) (hcd : PySem.W.codeIn K cdv qual = true) (S : FnScope N ps scope)
    (len : ∀ vs H Q E, sp vs H Q E → vs.length = ps.length)
    (hbody : ∀ (A : Around) (outer : List Env) (s : Shared) (H : Hp) (vs : List V) (Q : VK) (E : XK), Room k (A.deeper (envOfC qual scope s.heap.objs.size f cdv)) → sp vs H Q E →
      ∃ t, PSsu (cxOf CX P w K mg base N qual scope f cdv A outer s H E) body t ∧ t { nx := fun _ H' => Q .non H', rt := Q } (start N vs) H) :
    FnUp P w K mg base CX (k + 1) f (PySem.W.fnOf name qual params body scope dV kV doc pm an cdv ct) ps sp := by
  refine ⟨len, fun A outer s H args us vs Q E hr e0 hb r hsp => ?_⟩
  have hl := len _ _ _ _ hsp
  have KX : K.In s.heap := e0.mod.kin.keeps fun b o e => (e0.bs b o e).1
  have lim : s.heap.NoLimit := e0.mod.nolimit.keeps fun b o e => (e0.bs b o e).1
  have hkind : ∀ y ∈ ps.zip us, scope.names.lookup y.1 = some .local ∨ (scope.names.lookup y.1 = some .cell ∧ ((cellsFrom (s.heap.objs.size + 1) scope.names []).lookup y.1).isSome = true) := fun ⟨n, v⟩ hy => by
    rcases S.par n (List.of_mem_zip hy).1 with q | q
    · exact .inl q
    · exact .inr ⟨q, PySem.W.cellsFrom_some _ _ _ (.inl q)⟩
  refine codeAny_call_function hr.depth (KX _ _ lk) rfl S.co S.gen rfl (PySem.W.codeRec_of KX hcd) (hb _ _ _ _ ?_)
  refine wpAny_newFunctionEnv_cells S.kind hkind fun env he s1 x => ?_
  subst he
  refine ⟨lim.keeps x.toInCall.keep, codeAny_func ?_⟩
  obtain ⟨t, ht, hq⟩ := hbody A outer s H vs Q E (hr.deeper _) hsp
  have I : Inv (cxOf CX P w K mg base N qual scope f cdv A outer s H E) [] (start N vs) H s1 := inv_start S hr.hd e0 hl r x
  refine wpAny_mono (ht [] s1 (start N vs) H _ I hq) (fun fl s' hs => ?_) fun e s' hs => wpAny_mono hs (fun _ _ q => ⟨q, fun _ z => nomatch z⟩) fun _ _ q => ⟨q, fun _ z => nomatch z⟩
  obtain ⟨hs, hk⟩ := hs
  have fin : ∀ {σ' : St} {H' : Hp} {v : V} {u : Value}, Inv (cxOf CX P w K mg base N qual scope f cdv A outer s H E) [] σ' H' s' → RelV v u → Q v H' → CE outer P w H s Q u s' :=
    fun {σ' H' v u} J rv q => ⟨v, H', J.os, J.bare, J.base, J.hok, rv, q⟩
  cases fl with
  | ret u =>
    obtain ⟨v, σ', H', J, rv, q⟩ := hs
    exact ⟨fin J rv q, fun _ _ => hk⟩
  | next =>
    obtain ⟨σ', H', J, q⟩ := hs
    exact ⟨fin (v := V.non) (u := Value.none) J rfl q, fun _ _ => hk⟩
  | brk =>
    obtain ⟨_, _, _, q⟩ := hs
    exact False.elim q
  | cont =>
    obtain ⟨_, _, _, q⟩ := hs
    exact False.elim q
theorem fn_pos {CX : CXT} {P : Program} {w : World} {K : PySem.W.Frag} {mg : Str → Option Value} {base : Heap} {k : Nat} {f : Addr} {name qual : Str} {params : Arguments} {body : List Stmt} {scope : Scope} {dV kV doc pm cdv ct oc : Value} {an od : Option Addr}
    {osl : Array (Option Value)} {N ps : List Str} {sp : Sp} (lk : K.lookup f = some ⟨oc, od, .func (PySem.W.fnOf name qual params body scope dV kV doc pm an cdv ct), osl⟩) (hcd : PySem.W.codeIn K cdv qual = true) (S : FnScope N ps scope)
    (len : ∀ vs H Q E, sp vs H Q E → vs.length = ps.length)
    (hbody : ∀ (A : Around) (outer : List Env) (s : Shared) (H : Hp) (vs : List V) (Q : VK) (E : XK), Room k (A.deeper (envOfC qual scope s.heap.objs.size f cdv)) → sp vs H Q E →
      ∃ t, PSsp (cxOf CX P w K mg base N qual scope f cdv A outer s H E) body t ∧ t { nx := fun _ H' => Q .non H', rt := Q } (start N vs) H) :
    FnPos P w K mg base CX (k + 1) f (PySem.W.fnOf name qual params body scope dV kV doc pm an cdv ct) ps sp := by
  refine ⟨len, fun A outer s H args us vs Q E tk hr e0 hb r hsp => ?_⟩
  have hl := len _ _ _ _ hsp
  have KX : K.In s.heap := e0.mod.kin.keeps fun b o e => (e0.bs b o e).1
  have lim : s.heap.NoLimit := e0.mod.nolimit.keeps fun b o e => (e0.bs b o e).1
  have hkind : ∀ y ∈ ps.zip us, scope.names.lookup y.1 = some .local ∨ (scope.names.lookup y.1 = some .cell ∧ ((cellsFrom (s.heap.objs.size + 1) scope.names []).lookup y.1).isSome = true) := fun ⟨n, v⟩ hy => by
    rcases S.par n (List.of_mem_zip hy).1 with q | q
    · exact .inl q
    · exact .inr ⟨q, PySem.W.cellsFrom_some _ _ _ (.inl q)⟩
  refine codeAny_call_function hr.depth (KX _ _ lk) rfl S.co S.gen rfl (PySem.W.codeRec_of KX hcd) (hb _ _ _ _ ?_)
  refine wpAny_tk tk ?_
  refine wpAny_newFunctionEnv_cells S.kind hkind fun env he s1 x tk1 => ?_
  subst he
  refine ⟨lim.keeps x.toInCall.keep, codeAny_func ?_⟩
  obtain ⟨t, ht, hq⟩ := hbody A outer s H vs Q E (hr.deeper _) hsp
  have I : Inv (cxOf CX P w K mg base N qual scope f cdv A outer s H E) [] (start N vs) H s1 := inv_start S hr.hd e0 hl r x
  refine wpAny_mono (ht [] s1 (start N vs) H _ tk1 I hq) (fun fl s' hs => ?_) fun e s' hs => hs
  have fin : ∀ {σ' : St} {H' : Hp} {v : V} {u : Value}, Inv (cxOf CX P w K mg base N qual scope f cdv A outer s H E) [] σ' H' s' → RelV v u → Q v H' → CE outer P w H s Q u s' :=
    fun {σ' H' v u} J rv q => ⟨v, H', J.os, J.bare, J.base, J.hok, rv, q⟩
  cases fl with
  | ret u =>
    obtain ⟨v, σ', H', J, rv, q⟩ := hs
    exact fin J rv q
  | next =>
    obtain ⟨σ', H', J, q⟩ := hs
    exact fin (v := V.non) (u := Value.none) J rfl q
  | brk =>
    obtain ⟨_, _, _, q⟩ := hs
    exact False.elim q
  | cont =>
    obtain ⟨_, _, _, q⟩ := hs
    exact False.elim q
section
variable {P : Program} {w : World} {K : PySem.W.Frag} {mg : Str → Option Value} {base : Heap} {x qual : Str} {st : Stmt} {f : Addr} {fd : FuncData} {N ps : List Str} {k : Nat} {sp : Sp}
theorem Inv.nox {X : Cx} {pins : List (Addr × Obj)} {σ : St} {H : Hp} {s : Shared} (I : Inv X pins σ H s) : Inv X.nox pins σ H s := I.wish _
theorem PSsu.nox {X : Cx} {sts : List Stmt} {t : TS} (h : PSsu X.nox sts t) : PSsu X sts t := fun pins s σ H D I hw =>
  wpAny_mono (h pins s σ H D (I.wish _) hw) (fun _ _ q => ⟨q.1.unwish, q.2⟩) fun _ _ z => False.elim z
theorem PSsp.nox {X : Cx} {sts : List Stmt} {t : TS} (h : PSsp X.nox sts t) : PSsp X sts t := fun pins s σ H D k I hw =>
  wpAny_mono (h pins s σ H D k (I.wish _) hw) (fun _ _ q => q.unwish) fun _ _ z => False.elim z
theorem Fun.up (F : Fun K x qual st f fd) (S : FnScope N ps (defScope st)) (len : ∀ vs H Q E, sp vs H Q E → vs.length = ps.length)
    (hbody : ∀ (cdv : Value) (A : Around) (outer : List Env) (s : Shared) (H : Hp) (vs : List V) (Q : VK) (E : XK), Room k (A.deeper (envOfC qual (defScope st) s.heap.objs.size f cdv)) → sp vs H Q E →
      ∃ t, PSsu (cxOf CX0 P w K mg base N qual (defScope st) f cdv A outer s H E).nox (defBody st) t ∧ t { nx := fun _ H' => Q .non H', rt := Q } (start N vs) H) : FnUp P w K mg base CX0 (k + 1) f fd ps sp := by
  obtain ⟨oc, od, kV, doc, pm, an, cdv, ct, osl, rfl, lk, hcd⟩ := F.ex
  refine fn_up lk hcd S len fun A outer s H vs Q E hr hsp => ?_
  obtain ⟨t, h, q⟩ := hbody cdv A outer s H vs Q E hr hsp
  exact ⟨t, h.nox, q⟩
theorem Fun.pos (F : Fun K x qual st f fd) (S : FnScope N ps (defScope st)) (len : ∀ vs H Q E, sp vs H Q E → vs.length = ps.length)
    (hbody : ∀ (cdv : Value) (A : Around) (outer : List Env) (s : Shared) (H : Hp) (vs : List V) (Q : VK) (E : XK), Room k (A.deeper (envOfC qual (defScope st) s.heap.objs.size f cdv)) → sp vs H Q E →
      ∃ t, PSsp (cxOf CX0 P w K mg base N qual (defScope st) f cdv A outer s H E).nox (defBody st) t ∧ t { nx := fun _ H' => Q .non H', rt := Q } (start N vs) H) : FnPos P w K mg base CX0 (k + 1) f fd ps sp := by
  obtain ⟨oc, od, kV, doc, pm, an, cdv, ct, osl, rfl, lk, hcd⟩ := F.ex
  refine fn_pos lk hcd S len fun A outer s H vs Q E hr hsp => ?_
  obtain ⟨t, h, q⟩ := hbody cdv A outer s H vs Q E hr hsp
  exact ⟨t, h.nox, q⟩
end
section
variable {X : Cx} {CX : CXT} {k : Nat} {f C : Addr} {fd : FuncData} {ps : List Str} {sp : Sp} {dvs : List V} {ds : List Value} {E : XK} {x m : Str} {p pos apos : Pos} {e o : Expr} {es : List Expr} {ta : TE} {t : TA}
end
end L2
set_option Elab.async false
set_option linter.all false
set_option maxRecDepth 100000
namespace L2
open PySem PySem.Spec PyProof.Rows
section
variable {X : Cx} {e es : Expr} {te ts : TE} {pos p2 : Pos}
def revS (z : Str) : Str := ⟨(cds z).reverse.toArray⟩
theorem cds_rev (z : Str) : cds (revS z) = (cds z).reverse := rfl
theorem revS_len (z : Str) : (revS z).length = z.length := by rw [← cds_len, cds_rev, List.length_reverse, cds_len]
theorem sliceBy_rev (z : Str) (u : Tok) : Txt.sliceBy z none none (-1, u) = revS z := by
  refine str_ext ?_
  show (Txt.sliceBy z none none (-1, u)).cps.toList = _
  rw [step_rev_list, cds_rev]
  refine List.ext_getElem (by simp [cds_len, cds, Str.length]) fun i h1 h2 => ?_
  simp only [List.length_map, List.length_range] at h1
  have h3 : z.length - 1 - i < z.cps.size := by show _ < z.length; omega
  have h4 : z.cps.size - 1 - i < z.cps.size := h3
  simp [Array.getD, h4, cds, Str.length]
def tRevS (te ts : TE) : TE := fun σ H Q => te σ H fun x H1 => ts σ H1 fun y H2 => ∃ z, x = .str z ∧ y = .int (-1) ∧ z.length ≤ sizeLine ∧ Q (.str (revS z)) H2
theorem pe_revS (he : PE X e te) (hs : PE X es ts) : PE X (.Subscript e (.Slice none none (some es) p2) pos) (tRevS te ts) := by
  intro pins s σ H Q I h
  refine Subscript_ (thn (he pins s σ H _ I h) fun v s1 ⟨x, H1, I1, r1, q1⟩ => ?_)
  refine wpAny_Slice ?_
  rw [evalPart_none]
  refine wpAny_pure (wpAny_pure ?_)
  rw [evalPart_some]
  refine thn (hs pins s1 σ H1 _ I1 q1) fun w s2 ⟨y, H2, I2, r2, z, ex, ey, hz, q⟩ => ?_
  subst ex ey
  obtain ⟨t, rfl⟩ := r1
  obtain ⟨t2, rfl⟩ := r2
  have I4 : Inv X pins σ H2 { s2 with heap := s2.heap.push { cls := .type "slice", data := .fields #[.none, .none, .int (-1) t2] } } := I2.kept (t' := s2.toks) fun b ob q => Heap.get?_push_of_some _ q
  refine tail_any (ops := [.ref s2.heap.objs.size, .str z t]) (typeIs_str _ _ _) F.slot_str_getitem.lookup ?_ (by with_unfolding_all rfl)
  refine wpAny_getItem_str_slice (l := none) (u := none) (st := some (-1, t2)) ⟨_, Heap.get?_push_size _ rfl, rfl, rfl⟩ rfl ?_
  refine post_val_or_str ?_
  have e1 := sliceBy_rev z t2
  unfold Txt.sliceBy at e1
  rw [e1]
  exact ⟨by rw [revS_len]; exact hz, fun t' k => ⟨.str _, H2, I4.tok k, ⟨_, rfl⟩, q⟩⟩
def tRevL (K : PySem.W.Frag) (te ts : TE) : TE := fun σ H Q => te σ H fun x H1 => ts σ H1 fun y H2 => ∃ a xs, x = .ref a ∧ y = .int (-1) ∧ SqL K H2 a xs ∧ ∀ p, H2 p = none → Q (.ref p) (upd H2 p (.lst xs.reverse))
end
end L2
set_option Elab.async false
set_option linter.all false
set_option maxRecDepth 100000
namespace HT
open PySem PyProof.Rows
section
open PySem.SeqAt
open PySem.AutoSeq1 (wpAny_loadPart')
open PySem.MeetsSeq PySem.MeetsSeq2 PySem.MeetsSeq3
end
section
variable {prog : Program} {w : World} {A : Around} {E : Value → Shared → Prop} {s : Shared}
end
end HT
namespace L2
open PySem PySem.Spec PyProof.Rows
end L2
set_option Elab.async false
set_option linter.all false
set_option maxRecDepth 100000
namespace L2
open PySem PySem.Spec PyProof.Rows
def cmpOk : V → V → Bool
  | .ref a, .ref b => a == b
  | x, y => flatV x && flatV y
def valE : V → V → Bool
  | .ref _, .ref _ => true
  | x, y => eqV x y
theorem eqAt_E {A : Around} {s : Shared} {y x : V} {u v : Value} (ry : RelV y u) (rx : RelV x v) (h : cmpOk y x = true) : SeqAt.EqAt A s u v (valE y x) := by
  by_cases hr : ∃ a b, y = .ref a ∧ x = .ref b
  · obtain ⟨a, b, rfl, rfl⟩ := hr
    have e : a = b := by simpa [cmpOk] using h
    subst e
    cases ry
    cases rx
    exact SeqAt.EqAt.same _
  · have h1 : cmpOk y x = (flatV y && flatV x) := by
      cases y <;> cases x <;> first
        | rfl
        | exact absurd ⟨_, _, rfl, rfl⟩ hr
    have h2 : valE y x = eqV y x := by
      cases y <;> cases x <;> first
        | rfl
        | exact absurd ⟨_, _, rfl, rfl⟩ hr
    rw [h1, Bool.and_eq_true] at h
    rw [h2]
    exact eqAt_V ry rx h.1 h.2
def eqs : List V → List V → Bool
  | [], [] => true
  | x :: xs, y :: ys => valE x y && eqs xs ys
  | _, _ => false
theorem eqs_len : ∀ {xs ys : List V}, xs.length ≠ ys.length → eqs xs ys = false
  | [], [], h => absurd rfl h
  | [], _ :: _, _ => rfl
  | _ :: _, [], _ => rfl
  | x :: xs, y :: ys, h => by
    unfold eqs
    rw [eqs_len (xs := xs) (ys := ys) (fun z => h (by simp [z])), Bool.and_false]
theorem all_range_succ (n : Nat) (f : Nat → Bool) : (List.range (n + 1)).all f = (f 0 && (List.range n).all fun i => f (i + 1)) := by
  rw [List.range_succ_eq_map, List.all_cons, List.all_map]
  rfl
theorem eqs_range : ∀ {xs ys : List V}, xs.length = ys.length → (List.range xs.length).all (fun i => valE (xs.getD i .non) (ys.getD i .non)) = eqs xs ys
  | [], [], _ => rfl
  | [], _ :: _, h => by simp at h
  | _ :: _, [], h => by simp at h
  | x :: xs, y :: ys, h => by
    rw [List.length_cons, all_range_succ]
    have ih := eqs_range (xs := xs) (ys := ys) (by simpa using h)
    unfold eqs
    rw [← ih]
    rfl
def rCmpL (K : PySem.W.Frag) (neg : Bool) : R2 := fun x y H Q => ∃ (a b : Addr) (xs ys : List V), x = .ref a ∧ y = .ref b ∧ SqL K H a xs ∧ SqL K H b ys ∧ (∀ (i : Nat) u v, xs[i]? = some u → ys[i]? = some v → cmpOk u v = true) ∧ Q (.bl (if neg then !eqs xs ys else eqs xs ys)) H
section
variable {X : Cx}
theorem vals_eqAt {A : Around} {s : Shared} {xs ys : List V} {i1 i2 : List Value} (r1 : Vals xs i1) (r2 : Vals ys i2) (hc : ∀ (i : Nat) u v, xs[i]? = some u → ys[i]? = some v → cmpOk u v = true) :
    ∀ j (h1 : j < i1.toArray.size) (h2 : j < i2.toArray.size), SeqAt.EqAt A s i1.toArray[j] i2.toArray[j] (valE (xs.getD j .non) (ys.getD j .non)) := fun j h1 h2 => by
  have l1 := r1.length
  have l2 := r2.length
  simp only [List.size_toArray] at h1 h2
  have g1 : xs[j]? = some xs[j] := List.getElem?_eq_getElem (by omega)
  have g2 : ys[j]? = some ys[j] := List.getElem?_eq_getElem (by omega)
  obtain ⟨u, hu, ru⟩ := r1.get g1
  obtain ⟨v, hv, rv⟩ := r2.get g2
  have e1 : i1.toArray[j] = u := by
    have := List.getElem?_eq_getElem (l := i1) h1
    rw [hu] at this
    simpa using (Option.some.inj this).symm
  have e2 : i2.toArray[j] = v := by
    have := List.getElem?_eq_getElem (l := i2) h2
    rw [hv] at this
    simpa using (Option.some.inj this).symm
  rw [e1, e2, List.getD_eq_getElem?_getD, List.getD_eq_getElem?_getD, g1, g2]
  exact eqAt_E ru rv (hc j _ _ g1 g2)
theorem op_cmpNeL (hu : X.A.units < cLine) : OpR X (compareOp .NotEq) (rCmpL X.K true) := by
  intro pins s σ H x y v u Q I rx ry h
  obtain ⟨a, b, xs, ys, rfl, rfl, ha, hb, hc, q⟩ := h
  cases rx
  cases ry
  obtain ⟨i1, r1, p1, _⟩ := I.list ha
  obtain ⟨i2, r2, p2, _⟩ := I.list hb
  have l1 := r1.length
  have l2 := r2.length
  by_cases hl : xs.length = ys.length
  · have hsz : i1.toArray.size = i2.toArray.size := by simp only [List.size_toArray]; omega
    refine SeqAt.RcNeAt.lists p1.isList p2.isList hsz hu (vals_eqAt r1 r2 hc) X.prog X.w _ _ ⟨.bl _, H, I, rfl, ?_⟩
    rw [List.size_toArray, ← l1, eqs_range hl]
    exact q
  · have hsz : (i1.toArray.size != i2.toArray.size) = true := by simp only [List.size_toArray, bne_iff_ne, ne_eq]; omega
    refine SeqAt.RcNeAt.lists_lengths p1.isList p2.isList hsz hu X.prog X.w _ _ ⟨.bl _, H, I, rfl, ?_⟩
    rw [eqs_len hl] at q
    exact q
def rCountB : V → List V → Hp → VK → Prop := fun x vs H Q => ∃ (l : Addr) (bs : List Bool) (b : Bool), x = .ref l ∧ vs = [.bl b] ∧ H l = some (.lst (bs.map V.bl)) ∧ Q (.int (bs.count b)) H
theorem mt_countB : MtR X "list.count" rCountB := by
  intro pins s σ H x xs v us Q I rx r h
  obtain ⟨l, bs, b, rfl, rfl, hl, q⟩ := h
  cases rx
  obtain ⟨u, rfl, ru⟩ := vals1 r
  cases ru
  obtain ⟨z, its, n, rv, hlen, e⟩ := I.lstM hl
  refine call_meets F.slot_list_count ⟨_, e, rfl⟩ F.entry_list_count (F.args_list_count_2 _ _) (SeqAt.list_countAt l its.toArray n _ _ (.bool b) (fun y => y == .bool b)) ⟨e, fun y hy => ?_, ?_⟩
  · have hm : y ∈ its := by simpa using hy
    obtain ⟨i, hi⟩ := List.getElem?_of_mem hm
    have := bools_at rv hi
    subst this
    have := SeqAt.EqAt.bool_bool (A := X.A.in1) (s := s) ((bs[i]?).getD false) b
    cases hb : (bs[i]?).getD false <;> cases b <;> rw [hb] at this <;> exact this
  · refine ⟨.int _, H, I.tok _, ⟨_, rfl⟩, ?_⟩
    have : ∀ (bs : List Bool) (its : List Value), Vals (bs.map V.bl) its → its.countP (fun y => y == .bool b) = bs.count b := by
      intro bs
      induction bs with
      | nil => intro its h; cases h; rfl
      | cons c bs ih =>
        intro its h
        cases h with
        | cons r t =>
          cases r
          rw [List.countP_cons, ih _ t, List.count_cons]
          cases c <;> cases b <;> rfl
    rw [show its.toArray.toList = its from rfl, this bs its rv]
    exact q
theorem op_isnotB : OpR X (compareOp .IsNot) (fun x y H Q => ∃ b c, x = .bl b ∧ y = .bl c ∧ Q (.bl (!(b == c))) H) := by
  intro pins s σ H x y v u Q I rx ry h
  obtain ⟨b, c, rfl, rfl, q⟩ := h
  cases rx
  cases ry
  refine wpAny_isNot_plain (by cases b <;> cases c <;> rfl) (fin_bl I q ?_)
  cases b <;> cases c <;> rfl
end
end L2
set_option Elab.async false
set_option linter.all false
set_option maxRecDepth 100000
namespace L2
open PySem PySem.Spec PyProof.Rows
structure Mk0 (K : PySem.W.Frag) (C : Addr) : Prop where
  makes : PySem.W.makesIn K C = true
  init : PySem.W.findIn K (.ref C) "__init__" = some (some (.builtin "object.__init__"))
  mro : PySem.W.mroIn K C (.type "object") = some true
  kp : PySem.W.keepIn K (.ref C) = true
def tMake0 (C : Addr) : TE := fun _ H Q => ∀ x dx, H x = none → H dx = none → dx ≠ x → Q (.ref x) (upd (upd H dx (.own x)) x (.ins C dx []))
section
variable {X : Cx} {C : Addr} {x : Str} {p pos : Pos}
theorem pe_makeN (M : Mk0 X.K C) (hg : Gl X x) (hm : X.mg x = some (.ref C)) (hdb : (x == ("__debug__" : Str)) = false := by decide) : PE X (.Call (.Name x p) [] [] pos) (tMake0 C) := by
  intro pins s σ H Q I h
  refine wpAny_Call_Name_kw (ld_glob I hg hm ?_ hdb)
  refine PySem.W.callWith_K0 I.kIn M.kp ?_
  have hq := h (s.heap.objs.size + 1) s.heap.objs.size (I.hok.fresh (Nat.le_succ _)) (I.hok.fresh (Nat.le_refl _)) (Nat.ne_of_lt (Nat.lt_succ_self _))
  have I2 := Inv.made (C := C) I
  refine wpAny_call (make_map0 I.kIn M.makes M.init (fun self => PySem.W.Looks.of_pure (PySem.W.oi_bind self)) ?_)
  have Y := PySem.W.makes_of (M := model X.prog X.w) I.kIn M.makes
  have e2 : ((s.heap.push PySem.W.emptyDict).push (PySem.W.instObj C s.heap.objs.size)).get? (s.heap.objs.size + 1) = some (PySem.W.instObj C s.heap.objs.size) := by
    have := Heap.get?_push_size (s.heap.push PySem.W.emptyDict) (o := PySem.W.instObj C s.heap.objs.size) rfl
    rwa [Heap.size_push] at this
  have t1 : PySem.W.Looks (model X.prog X.w) ((s.heap.push PySem.W.emptyDict).push (PySem.W.instObj C s.heap.objs.size)) (typeOf (.ref (s.heap.objs.size + 1))) (.ref C) := (PySem.W.Looks.ld e2).andThen .now
  have t2 : PySem.W.Looks (model X.prog X.w) ((s.heap.push PySem.W.emptyDict).push (PySem.W.instObj C s.heap.objs.size)) (isInstance (.ref (s.heap.objs.size + 1)) (.type "object")) true := t1.andThen (Y.top.keeps fun b o e => Heap.get?_push_of_some _ (Heap.get?_push_of_some _ e))
  refine codeAny_call_builtin PySem.W.oi_plain PySem.W.entry_oi (@PySem.W.check_slot (model X.prog X.w) _ _ _ "object.__init__" "object" "__init__" (.ref (s.heap.objs.size + 1)) [] [] _ PySem.W.oi_kind PySem.W.oi_split t2 (PySem.W.oi_args (.ref (s.heap.objs.size + 1))) ?_)
  rw [PySem.W.oi_run]
  exact wpAny_pure (And.intro rfl ⟨.ref _, _, I2, rfl, hq⟩)
end
theorem PE.or {X : Cx} {e : Expr} {t u : TE} (h : PE X e t) (h' : PE X e u) : PE X e (fun σ H Q => t σ H Q ∨ u σ H Q) := fun pins s σ H Q I q => q.elim (h pins s σ H Q I) (h' pins s σ H Q I)
structure Kind (K : PySem.W.Frag) (C : Addr) : Prop where
  cl : Cls K C
  ca : PySem.W.findIn K (.ref C) "__class__" = some (some (.builtin "object.__class__"))
  gt : PySem.W.specialIn K (.builtin "object.__class__") "__get__" = some (some (.builtin "getset_descriptor.__get__"))
  tk : PySem.W.takesIn K (.builtin "object.__class__") = some true
  mo : PySem.W.mroIn K C (.type "object") = some true
theorem Kind.ty {K : PySem.W.Frag} {C : Addr} (k : Kind K C) {H : Hp} {a dx : Addr} {fs : List (Str × V)} (e : H a = some (.ins C dx fs)) : TyOf K H (.ref a) (.ref C) := .ins e k.cl k.ca k.gt k.tk k.mo
end L2
set_option Elab.async false
set_option linter.all false
set_option maxRecDepth 100000
namespace L2
open PySem PySem.Spec PyProof.Rows
structure Cal (P : Program) (w : World) (K : PySem.W.Frag) (mg : Str → Option Value) (base : Heap) (CX : CXT) (k : Nat) (x : Str) (f : Addr) (ps : List Str) (sp : Sp) : Prop where
  ex : ∃ fd, FnOk P w K mg base CX k f fd ps sp ∧ Binds K fd ps []
  kp : PySem.W.keepIn K (.ref f) = true
  at_ : mg x = some (.ref f)
structure CalU (P : Program) (w : World) (K : PySem.W.Frag) (mg : Str → Option Value) (base : Heap) (CX : CXT) (k : Nat) (x : Str) (f : Addr) (ps : List Str) (sp : Sp) : Prop where
  ex : ∃ fd, FnUp P w K mg base CX k f fd ps sp ∧ Binds K fd ps []
  kp : PySem.W.keepIn K (.ref f) = true
  at_ : mg x = some (.ref f)
structure CalP (P : Program) (w : World) (K : PySem.W.Frag) (mg : Str → Option Value) (base : Heap) (CX : CXT) (k : Nat) (x : Str) (f : Addr) (ps : List Str) (sp : Sp) : Prop where
  ex : ∃ fd, FnPos P w K mg base CX k f fd ps sp ∧ Binds K fd ps []
  kp : PySem.W.keepIn K (.ref f) = true
  at_ : mg x = some (.ref f)
theorem CalU.ok {P : Program} {w : World} {K : PySem.W.Frag} {mg : Str → Option Value} {base : Heap} {CX : CXT} {k : Nat} {x : Str} {f : Addr} {ps : List Str} {sp : Sp} (c : CalU P w K mg base CX k x f ps sp) : Cal P w K mg base CX k x f ps sp :=
  let ⟨⟨fd, F, b⟩, k, a⟩ := c; ⟨⟨fd, F.ok, b⟩, k, a⟩
/-- a def of the text as it stands behind the top, with its name -/
structure Def (K : PySem.W.Frag) (mg : Str → Option Value) (x : Str) (st : Stmt) (f : Addr) (ps : List Str) : Prop where
  ex : ∃ fd, Fun K x x st f fd ∧ Binds K fd ps []
  at_ : mg x = some (.ref f)
section
variable {P : Program} {w : World} {K : PySem.W.Frag} {mg : Str → Option Value} {base : Heap} {x : Str} {st : Stmt} {f : Addr} {N ps : List Str} {k : Nat} {sp : Sp}
theorem Def.ok (D : Def K mg x st f ps) (S : FnScope N ps (defScope st)) (len : ∀ vs H Q E, sp vs H Q E → vs.length = ps.length)
    (hbody : ∀ (cdv : Value) (A : Around) (outer : List Env) (s : Shared) (H : Hp) (vs : List V) (Q : VK) (E : XK), Room k (A.deeper (envOfC x (defScope st) s.heap.objs.size f cdv)) → sp vs H Q E →
      ∃ t, PSs (cxOf CX0 P w K mg base N x (defScope st) f cdv A outer s H E).nox (defBody st) t ∧ t { nx := fun _ H' => Q .non H', rt := Q } (start N vs) H) : Cal P w K mg base CX0 (k + 1) x f ps sp := by
  obtain ⟨⟨fd, F, b⟩, m⟩ := D
  exact ⟨⟨fd, F.ok S len hbody, b⟩, F.kp, m⟩
theorem Def.okX (D : Def K mg x st f ps) (S : FnScope N ps (defScope st)) (len : ∀ vs H Q E, sp vs H Q E → vs.length = ps.length)
    (hbody : ∀ (cdv : Value) (A : Around) (outer : List Env) (s : Shared) (H : Hp) (vs : List V) (Q : VK) (E : XK), Room k (A.deeper (envOfC x (defScope st) s.heap.objs.size f cdv)) → sp vs H Q E →
      ∃ t, PSs (cxOf (CXe P w) P w K mg base N x (defScope st) f cdv A outer s H E) (defBody st) t ∧ t { nx := fun _ H' => Q .non H', rt := Q } (start N vs) H) : Cal P w K mg base (CXe P w) (k + 1) x f ps sp := by
  obtain ⟨⟨fd, F, b⟩, m⟩ := D
  exact ⟨⟨fd, F.okX S len hbody, b⟩, F.kp, m⟩
theorem Def.up (D : Def K mg x st f ps) (S : FnScope N ps (defScope st)) (len : ∀ vs H Q E, sp vs H Q E → vs.length = ps.length)
    (hbody : ∀ (cdv : Value) (A : Around) (outer : List Env) (s : Shared) (H : Hp) (vs : List V) (Q : VK) (E : XK), Room k (A.deeper (envOfC x (defScope st) s.heap.objs.size f cdv)) → sp vs H Q E →
      ∃ t, PSsu (cxOf CX0 P w K mg base N x (defScope st) f cdv A outer s H E).nox (defBody st) t ∧ t { nx := fun _ H' => Q .non H', rt := Q } (start N vs) H) : CalU P w K mg base CX0 (k + 1) x f ps sp := by
  obtain ⟨⟨fd, F, b⟩, m⟩ := D
  exact ⟨⟨fd, F.up S len hbody, b⟩, F.kp, m⟩
theorem Def.pos (D : Def K mg x st f ps) (S : FnScope N ps (defScope st)) (len : ∀ vs H Q E, sp vs H Q E → vs.length = ps.length)
    (hbody : ∀ (cdv : Value) (A : Around) (outer : List Env) (s : Shared) (H : Hp) (vs : List V) (Q : VK) (E : XK), Room k (A.deeper (envOfC x (defScope st) s.heap.objs.size f cdv)) → sp vs H Q E →
      ∃ t, PSsp (cxOf CX0 P w K mg base N x (defScope st) f cdv A outer s H E).nox (defBody st) t ∧ t { nx := fun _ H' => Q .non H', rt := Q } (start N vs) H) : CalP P w K mg base CX0 (k + 1) x f ps sp := by
  obtain ⟨⟨fd, F, b⟩, m⟩ := D
  exact ⟨⟨fd, F.pos S len hbody, b⟩, F.kp, m⟩
end
/-- a method, an __init__ -/
structure CalM (P : Program) (w : World) (K : PySem.W.Frag) (mg : Str → Option Value) (base : Heap) (C : Addr) (k : Nat) (m : Str) (ps : List Str) (sp : Sp) : Prop where
  ex : ∃ f fd, Meth K C m f ∧ FnOk P w K mg base CX0 k f fd ps sp ∧ Binds K fd ps []
  cl : Cls K C
structure CalI (P : Program) (w : World) (K : PySem.W.Frag) (mg : Str → Option Value) (base : Heap) (x : Str) (C : Addr) (k : Nat) (ps : List Str) (sp : Sp) : Prop where
  ex : ∃ f fd, Mk K C f ∧ FnOk P w K mg base CX0 k f fd ps sp ∧ Binds K fd ps []
  at_ : mg x = some (.ref C)
theorem passN {P : Program} {w : World} {X : Cx} : Passes (CXe P w) X E0 := fun _ _ _ _ _ _ _ h => by
  obtain ⟨_, _, _, _, _, _, _, _, _, z⟩ := h
  exact z.elim
section
variable {X : Cx} {CX : CXT} {k : Nat} {f C : Addr} {ps : List Str} {sp : Sp} {E : XK} {x m : Str} {p pos apos : Pos} {e o : Expr} {es : List Expr} {ta : TE} {t : TA}
theorem pe_callC (G : Cal X.prog X.w X.K X.mg X.base CX k x f ps sp) (hr : Room k X.A) (hg : Gl X x) (hx : Passes CX X E)
    (ha : PA X (e :: es) t) (hdb : (x == ("__debug__" : Str)) = false := by decide) (he : starEach (e :: es) X.env = (false, eval e X.env) :: starEach es X.env := by rfl) (hpl : (backTo pos (starEach es X.env)).any (·.1) = false := by rfl) :
    PE X (.Call (.Name x p) (e :: es) [] pos) (tCall sp [] E t) := by
  obtain ⟨⟨fd, F, b⟩, kp, hm⟩ := G
  exact pe_call F hr hg hm kp b .nil hx ha hdb he hpl
theorem pe_makeC (G : CalI X.prog X.w X.K X.mg X.base x C k ps sp) (hr : Room (k + 1) X.A) (hg : Gl X x)
    (ha : PA X (e :: es) t) (hdb : (x == ("__debug__" : Str)) = false := by decide) (he : starEach (e :: es) X.env = (false, eval e X.env) :: starEach es X.env := by rfl) (hpl : (backTo pos (starEach es X.env)).any (·.1) = false := by rfl) :
    PE X (.Call (.Name x p) (e :: es) [] pos) (tMake C sp [] E0 t) := by
  obtain ⟨⟨f, fd, M, F, b⟩, hm⟩ := G
  exact pe_make M F hr hg hm b .nil pass0 ha hdb he hpl
theorem pe_methC {pl : Sem Bool} (G : CalM X.prog X.w X.K X.mg X.base C k m ps sp) (he : PE X o ta) (hr : Room k X.A) (ha : PA X (e :: es) t)
    (hst : starEach (e :: es) X.env = (false, eval e X.env) :: starEach es X.env := by rfl) (hpl : (backTo pos (starEach es X.env)).any (·.1) = false := by rfl)
    (ht : eval (.Call (.Attribute o m apos) (e :: es) [] pos) X.env = (do
      let ov ← eval o X.env
      standAt apos.atName
      let (f, first) ← holding [ov] (getMethod ov m pl)
      callWith pos f first (backTo pos (starEach (e :: es) X.env)) (backToKw pos (keywordEach [] X.env))) := by rfl) :
    PE X (.Call (.Attribute o m apos) (e :: es) [] pos) (tMeth C m sp [] E0 ta t) := by
  obtain ⟨⟨f, fd, M, F, b⟩, cl⟩ := G
  exact pe_meth he cl M F hr b .nil pass0 ha hst hpl ht
end
section
variable {K : PySem.W.Frag} {σ : St} {H : Hp} {Q : VK} {R : Bool → Hp → Prop} {QA : List V → Hp → Prop} {D : Ends} {te ta tb tc : TE} {t u : TS} {tA tB' : TT} {g : TG} {a b : Addr} {i j : Int} {n : Nat} {x y v : V} {xs ys : List V} {z : Str}
theorem rd_seq (h : t { D with nx := u D } σ H) : tSeq t u D σ H := h
theorem rd_next (h : D.nx σ H) : tNext D σ H := h
theorem rd_nx {N : St → Hp → Prop} {r : VK} {bk ct : St → Hp → Prop} (h : N σ H) : (Ends.mk N r bk ct).nx σ H := h
theorem rd_rt {N : St → Hp → Prop} {r : VK} {bk ct : St → Hp → Prop} (h : r v H) : (Ends.mk N r bk ct).rt v H := h
theorem rd_drop (h : te σ H fun _ H1 => D.nx σ H1) : tDrop te D σ H := h
theorem rd_ret (h : te σ H D.rt) : tRet te D σ H := h
theorem rd_retN (h : D.rt .non H) : tRetN D σ H := h
theorem rd_if (h : tA σ H fun b H1 => if b = true then t D σ H1 else u D σ H1) : tIfS tA t u D σ H := h
theorem rd_test (h : te σ H fun x H' => ∃ k, x = .bl k ∧ R k H') : tTest te σ H R := h
theorem rd_B (h : te σ H fun x H' => ∃ k, x = .bl k ∧ R k H') : tB te σ H R := h
theorem rd_not (h : tA σ H fun c H1 => R (!c) H1) : tNot tA σ H R := h
theorem rd_and (h : tA σ H fun c H1 => if c = true then tB' σ H1 R else R false H1) : tAnd tA tB' σ H R := h
theorem rd_or (h : tA σ H fun c H1 => if c = true then R true H1 else tB' σ H1 R) : tOr tA tB' σ H R := h
theorem rd_andV (h : ta σ H fun x H1 => ∃ c, x = .bl c ∧ if c = true then tb σ H1 Q else Q (.bl false) H1) : tAndV ta tb σ H Q := h
theorem rd_orV (h : ta σ H fun x H1 => ∃ c, x = .bl c ∧ if c = true then Q (.bl true) H1 else tb σ H1 Q) : tOrV ta tb σ H Q := h
theorem rd_notV (h : ta σ H fun x H1 => ∃ c, x = .bl c ∧ Q (.bl (!c)) H1) : tNotV ta σ H Q := h
theorem rd_ifE (h : tA σ H fun c H1 => if c = true then ta σ H1 Q else tb σ H1 Q) : tIf tA ta tb σ H Q := h
theorem rd_bl {B : Bool} {P : Bool → Prop} (h : P B) : ∃ k, V.bl B = .bl k ∧ P k := ⟨B, rfl, h⟩
theorem rd_asg (h : te σ H fun x H1 => g x σ H1 D.nx) : tAsg te g D σ H := h
theorem rd_name {N : St → Hp → Prop} (h : N (σ.set n (some v)) H) : gName n v σ H N := h
theorem rd_aug {ti : TIp} (e : σ[n]? = some (some x)) (h : te σ H fun y H1 => ti x y H1 fun z H2 => D.nx (σ.set n (some z)) H2) : tAug n te ti D σ H := ⟨x, e, h⟩
theorem rd_ipI {f : Int → Int → Int} (h : Q (.int (f i j)) H) : ipI f (.int i) (.int j) H Q := ⟨i, j, rfl, rfl, h⟩
theorem rd_var (e : σ[n]? = some (some v)) (h : Q v H) : tVar n σ H Q := ⟨v, e, h⟩
theorem rd_C (h : Q v H) : tC v σ H Q := h
theorem rd_op {r : R2} (h : ta σ H fun x H1 => tb σ H1 fun y H2 => r x y H2 Q) : tOp r ta tb σ H Q := h
theorem rd_un {r : V → Hp → VK → Prop} (h : ta σ H fun x H1 => r x H1 Q) : tUn r ta σ H Q := h
theorem rd_I0 {f : Int → Int → V} (h : Q (f i j) H) : rI0 f (.int i) (.int j) H Q := ⟨i, j, rfl, rfl, h⟩
theorem rd_I {C : Int → Int → Prop} {f : Int → Int → V} (c : C i j) (h : Q (f i j) H) : rI C f (.int i) (.int j) H Q := ⟨i, j, rfl, rfl, c, h⟩
theorem rd_U {f : Int → V} (h : Q (f i) H) : rU f (.int i) H Q := ⟨i, rfl, h⟩
theorem dec_V_int (i j : Int) : decide (V.int i = V.int j) = decide (i = j) := by
  by_cases h : i = j
  · simp [h]
  · rw [decide_eq_false h, decide_eq_false fun e => h (V.int.inj e)]
theorem dec_V_str (x y : Str) : decide (V.str x = V.str y) = decide (x = y) := by
  by_cases h : x = y
  · simp [h]
  · rw [decide_eq_false h, decide_eq_false fun e => h (V.str.inj e)]
theorem dec_V_bl (x y : Bool) : decide (V.bl x = V.bl y) = (x == y) := by cases x <;> cases y <;> rfl
theorem dec_sign (c d : Nat) : decide ((⟨#[c]⟩ : Str) = ⟨#[d]⟩) = decide (c = d) := by
  by_cases h : c = d
  · simp [h]
  · rw [decide_eq_false h, decide_eq_false]
    intro q
    apply h
    have := congrArg cds q
    simpa [cds] using this
theorem rd_eqI (h : Q (.bl (decide (i = j))) H) : rEq (.int i) (.int j) H Q := ⟨rfl, by rw [dec_V_int]; exact h⟩
theorem rd_eqS {p q : Str} (h : Q (.bl (decide (p = q))) H) : rEq (.str p) (.str q) H Q := ⟨rfl, by rw [dec_V_str]; exact h⟩
theorem rd_eqB {p q : Bool} (h : Q (.bl (p == q)) H) : rEq (.bl p) (.bl q) H Q := ⟨rfl, by rw [dec_V_bl]; exact h⟩
theorem rd_eqC {c d : Nat} {q : Str} (e : q = ⟨#[d]⟩) (h : Q (.bl (decide (c = d))) H) : rEq (.str ⟨#[c]⟩) (.str q) H Q := ⟨rfl, by rw [dec_V_str, e, dec_sign]; exact h⟩
theorem rd_neI (h : Q (.bl (!decide (i = j))) H) : rNe (.int i) (.int j) H Q := ⟨rfl, by rw [dec_V_int]; exact h⟩
theorem rd_neS {p q : Str} (h : Q (.bl (!decide (p = q))) H) : rNe (.str p) (.str q) H Q := ⟨rfl, by rw [dec_V_str]; exact h⟩
theorem rd_neB {p q : Bool} (h : Q (.bl (!(p == q))) H) : rNe (.bl p) (.bl q) H Q := ⟨rfl, by rw [dec_V_bl]; exact h⟩
theorem rd_neC {c d : Nat} {q : Str} (e : q = ⟨#[d]⟩) (h : Q (.bl (!decide (c = d))) H) : rNe (.str ⟨#[c]⟩) (.str q) H Q := ⟨rfl, by rw [dec_V_str, e, dec_sign]; exact h⟩
theorem c_open : (Str.ofString "(") = ⟨#[40]⟩ := by decide +kernel
theorem c_close : (Str.ofString ")") = ⟨#[41]⟩ := by decide +kernel
theorem c_rub : (Str.ofString "?") = ⟨#[63]⟩ := by decide +kernel
theorem c_none : (Str.ofString "") = ⟨#[]⟩ := by decide +kernel
theorem rd_cb {r : List V → Hp → VK → Prop} {t : TA} (h : t σ H fun vs H1 => r vs H1 Q) : tCB r t σ H Q := h
theorem rd_nil (h : QA [] H) : tNil σ H QA := h
theorem rd_cons {tr : TA} (h : ta σ H fun x H1 => tr σ H1 fun xs H2 => QA (x :: xs) H2) : tCons ta tr σ H QA := h
theorem rd_call {sp : Sp} {E : XK} {t : TA} (h : t σ H fun vs H1 => sp (vs ++ []) H1 Q E) : tCall sp [] E t σ H Q := h
theorem rd_lst {t : TA} (h : t σ H fun xs H1 => xs.length ≤ sizeLine ∧ ∀ p, H1 p = none → Q (.ref p) (upd H1 p (.lst xs))) : tLst t σ H Q := h
theorem rd_tup {t : TA} (h : t σ H fun xs H1 => xs.length ≤ sizeLine ∧ ∀ p, H1 p = none → Q (.ref p) (upd H1 p (.tup xs))) : tTup t σ H Q := h
theorem rd_small {P : Prop} (h : xs.length ≤ 1000) (k : P) : xs.length ≤ sizeLine ∧ P := ⟨Nat.le_of_lt (small1000 h), k⟩
theorem rd_bm {T : String} {r : V → List V → Hp → VK → Prop} {t : TA} (h : ta σ H fun x H1 => tyV K T x H1 ∧ t σ H1 fun xs H2 => r x xs H2 Q) : tBM K T r ta t σ H Q := h
theorem rd_bm0 {T : String} {r : V → List V → Hp → VK → Prop} (h : ta σ H fun x H1 => tyV K T x H1 ∧ r x [] H1 Q) : tBM0 K T r ta σ H Q := h
theorem rd_tyS {P : Prop} (h : P) : tyV K "str" (.str z) H ∧ P := ⟨rfl, h⟩
theorem rd_tyL {P : Prop} (e : H a = some (.lst xs)) (h : P) : tyV K "list" (.ref a) H ∧ P := ⟨.inl ⟨rfl, _, SqL.of e⟩, h⟩
theorem rd_append (e : H a = some (.lst xs)) (hz : xs.length ≤ 1000) (h : Q .non (upd H a (.lst (xs ++ [y])))) : rAppend (.ref a) [y] H Q := ⟨a, xs, y, rfl, rfl, e, small1000 hz, h⟩
theorem rd_ixL (e : SqL K H a xs) (hi : xs[n]? = some v) (h : Q v H) : rIxL K (.ref a) (.int n) H Q := ⟨a, xs, n, v, rfl, rfl, e, atI_nat hi, h⟩
theorem rd_ixS {c : Nat} (hz : z.length ≤ 1000) (hi : (cds z)[n]? = some c) (h : Q (.str ⟨#[c]⟩) H) : rIxS (.str z) (.int n) H Q := ⟨z, n, c, rfl, rfl, Nat.le_of_lt (small1000 hz), atI_nat hi, h⟩
theorem rd_ixT (e : SqT K H a xs) (hi : xs[n]? = some v) (h : Q v H) : rIxT K (.ref a) (.int n) H Q := ⟨a, xs, n, v, rfl, rfl, e, atI_nat hi, h⟩
theorem rd_sub {to ti : TE} {ts : TSet} {N : St → Hp → Prop} (h : to σ H fun o H1 => ti σ H1 fun i H2 => ts o i v H2 fun H3 => N σ H3) : gSub to ti ts v σ H N := h
theorem rd_setL {N : Hp → Prop} (e : H a = some (.lst xs)) (hn : n < xs.length) (h : N (upd H a (.lst (xs.set n v)))) : rSetL (.ref a) (.int n) v H N := by
  refine ⟨a, xs, n, n, rfl, rfl, e, ?_, h⟩
  unfold ixN
  rw [if_pos (by omega), if_pos (by omega)]
  simp
theorem rd_tupG {ts : TGs} {N : St → Hp → Prop} (e : SqT K H a xs) (hl : xs.length = n) (h : ts xs σ H N) : gTup K n ts (.ref a) σ H N := ⟨a, xs, rfl, e, hl, h⟩
theorem rd_gcons {ts : TGs} {N : St → Hp → Prop} (h : g v σ H fun σ' H' => ts xs σ' H' N) : gCons g ts (v :: xs) σ H N := ⟨v, xs, rfl, h⟩
theorem rd_gnil {N : St → Hp → Prop} (h : N σ H) : gNil [] σ H N := ⟨rfl, h⟩
theorem rd_sl {r : V → Option Int → Option Int → Hp → VK → Prop} {tl th : TO} (h : te σ H fun x H1 => tl σ H1 fun l H2 => th σ H2 fun u H3 => r x l u H3 Q) : tSl r te tl th σ H Q := h
theorem rd_noPart {QO : Option Int → Hp → Prop} (h : QO none H) : tNoPart σ H QO := h
theorem rd_part {QO : Option Int → Hp → Prop} (h : te σ H fun x H1 => ∃ i, x = .int i ∧ QO (some i) H1) : tPart te σ H QO := h
theorem rd_int {P : Int → Prop} (h : P i) : ∃ k, V.int i = .int k ∧ P k := ⟨i, rfl, h⟩
theorem rd_str {P : Str → Prop} (h : P z) : ∃ k, V.str z = .str k ∧ P k := ⟨z, rfl, h⟩
theorem rd_slS {lo hi : Option Int} (hz : z.length ≤ 1000) (h : Q (.str (Txt.slice z lo hi)) H) : rSlS (.str z) lo hi H Q := ⟨z, rfl, Nat.le_of_lt (small1000 hz), h⟩
theorem rd_slL {lo hi : Option Int} (e : SqL K H a xs) (h : ∀ p, H p = none → Q (.ref p) (upd H p (.lst (cutV xs lo hi)))) : rSlL K (.ref a) lo hi H Q := ⟨a, xs, rfl, e, h⟩
theorem rd_ite {c : Prop} [Decidable c] {A B : Prop} (h1 : c → A) (h2 : ¬ c → B) : if decide c = true then A else B := by
  by_cases h : c
  · rw [decide_eq_true h]; exact h1 h
  · rw [decide_eq_false h]; exact h2 h
theorem rd_iteN {c : Prop} [Decidable c] {A B : Prop} (h1 : ¬ c → A) (h2 : c → B) : if (!decide c) = true then A else B := by
  by_cases h : c
  · rw [decide_eq_true h]; exact h2 h
  · rw [decide_eq_false h]; exact h1 h
theorem rd_iteB {c : Bool} {A B : Prop} (h1 : c = true → A) (h2 : c = false → B) : if c = true then A else B := by
  cases c
  · exact h2 rfl
  · exact h1 rfl
theorem rd_iteNB {c : Bool} {A B : Prop} (h1 : c = false → A) (h2 : c = true → B) : if (!c) = true then A else B := by
  cases c
  · exact h1 rfl
  · exact h2 rfl
theorem rd_chain {r r' : R2} (h : ta σ H fun x H1 => tb σ H1 fun y H2 => r x y H2 fun z H3 => ∃ k, z = .bl k ∧ (if k = true then tc σ H3 fun w' H4 => r' y w' H4 Q else Q (.bl false) H3)) : tChain r r' ta tb tc σ H Q := h
/-- a loop: over what it walks -/
def LoopG (g : TG) (tb : TS) (D : Ends) (σ : St) (J : It) (H : Hp) : Prop := ∃ W : Nat → Nat → St → Hp → Prop, (∃ m, W 0 m σ H) ∧ ∀ i m σ H, W i m σ H →
  (J.stop i H ∧ D.nx σ H) ∨ (J.go i H ∧ ∃ N : St → Hp → Prop, (∀ σ' H', N σ' H' → ∃ m', m' < m ∧ W (i + 1) m' σ' H') ∧ ∀ x H', J.yld i H x H' → g x σ H' fun σ2 H2 => tb { D with nx := N, ct := N, bk := D.nx } σ2 H2)
theorem rd_for {wi : TI} {tb : TS} (h : wi σ H (LoopG g tb D σ)) : tFor wi g tb D σ H := h
theorem rd_iStr {RI : It → Hp → Prop} (h : te σ H fun x H1 => ∃ z, x = .str z ∧ RI (Its z) H1) : iStr te σ H RI := h
theorem rd_iEnumS {t : TA} {RI : It → Hp → Prop} (h : t σ H fun vs H1 => ∃ z, vs = [.str z] ∧ RI (Ite (Its z)) H1) : iEnumS t σ H RI := h
theorem rd_str1 {P : Str → Prop} (h : P z) : ∃ k, [V.str z] = [.str k] ∧ P k := ⟨z, rfl, h⟩
end
end L2
namespace H5
/-- what a sign does to how many are open -/
def stp (c : Nat) : Int := if c = 40 then 1 else -1
/-- how many are open at place i -/
def dep (cs : List Nat) (i : Nat) : Int := ((cs.take i).map stp).sum
def deps (cs : List Nat) : List Int := (List.range (cs.length + 1)).map (dep cs)
/-- only signs -/
def Sg (cs : List Nat) : Prop := ∀ c ∈ cs, c = 40 ∨ c = 41
structure Clo (cs : List Nat) : Prop where
  sg : Sg cs
  nn : ∀ i, i ≤ cs.length → 0 ≤ dep cs i
  fin : dep cs cs.length = 0
theorem dep_zero (cs : List Nat) : dep cs 0 = 0 := rfl
theorem dep_succ {cs : List Nat} {i c : Nat} (h : cs[i]? = some c) : dep cs (i + 1) = dep cs i + stp c := by
  unfold dep
  obtain ⟨hi, rfl⟩ := List.getElem?_eq_some_iff.mp h
  rw [List.take_add_one, List.getElem?_eq_getElem hi, List.map_append, List.sum_append]
  simp only [Option.toList_some, List.map_cons, List.map_nil, List.sum_cons, List.sum_nil]
  omega
theorem dep_app (a b : List Nat) (i : Nat) : dep (a ++ b) i = if i ≤ a.length then dep a i else dep a a.length + dep b (i - a.length) := by
  unfold dep
  split
  · rename_i h
    rw [List.take_append_of_le_length h]
  · rename_i h
    rw [List.take_append, List.take_of_length_le (by omega), List.take_length, List.map_append, List.sum_append]
theorem dep_app_end (a b : List Nat) : dep (a ++ b) (a ++ b).length = dep a a.length + dep b b.length := by
  unfold dep
  rw [List.take_length, List.take_length, List.take_length, List.map_append, List.sum_append]
theorem Clo.app {a b : List Nat} (ha : Clo a) (hb : Clo b) : Clo (a ++ b) := by
  refine ⟨fun c hc => ?_, fun i hi => ?_, ?_⟩
  · rcases List.mem_append.mp hc with h | h
    · exact ha.sg c h
    · exact hb.sg c h
  · rw [dep_app]
    split
    · exact ha.nn i (by assumption)
    · have h2 := hb.nn (i - a.length) (by rw [List.length_append] at hi; omega)
      have h1 := ha.fin
      omega
  · rw [dep_app_end, ha.fin, hb.fin]; rfl
theorem Clo.nil : Clo [] := ⟨(fun _ h => nomatch h), fun i _ => by simp [dep], rfl⟩
/-- i opens and j is its partner -/
structure Mt (cs : List Nat) (i j : Nat) : Prop where
  lt : i < j
  ci : cs[i]? = some 40
  cj : cs[j]? = some 41
  eq : dep cs (j + 1) = dep cs i
  gt : ∀ m, i < m → m ≤ j → dep cs i < dep cs m
/-- the loop of partners behind k signs: the waiting places W, the table F -/
structure Inv (cs : List Nat) (k : Nat) (W F : List Nat) : Prop where
  wl : (W.length : Int) = dep cs k
  w : ∀ (d p : Nat), W[d]? = some p → p < k ∧ cs[p]? = some 40 ∧ dep cs p = (d : Int) ∧ ∀ m, p < m → m ≤ k → (d : Int) < dep cs m
  fl : F.length = cs.length
  f : ∀ i, i < k → (∃ d : Nat, W[d]? = some i) ∨ ∃ j, j < k ∧ (Mt cs i j ∨ Mt cs j i) ∧ F[i]? = some j ∧ F[j]? = some i
theorem Inv.start (cs : List Nat) : Inv cs 0 [] (List.replicate cs.length 0) :=
  ⟨rfl, fun d p h => by simp at h, by simp, fun i h => by omega⟩
theorem Inv.cls {cs : List Nat} {k p : Nat} {W F : List Nat} (I : Inv cs k W F) (h : cs[k]? = some 41) (hp : W[W.length - 1]? = some p) (h0 : 0 < W.length) : Inv cs (k + 1) W.dropLast ((F.set p k).set k p) := by
  have hd : dep cs (k + 1) = dep cs k - 1 := by rw [dep_succ h]; rfl
  have hwl := I.wl
  obtain ⟨p1, p2, p3, p4⟩ := I.w _ _ hp
  have hk : k < cs.length := (List.getElem?_eq_some_iff.mp h).1
  have hfl := I.fl
  have M : Mt cs p k := ⟨p1, p2, h, by rw [hd, p3]; omega, fun m a b => by rw [p3]; exact p4 m a b⟩
  have hpk : p ≠ k := by omega
  have inj : ∀ (d : Nat), W[d]? = some p → d = W.length - 1 := fun d e => by
    have := (I.w d p e).2.2.1
    omega
  refine ⟨by rw [List.length_dropLast, hd]; omega, fun d q e => ?_, by simp [hfl], fun i hi => ?_⟩
  · have hdl : d < W.length - 1 := by
      have := (List.getElem?_eq_some_iff.mp e).1
      rw [List.length_dropLast] at this
      exact this
    rw [List.getElem?_dropLast, if_pos hdl] at e
    obtain ⟨q1, q2, q3, q4⟩ := I.w d q e
    refine ⟨by omega, q2, q3, fun m hm hm' => ?_⟩
    by_cases z : m = k + 1
    · subst z; omega
    · exact q4 m hm (by omega)
  · by_cases z : i = k
    · subst z
      refine .inr ⟨p, by omega, .inr M, ?_, ?_⟩
      · rw [List.getElem?_set_self (by simp; omega)]
      · rw [List.getElem?_set_ne (Ne.symm hpk), List.getElem?_set_self (by omega)]
    · rcases I.f i (by omega) with ⟨d, e⟩ | ⟨j, hj, hm, e1, e2⟩
      · by_cases zp : i = p
        · subst zp
          refine .inr ⟨k, by omega, .inl M, ?_, ?_⟩
          · rw [List.getElem?_set_ne (Ne.symm hpk), List.getElem?_set_self (by omega)]
          · rw [List.getElem?_set_self (by simp; omega)]
        · refine .inl ⟨d, ?_⟩
          have hd2 := (List.getElem?_eq_some_iff.mp e).1
          have : d ≠ W.length - 1 := fun q => by rw [q, hp] at e; exact zp (Option.some.inj e).symm
          rw [List.getElem?_dropLast, if_pos (by omega)]
          exact e
      · have nip : i ≠ p := fun q => by
          subst q
          rcases hm with m | m
          · have := p4 (j + 1) (by have := m.lt; omega) (by omega)
            have := m.eq
            omega
          · have := m.cj
            rw [p2] at this; cases this
        have njp : j ≠ p := fun q => by
          subst q
          rcases hm with m | m
          · have := m.cj
            rw [p2] at this; cases this
          · have := p4 (i + 1) (by have := m.lt; omega) (by omega)
            have := m.eq
            omega
        refine .inr ⟨j, by omega, hm, ?_, ?_⟩
        · rw [List.getElem?_set_ne (by omega), List.getElem?_set_ne (Ne.symm nip)]; exact e1
        · rw [List.getElem?_set_ne (by omega), List.getElem?_set_ne (Ne.symm njp)]; exact e2
/-- what the table tells at the end -/
structure Tab (cs : List Nat) (F : List Nat) : Prop where
  fl : F.length = cs.length
  f : ∀ i, i < cs.length → ∃ j, j < cs.length ∧ (Mt cs i j ∨ Mt cs j i) ∧ F[i]? = some j ∧ F[j]? = some i
theorem Mt.no {cs : List Nat} {i j : Nat} (m : Mt cs i j) : cs[i]? = some 40 := m.ci
theorem dep_le (cs : List Nat) : ∀ i : Nat, dep cs i ≤ (i : Int)
  | 0 => by rw [dep_zero]; exact Int.le_refl _
  | i + 1 => by
    have ih := dep_le cs i
    cases h : cs[i]? with
    | some c =>
      rw [dep_succ h]
      have : stp c ≤ 1 := by unfold stp; split <;> omega
      omega
    | none =>
      have e : dep cs (i + 1) = dep cs i := by
        unfold dep
        rw [List.take_add_one, h]
        simp
      omega
end H5
set_option Elab.async false
set_option linter.all false
set_option maxRecDepth 100000
namespace L2
open PySem PySem.Spec PyProof.Rows
structure Bl (mg : Str → Option Value) : Prop where
  isinstance : mg "isinstance" = none
  str : mg "str" = none
  all : mg "all" = none
  any : mg "any" = none
  min : mg "min" = none
  max : mg "max" = none
  len : mg "len" = none
  enumerate : mg "enumerate" = none
  sum : mg "sum" = none
  range : mg "range" = none
  list : mg "list" = none
  bool : mg "bool" = none
  int : mg "int" = none
  tuple : mg "tuple" = none
  zip : mg "zip" = none
  set : mg "set" = none
  sorted : mg "sorted" = none
  ValueError : mg "ValueError" = none
structure ExcC (K : PySem.W.Frag) (mg : Str → Option Value) (nm : Str) (C : Addr) : Prop where
  x : XC K C
  at_ : mg nm = some (.ref C)
structure ObjC (K : PySem.W.Frag) (mg : Str → Option Value) (nm : Str) (C : Addr) : Prop where
  k : Kind K C
  at_ : mg nm = some (.ref C)
  text : NoAttr K C "text"
  many : NoAttr K C "many"
  levels : NoAttr K C "levels"
theorem hu1 {A : Around} {k : Nat} (hr : Room k A) : A.units < cLine := Nat.lt_of_le_of_lt (Nat.le_add_right _ _) hr.units
theorem le_line {n : Nat} (h : n ≤ 1000) : n ≤ sizeLine := Nat.le_of_lt (small1000 h)
theorem same_upd {H H' : Hp} {l : Addr} {o : HO} (s : Same H H') (hl : H l = none) : Same H (upd H' l o) := fun b u e => by rw [upd_ne (ne_of_none e hl)]; exact s b u e
theorem same_new {H : Hp} {l : Addr} {o : HO} (hl : H l = none) : Same H (upd H l o) := same_upd (Same.refl H) hl
theorem cds_at {z : Str} {i c : Nat} (h : z.cps[i]? = some c) : (cds z)[i]? = some c := by rw [← h]; simp [cds]
theorem cds_lt {z : Str} {i c : Nat} (h : (cds z)[i]? = some c) : i < z.length := (List.getElem?_eq_some_iff.mp h).1
theorem len_app (x y : Str) : (x ++ y).length = x.length + y.length := by rw [← cds_len, cds_app, List.length_append, cds_len, cds_len]
def iv (n : Nat) : V := .int n
def sg1 (c : Nat) : V := .str ⟨#[c]⟩
def okc (c : Nat) : Bool := c == 40 || c == 41 || c == 63
theorem okc_iff {c : Nat} : okc c = true ↔ c = 40 ∨ c = 41 ∨ c = 63 := by
  unfold okc
  simp only [Bool.or_eq_true, beq_iff_eq, or_assoc]
theorem in_three (c : Nat) : (!(Builtin.Str.occurrences (Str.ofString "()?") ⟨#[c]⟩ 0 (Str.ofString "()?").length 1).isEmpty) = okc c := by
  rw [StrLaws.found_one]
  have e : (Str.ofString "()?").cps.toList = [40, 41, 63] := by decide +kernel
  rw [e]
  unfold okc
  rw [Bool.eq_iff_iff]
  simp [or_assoc]
theorem in_q (z : Str) : (!(Builtin.Str.occurrences z (Str.ofString "?") 0 z.length 1).isEmpty) = (cds z).contains 63 := by
  rw [c_rub, StrLaws.found_one]
  rw [Bool.eq_iff_iff]
  simp [cds]
def depsTo (cs : List Nat) (i : Nat) : List Int := (List.range (i + 1)).map (H5.dep cs)
theorem depsTo_succ (cs : List Nat) (i : Nat) : depsTo cs (i + 1) = depsTo cs i ++ [H5.dep cs (i + 1)] := by
  unfold depsTo
  rw [List.range_succ, List.map_append]
  rfl
theorem depsTo_last (cs : List Nat) (i : Nat) : ∃ r, depsTo cs i = r ++ [H5.dep cs i] := by
  unfold depsTo
  rw [List.range_succ, List.map_append]
  exact ⟨_, rfl⟩
theorem depsTo_len (cs : List Nat) (i : Nat) : (depsTo cs i).length = i + 1 := by
  unfold depsTo
  rw [List.length_map, List.length_range]
theorem depsTo_all (cs : List Nat) : depsTo cs cs.length = H5.deps cs := rfl
theorem deps_len (cs : List Nat) : (H5.deps cs).length = cs.length + 1 := by
  unfold H5.deps
  rw [List.length_map, List.length_range]
def cloB (cs : List Nat) : Bool := !cs.contains 63 && (decide (H5.dep cs cs.length = 0) && (H5.deps cs).all fun d => decide (0 ≤ d))
theorem min_zero {cs : List Nat} {M : Int} (hM : M ∈ H5.deps cs) (hle : ∀ a ∈ H5.deps cs, M ≤ a) : decide (M = 0) = (H5.deps cs).all fun d => decide (0 ≤ d) := by
  have h0 : (0 : Int) ∈ H5.deps cs := List.mem_map.mpr ⟨0, List.mem_range.mpr (Nat.succ_pos _), H5.dep_zero cs⟩
  have h1 := hle 0 h0
  rw [Bool.eq_iff_iff, decide_eq_true_eq, List.all_eq_true]
  constructor
  · intro e d hd
    have := hle d hd
    exact decide_eq_true (by omega)
  · intro h
    have := of_decide_eq_true (h M hM)
    omega
theorem clo_of {cs : List Nat} (ok : cs.all okc = true) (h : cloB cs = true) : H5.Clo cs := by
  unfold cloB at h
  simp only [Bool.and_eq_true, Bool.not_eq_true', decide_eq_true_eq] at h
  obtain ⟨h1, h2, h3⟩ := h
  refine ⟨fun c hc => ?_, fun i hi => ?_, h2⟩
  · rcases okc_iff.mp (List.all_eq_true.mp ok c hc) with e | e | e
    · exact .inl e
    · exact .inr e
    · subst e
      rw [List.contains_iff_mem.mpr hc] at h1
      cases h1
  · have := List.all_eq_true.mp h3 (H5.dep cs i) (List.mem_map.mpr ⟨i, List.mem_range.mpr (by omega), rfl⟩)
    exact of_decide_eq_true this
theorem cloB_of {cs : List Nat} (h : H5.Clo cs) : cloB cs = true := by
  unfold cloB
  simp only [Bool.and_eq_true, Bool.not_eq_true', decide_eq_true_eq]
  refine ⟨?_, h.fin, List.all_eq_true.mpr fun d hd => ?_⟩
  · rw [Bool.eq_false_iff]
    intro e
    rcases h.sg 63 (List.contains_iff_mem.mp e) with q | q <;> cases q
  · obtain ⟨i, hi, rfl⟩ := List.mem_map.mp hd
    exact decide_eq_true (h.nn i (by have := List.mem_range.mp hi; omega))
theorem okc_of {cs : List Nat} (h : H5.Clo cs) : cs.all okc = true := List.all_eq_true.mpr fun c hc => by
  rcases h.sg c hc with q | q <;> subst q <;> rfl
def rLenS : List V → Hp → VK → Prop := fun xs H Q => ∃ z, xs = [.str z] ∧ z.length ≤ sizeLine ∧ Q (.int z.length) H
def rLenQ (K : PySem.W.Frag) : List V → Hp → VK → Prop := fun xs H Q => ∃ p ys, xs = [.ref p] ∧ (SqL K H p ys ∨ SqT K H p ys) ∧ Q (.int ys.length) H
def rAddS : R2 := fun x y H Q => ∃ i j, x = .str i ∧ y = .str j ∧ i.length + j.length ≤ sizeLine ∧ Q (.str (i ++ j)) H
def rInS : R2 := fun x y H Q => ∃ i j, x = .str i ∧ y = .str j ∧ Q (.bl (!(Builtin.Str.occurrences j i 0 j.length 1).isEmpty)) H
def rSumL (K : PySem.W.Frag) : List V → Hp → VK → Prop := fun xs H Q => ∃ (l : Addr) (ns : List Int), xs = [.ref l] ∧ SqL K H l (ns.map V.int) ∧ Q (.int ns.sum) H
def rMinL (K : PySem.W.Frag) : List V → Hp → VK → Prop := fun xs H Q => ∃ (l : Addr) (ns : List Int), xs = [.ref l] ∧ SqL K H l (ns.map V.int) ∧ ns ≠ [] ∧ ∀ M, M ∈ ns → (∀ a ∈ ns, M ≤ a) → Q (.int M) H
def rAllL (K : PySem.W.Frag) : List V → Hp → VK → Prop := fun xs H Q => ∃ (l : Addr) (bs : List Bool), xs = [.ref l] ∧ SqL K H l (bs.map V.bl) ∧ Q (.bl (bs.all id)) H
def rAnyL (K : PySem.W.Frag) : List V → Hp → VK → Prop := fun xs H Q => ∃ (l : Addr) (bs : List Bool), xs = [.ref l] ∧ SqL K H l (bs.map V.bl) ∧ Q (.bl (bs.any id)) H
def rIsN : R2 := fun x y H Q => y = .non ∧ Q (.bl (decide (x = .non))) H
def rNotN : R2 := fun x y H Q => y = .non ∧ Q (.bl (!decide (x = .non))) H
def rIsNotB : R2 := fun x y H Q => ∃ b c, x = .bl b ∧ y = .bl c ∧ Q (.bl (!(b == c))) H
def rGeS : R2 := fun x y H Q => ∃ i j, x = .str i ∧ y = .str j ∧ Q (.bl (!decide (cds i < cds j))) H
def rListOf (K : PySem.W.Frag) : List V → Hp → VK → Prop := fun xs H Q => ∃ p ys, xs = [.ref p] ∧ (SqL K H p ys ∨ SqT K H p ys) ∧ ∀ l, H l = none → Q (.ref l) (upd H l (.lst ys))
def rListS : List V → Hp → VK → Prop := fun xs H Q => ∃ z, xs = [.str z] ∧ z.length ≤ sizeLine ∧ ∀ l, H l = none → Q (.ref l) (upd H l (.lst ((cds z).map fun c => V.str ⟨#[c]⟩)))
section
variable {X : Cx}
theorem call_lenS : CallR X (.builtin "len") rLenS := call_len_str
theorem call_lenQ : CallR X (.builtin "len") (rLenQ X.K) := call_len_seq
theorem op_addS : OpR X (binaryOp .Add) rAddS := op_add_str
theorem op_inS : OpR X (compareOp .In) rInS := op_in_str
theorem call_sumQ (hc : X.calm = true) : CallR X (.builtin "sum") (rSumL X.K) := call_sumL hc
theorem call_minQ (hc : X.calm = true) : CallR X (.builtin "min") (rMinL X.K) := call_minL hc
theorem call_allQ (hc : X.calm = true) : CallR X (.builtin "all") (rAllL X.K) := call_allL hc
theorem op_isQ : OpR X (compareOp .Is) rIsN := op_isN
theorem op_isnotQ : OpR X (compareOp .IsNot) rIsNotB := op_isnotB
end
section
variable {K : PySem.W.Frag} {σ : St} {H : Hp} {Q : VK} {a : Addr} {xs : List V} {z p q : Str}
theorem rd_lenZ (hz : z.length ≤ 1000) (h : Q (.int z.length) H) : rLenS [.str z] H Q := ⟨z, rfl, Nat.le_of_lt (small1000 hz), h⟩
theorem rd_lenQ (e : SqL K H a xs) (h : Q (.int xs.length) H) : rLenQ K [.ref a] H Q := ⟨a, xs, rfl, .inl e, h⟩
theorem rd_addZ (hz : p.length + q.length ≤ 1000) (h : Q (.str (p ++ q)) H) : rAddS (.str p) (.str q) H Q := ⟨p, q, rfl, rfl, Nat.le_of_lt (small1000 hz), h⟩
theorem rd_inS3 {c : Nat} (h : Q (.bl (okc c)) H) : rInS (.str ⟨#[c]⟩) (.str (Str.ofString "()?")) H Q := ⟨_, _, rfl, rfl, by rw [in_three]; exact h⟩
theorem rd_inSq (h : Q (.bl ((cds z).contains 63)) H) : rInS (.str (Str.ofString "?")) (.str z) H Q := ⟨_, _, rfl, rfl, by rw [in_q]; exact h⟩
theorem rd_sum {ns : List Int} (e : SqL K H a (ns.map V.int)) (h : Q (.int ns.sum) H) : rSumL K [.ref a] H Q := ⟨a, ns, rfl, e, h⟩
theorem rd_all {bs : List Bool} (e : SqL K H a (bs.map V.bl)) (h : Q (.bl (bs.all id)) H) : rAllL K [.ref a] H Q := ⟨a, bs, rfl, e, h⟩
theorem rd_any {bs : List Bool} (e : SqL K H a (bs.map V.bl)) (h : Q (.bl (bs.any id)) H) : rAnyL K [.ref a] H Q := ⟨a, bs, rfl, e, h⟩
theorem rd_isN {x : V} (h : Q (.bl (decide (x = .non))) H) : rIsN x .non H Q := ⟨rfl, h⟩
theorem rd_notN {x : V} (h : Q (.bl (!decide (x = .non))) H) : rNotN x .non H Q := ⟨rfl, h⟩
theorem rd_isNotB {b c : Bool} (h : Q (.bl (!(b == c))) H) : rIsNotB (.bl b) (.bl c) H Q := ⟨b, c, rfl, rfl, h⟩
theorem rd_geS (h : Q (.bl (!decide (cds p < cds q))) H) : rGeS (.str p) (.str q) H Q := ⟨p, q, rfl, rfl, h⟩
theorem rd_listOf (e : SqL K H a xs) (h : ∀ l, H l = none → Q (.ref l) (upd H l (.lst xs))) : rListOf K [.ref a] H Q := ⟨a, xs, rfl, .inl e, h⟩
theorem rd_listS (hz : z.length ≤ 1000) (h : ∀ l, H l = none → Q (.ref l) (upd H l (.lst ((cds z).map sg1)))) : rListS [.str z] H Q := ⟨z, rfl, Nat.le_of_lt (small1000 hz), h⟩
theorem rd_isi {x c : V} {t cv : Value} {b : Bool} (e1 : clsV c = some cv) (ty : TyOf K H x t) (k : PySem.W.kitOne K t cv = some b) (h : Q (.bl b) H) : rIsi K [x, c] H Q := ⟨x, c, t, cv, b, rfl, e1, ty, k, h⟩
theorem rd_lc {js : List (Option Nat)} {wi : TI} {g : TG} {te : TE} (h : wi σ H fun J H1 => ∀ l, H1 l = none → ∃ W : Nat → Nat → List V → St → Hp → Prop, (∃ m, W 0 m [] (blkSt js σ) (upd H1 l (.lst []))) ∧ ∀ i m acc σ' H', W i m acc σ' H' →
  ((J.stop i H' ∧ Q (.ref l) H') ∨ (J.go i H' ∧ ∀ x H2, J.yld i H' x H2 → g x σ' H2 fun σ2 H3 => te σ2 H3 fun v H4 => H4 l = some (.lst acc) ∧ acc.length < sizeLine ∧ ∃ m', m' < m ∧ W (i + 1) m' (acc ++ [v]) σ2 (upd H4 l (.lst (acc ++ [v])))))) : tLC js wi g te σ H Q := h
theorem rd_lcI {js : List (Option Nat)} {wi : TI} {g : TG} {tc : TT} {te : TE} (h : wi σ H fun J H1 => ∀ l, H1 l = none → ∃ W : Nat → Nat → List V → St → Hp → Prop, (∃ m, W 0 m [] (blkSt js σ) (upd H1 l (.lst []))) ∧ ∀ i m acc σ' H', W i m acc σ' H' →
  ((J.stop i H' ∧ Q (.ref l) H') ∨ (J.go i H' ∧ ∀ x H2, J.yld i H' x H2 → g x σ' H2 fun σ2 H3 => tc σ2 H3 fun b H3' => if b = true then te σ2 H3' fun v H4 => H4 l = some (.lst acc) ∧ acc.length < sizeLine ∧ ∃ m', m' < m ∧ W (i + 1) m' (acc ++ [v]) σ2 (upd H4 l (.lst (acc ++ [v])))
    else ∃ m', m' < m ∧ W (i + 1) m' acc σ2 H3'))) : tLCI js wi g tc te σ H Q := h
variable {RI : It → Hp → Prop} {t : TA} {te : TE} {i j : Int} {b : Addr} {ys : List V}
theorem rd_iList (h : te σ H fun x H1 => ∃ a, x = .ref a ∧ (∃ xs, SqL K H1 a xs) ∧ RI (Itl K a) H1) : iList K te σ H RI := h
theorem rd_refL {P : Addr → Prop} (e : SqL K H a xs) (h : P a) : ∃ k, V.ref a = .ref k ∧ (∃ xs, SqL K H k xs) ∧ P k := ⟨a, rfl, ⟨xs, e⟩, h⟩
theorem rd_iRng1 (h : t σ H fun vs H1 => ∃ j : Int, vs = [.int j] ∧ -(2 ^ 62) ≤ j ∧ j < 2 ^ 62 ∧ RI (Itr 0 j.toNat) H1) : iRng1 t σ H RI := h
theorem rd_iRng2 (h : t σ H fun vs H1 => ∃ i j : Int, vs = [.int i, .int j] ∧ (-(2 ^ 62) ≤ i ∧ i < 2 ^ 62 ∧ -(2 ^ 62) ≤ j ∧ j < 2 ^ 62) ∧ RI (Itr i (j - i).toNat) H1) : iRng2 t σ H RI := h
theorem rd_iRngD (h : t σ H fun vs H1 => ∃ i j : Int, vs = [.int i, .int j, .int (-1)] ∧ (-(2 ^ 62) ≤ i ∧ i < 2 ^ 62 ∧ -(2 ^ 62) ≤ j ∧ j < 2 ^ 62) ∧ RI (Itd i (i - j).toNat) H1) : iRngD t σ H RI := h
theorem rd_iZipS (h : t σ H fun vs H1 => ∃ x y, vs = [.str x, .str y] ∧ RI (ItzS x y) H1) : iZipS t σ H RI := h
theorem rd_str2 {P : Str → Str → Prop} (h : P p q) : ∃ x y, [V.str p, V.str q] = [.str x, .str y] ∧ P x y := ⟨p, q, rfl, h⟩
theorem rd_iZipL (h : t σ H fun vs H1 => ∃ a b, vs = [.ref a, .ref b] ∧ (∃ xs, SqL K H1 a xs) ∧ (∃ ys, SqL K H1 b ys) ∧ RI (ItzL K a b) H1) : iZipL K t σ H RI := h
theorem rd_refL2 {P : Addr → Addr → Prop} (e : SqL K H a xs) (e' : SqL K H b ys) (h : P a b) : ∃ k l, [V.ref a, V.ref b] = [.ref k, .ref l] ∧ (∃ xs, SqL K H k xs) ∧ (∃ ys, SqL K H l ys) ∧ P k l := ⟨a, b, rfl, ⟨xs, e⟩, ⟨ys, e'⟩, h⟩
theorem rd_iEnumL (h : t σ H fun vs H1 => ∃ a, vs = [.ref a] ∧ (∃ xs, SqL K H1 a xs) ∧ RI (Ite (Itl K a)) H1) : iEnumL K t σ H RI := h
theorem rd_refL1 {P : Addr → Prop} (e : SqL K H a xs) (h : P a) : ∃ k, [V.ref a] = [.ref k] ∧ (∃ xs, SqL K H k xs) ∧ P k := ⟨a, rfl, ⟨xs, e⟩, h⟩
theorem rd_ixLi {v : V} (e : SqL K H a xs) (hi : atI xs i = some v) (h : Q v H) : rIxL K (.ref a) (.int i) H Q := ⟨a, xs, i, v, rfl, rfl, e, hi, h⟩
theorem rd_fldV {C dx : Addr} {fs : List (Str × V)} {f : Str} {v : V} {n : Nat} (e0 : σ[n]? = some (some (.ref a))) (e : H a = some (.ins C dx fs)) (c : Cls K C) (na : NoAttr K C f) (l : fs.lookup f = some v) (h : Q v H) : tFld K (tVar n) f σ H Q :=
  ⟨.ref a, e0, a, C, dx, fs, v, rfl, e, c, na, l, h⟩
end
section
variable {X : Cx} {K : PySem.W.Frag}
theorem pg_tupK (n : Nat) {es : List Expr} {k : Nat} {t : TGs} {pos : Pos} (hK : X.K = K) (hc : X.calm = true) (h : PGs X es t) (hn : (assignEach es X.env).length = n := by rfl) (hst : (assignEach es X.env).findIdx? (·.1) = none := by rfl) : PG X (.Tuple es k pos) (gTup K n t) := by
  subst hK
  exact pg_tup hc h hn hst
theorem ix_listK (hK : X.K = K) : IxR X (rIxL K) := by subst hK; exact ix_list
theorem ix_tupK (hK : X.K = K) : IxR X (rIxT K) := by subst hK; exact ix_tup
theorem op_in_seqK (hK : X.K = K) : OpR X (compareOp .In) (rIn K false) := by subst hK; exact op_in_seq
theorem call_isiK (hK : X.K = K) : CallR X (.builtin "isinstance") (rIsi K) := by subst hK; exact call_isi
theorem call_lenK (hK : X.K = K) : CallR X (.builtin "len") (rLenQ K) := by subst hK; exact call_lenQ
theorem call_sumK (hK : X.K = K) (hc : X.calm = true) : CallR X (.builtin "sum") (rSumL K) := by subst hK; exact call_sumQ hc
theorem call_minK (hK : X.K = K) (hc : X.calm = true) : CallR X (.builtin "min") (rMinL K) := by subst hK; exact call_minQ hc
theorem call_allK (hK : X.K = K) (hc : X.calm = true) : CallR X (.builtin "all") (rAllL K) := by subst hK; exact call_allQ hc
theorem sl_listK (hK : X.K = K) : SlR X (rSlL K) := by subst hK; exact sl_list
theorem mt_joinK (hK : X.K = K) : MtR X "str.join" (rJoin K) := by subst hK; exact mt_join
theorem op_cmpNeLK (hK : X.K = K) (hu : X.A.units < cLine) : OpR X (compareOp .NotEq) (rCmpL K true) := by subst hK; exact op_cmpNeL hu
section
variable {o e es : Expr} {es' : List Expr} {to te ts : TE} {t : TA} {name f : Str} {apos cpos pos p2 pos' : Pos} {T id : String} {r : V → List V → Hp → VK → Prop} {tg value : Expr} {tv : TE}
theorem pe_bmK (hK : X.K = K) (pa : PlainAttrs T) (slot : Slot T name id) (hty : typeOf (.builtin id) = pure (.type "method_descriptor")) (hm : MtR X id r) (ho : PE X o to) (ha : PA X (e :: es') t)
    (hbase : attributeBase o name X.env (eval o X.env) = eval o X.env := by rfl)
    (hfew : ((backTo cpos (starEach (e :: es') X.env)).all (fun x => !x.1) && (backToKw cpos (keywordEach [] X.env)).all (fun x => x.1.isSome)
      && decide ((e :: es').length + ([] : List Keyword).length + (if ([] : List Keyword).isEmpty then 0 else 1) < 30)) = true := by rfl)
    (hline : (apos.endLine == cpos.line) = true := by rfl) (hs : starEach (e :: es') X.env = (false, eval e X.env) :: starEach es' X.env := by rfl) (hplain : (backTo cpos (starEach es' X.env)).any (·.1) = false := by rfl) :
    PE X (.Call (.Attribute o name apos) (e :: es') [] cpos) (tBM K T r to t) := by
  subst hK
  exact pe_bm pa slot hty hm ho ha hbase hfew hline hs hplain
theorem pe_fldK (hK : X.K = K) (he : PE X e te) (hb : attributeBase e f X.env (eval e X.env) = eval e X.env) : PE X (.Attribute e f pos) (tFld K te f) := by
  subst hK
  exact pe_fld he hb
theorem ps_fldK (hK : X.K = K) (ha : PE X o to) (hv : PE X value tv) (hs : swapsWith value (some (.Attribute o f pos')) pos.line X.env = pure false) : PS X (.Assign [.Attribute o f pos'] value pos) (sFld K to tv f) := by
  subst hK
  exact ps_fld ha hv hs
theorem pi_listK (hK : X.K = K) (hl : PE X e te) : PI X tg e (iList K te) := by
  subst hK
  exact pi_list hl
theorem pi_enumLK (hK : X.K = K) {a : Expr} {p tp : Pos} {es : List Expr} {k1} (hg : Gl X "enumerate") (hm : X.mg "enumerate" = none) (ha : PA X [a] t) (hs : starEach [a] X.env = [(false, eval a X.env)] := by rfl) :
    PI X (.Tuple es k1 tp) (.Call (.Name "enumerate" p) [a] [] pos) (iEnumL K t) := by
  subst hK
  exact pi_enumL hg hm ha hs
end
end
/-- a text that fills a row, as a test -/
def marks (r t : List Nat) : Bool := (r.zip t).all fun p => p.1 == 63 || p.1 == p.2
def filB (r t : List Nat) : Bool := t.all okc && (decide (t.length = r.length) && (cloB t && marks r t))
end L2
namespace L2
open PySem PySem.Spec PyProof.Rows
/-- a method of the text -/
structure DefM (K : PySem.W.Frag) (C : Addr) (x qual : Str) (st : Stmt) (ps : List Str) : Prop where
  ex : ∃ f fd, Fun K x qual st f fd ∧ Binds K fd ps [] ∧ PySem.W.findIn K (.ref C) x = some (some (.ref f)) ∧ PySem.W.isFn K (.ref f) = true
section
variable {P : Program} {w : World} {K : PySem.W.Frag} {mg : Str → Option Value} {base : Heap} {C : Addr} {x qual cn : Str} {st : Stmt} {N ps : List Str} {k : Nat} {sp : Sp}
theorem DefM.ok (D : DefM K C x qual st ps) (cl : Cls K C) (S : FnScope N ps (defScope st)) (len : ∀ vs H Q E, sp vs H Q E → vs.length = ps.length)
    (hbody : ∀ (f : Addr) (cdv : Value) (A : Around) (outer : List Env) (s : Shared) (H : Hp) (vs : List V) (Q : VK) (E : XK), Room k (A.deeper (PyProof.Rows.envOfC qual (defScope st) s.heap.objs.size f cdv)) → sp vs H Q E →
      ∃ t, PSs (cxOf CX0 P w K mg base N qual (defScope st) f cdv A outer s H E).nox (defBody st) t ∧ t { nx := fun _ H' => Q .non H', rt := Q } (start N vs) H) : CalM P w K mg base C (k + 1) x ps sp := by
  obtain ⟨f, fd, F, b, hf, hi⟩ := D
  exact ⟨⟨f, fd, ⟨hf, hi, F.kp⟩, F.ok S len (hbody f), b⟩, cl⟩
theorem DefM.init (D : DefM K C "__init__" qual st ps) (mk : PySem.W.makesIn K C = true) (kp : PySem.W.keepIn K (.ref C) = true) (at_ : mg cn = some (.ref C)) (S : FnScope N ps (defScope st)) (len : ∀ vs H Q E, sp vs H Q E → vs.length = ps.length)
    (hbody : ∀ (f : Addr) (cdv : Value) (A : Around) (outer : List Env) (s : Shared) (H : Hp) (vs : List V) (Q : VK) (E : XK), Room k (A.deeper (PyProof.Rows.envOfC qual (defScope st) s.heap.objs.size f cdv)) → sp vs H Q E →
      ∃ t, PSs (cxOf CX0 P w K mg base N qual (defScope st) f cdv A outer s H E).nox (defBody st) t ∧ t { nx := fun _ H' => Q .non H', rt := Q } (start N vs) H) : CalI P w K mg base cn C (k + 1) ps sp := by
  obtain ⟨f, fd, F, b, hf, hi⟩ := D
  exact ⟨⟨f, fd, ⟨mk, hf, hi, kp⟩, F.ok S len (hbody f), b⟩, at_⟩
end
/-- __init__ that sets one field -/
def spInit1 (C : Addr) (f : Str) : Sp := fun vs H Q _ => ∃ x dx v, vs = [.ref x, v] ∧ H x = some (.ins C dx []) ∧ Q .non (upd H x (.ins C dx [(f, v)]))
theorem len_spInit1 {C : Addr} {f a b : Str} : ∀ vs H Q E, spInit1 C f vs H Q E → vs.length = [a, b].length := fun vs H Q E h => by obtain ⟨x, dx, v, rfl, _⟩ := h; rfl
/-- a new object: what its making leaves -/
structure NewO (H H' : Hp) (x C dx : Addr) (fs : List (Str × V)) : Prop where
  same : Same H H'
  new : H x = none
  newd : H dx = none
  obj : H' x = some (.ins C dx fs)
theorem Same.newO {H H1 H2 : Hp} {x C dx : Addr} {fs : List (Str × V)} (s : Same H H1) (n : NewO H1 H2 x C dx fs) : NewO H H2 x C dx fs := ⟨s.trans n.same, s.free n.new, s.free n.newd, n.obj⟩
theorem newO_mk {H : Hp} {x dx C : Addr} {o1 o2 : HO} {fs : List (Str × V)} (hx : H x = none) (hdx : H dx = none) : NewO H (upd (upd (upd H dx o1) x o2) x (.ins C dx fs)) x C dx fs := ⟨same_upd (same_upd (same_new hdx) hx) hx, hx, hdx, upd_same⟩
theorem newO_mk0 {H : Hp} {x dx C : Addr} {o1 : HO} (hx : H x = none) (hdx : H dx = none) : NewO H (upd (upd H dx o1) x (.ins C dx [])) x C dx [] := ⟨same_upd (same_new hdx) hx, hx, hdx, upd_same⟩
section
variable {K : PySem.W.Frag} {σ : St} {H : Hp} {Q : VK} {C : Addr} {t : TA} {f : Str} {D : Ends} {ta tv : TE}
theorem rd_makeD {sp : Sp} (h : t σ H fun vs H1 => ∀ x dx, H1 x = none → H1 dx = none → dx ≠ x → sp (.ref x :: (vs ++ [])) (upd (upd H1 dx (.own x)) x (.ins C dx [])) (fun v H2 => v = .non ∧ Q (.ref x) H2) E0) : tMake C sp [] E0 t σ H Q := h
theorem rd_make0 (h : ∀ x dx H', NewO H H' x C dx [] → Q (.ref x) H') : tMake0 C σ H Q := fun x dx hx hdx _ => h x dx _ (newO_mk0 hx hdx)
theorem rd_init1 {v : V} {x dx : Addr} {H1 : Hp} {Q' : VK} (hx : H1 x = none) (hdx : H1 dx = none) (h : ∀ H', NewO H1 H' x C dx [(f, v)] → Q' (.ref x) H') : spInit1 C f ([V.ref x] ++ ([v] ++ [])) (upd (upd H1 dx (.own x)) x (.ins C dx [])) (fun w H2 => w = .non ∧ Q' (.ref x) H2) E0 :=
  ⟨x, dx, v, rfl, upd_same, rfl, h _ (newO_mk hx hdx)⟩
def rRevS : R2 := fun x y H2 Q => ∃ z, x = .str z ∧ y = .int (-1) ∧ z.length ≤ sizeLine ∧ Q (.str (revS z)) H2
theorem rd_revS {te ts : TE} (h : te σ H fun x H1 => ts σ H1 fun y H2 => rRevS x y H2 Q) : tRevS te ts σ H Q := h
theorem rd_rRevS {z : Str} (hz : z.length ≤ 1000) (h : Q (.str (revS z)) H) : rRevS (.str z) (.int (-1)) H Q := ⟨z, rfl, rfl, Nat.le_of_lt (small1000 hz), h⟩
def rRevL (K : PySem.W.Frag) : R2 := fun x y H2 Q => ∃ a xs, x = .ref a ∧ y = .int (-1) ∧ SqL K H2 a xs ∧ ∀ p, H2 p = none → Q (.ref p) (upd H2 p (.lst xs.reverse))
theorem rd_revL {te ts : TE} (h : te σ H fun x H1 => ts σ H1 fun y H2 => rRevL K x y H2 Q) : tRevL K te ts σ H Q := h
theorem rd_rRevL {a : Addr} {xs : List V} (e : SqL K H a xs) (h : ∀ p, H p = none → Q (.ref p) (upd H p (.lst xs.reverse))) : rRevL K (.ref a) (.int (-1)) H Q := ⟨a, xs, rfl, rfl, e, h⟩
end
end L2
namespace L2
open PySem PySem.Spec PyProof.Rows
def txt (cs : List Nat) : Str := ⟨cs.toArray⟩
theorem cds_txt (cs : List Nat) : cds (txt cs) = cs := rfl
theorem txt_len (cs : List Nat) : (txt cs).length = cs.length := by rw [← cds_len, cds_txt]
theorem catS_sg (cs : List Nat) : catS (cs.map fun c => ⟨#[c]⟩) = txt cs := by
  refine str_ext ?_
  show ((cs.map fun c => (⟨#[c]⟩ : Str)).map cds).flatten = cs
  induction cs with
  | nil => rfl
  | cons c r ih =>
    rw [List.map_cons, List.map_cons, List.flatten_cons, ih]
    rfl
theorem sum_ones (cs : List Nat) : ((cs.map fun c => (⟨#[c]⟩ : Str)).map (·.length)).sum = cs.length := by
  induction cs with
  | nil => rfl
  | cons c r ih =>
    rw [List.map_cons, List.map_cons, List.sum_cons, ih, List.length_cons]
    show 1 + r.length = _
    omega
theorem cut_to {xs : List V} {m : Nat} (h : m ≤ xs.length) : cutV xs none (some (m : Int)) = xs.take m := by
  unfold cutV
  rw [HT.sIx_none, HT.sIx_nat, Nat.min_eq_left h]
  simp
section
variable {K : PySem.W.Frag} {σ : St} {H : Hp} {Q : VK} {a : Addr}
theorem rd_join {cs : List Nat} (e : SqL K H a (cs.map sg1)) (hz : cs.length ≤ 1000) (h : Q (.str (txt cs)) H) : rJoin K (.str (Str.ofString "")) [.ref a] H Q := by
  refine ⟨a, cs.map fun c => ⟨#[c]⟩, congrArg V.str c_none, rfl, ?_, by rw [sum_ones]; omega, by rw [catS_sg]; exact h⟩
  rw [List.map_map]
  exact e
theorem mod_nat (n : Int) (k : Nat) (hk : 0 < k) : ∃ j : Nat, n % (k : Int) = (j : Int) ∧ j < k :=
  ⟨(n % (k : Int)).toNat, by have := Int.emod_nonneg n (show (k : Int) ≠ 0 by omega); omega, by have := Int.emod_lt_of_pos n (show 0 < (k : Int) by omega); have := Int.emod_nonneg n (show (k : Int) ≠ 0 by omega); omega⟩
theorem rd_cmpNe {b : Addr} {xs ys : List V} (e : SqL K H a xs) (e' : SqL K H b ys) (c : ∀ (i : Nat) u v, xs[i]? = some u → ys[i]? = some v → cmpOk u v = true) (h : Q (.bl (!eqs xs ys)) H) : rCmpL K true (.ref a) (.ref b) H Q := ⟨a, b, xs, ys, rfl, rfl, e, e', c, h⟩
theorem eqs_nil (xs : List V) : eqs xs [] = xs.isEmpty := by cases xs <;> rfl
end
end L2
set_option Elab.async false
set_option linter.all false
namespace HM
open L2 H5
/-- nothing bars a filling -/
structure Fb (r : List Nat) : Prop where
  ev : r.length % 2 = 0
  pre : ∀ i, i ≤ r.length → 2 * (r.take i).count 41 ≤ i
  suf : ∀ i, i ≤ r.length → 2 * (r.drop i).count 40 + i ≤ r.length
/-- a filling -/
structure Fil (r t : List Nat) : Prop where
  len : t.length = r.length
  clo : Clo t
  put : ∀ (i c : Nat), r[i]? = some c → c = 63 ∨ t[i]? = some c
theorem dep_cons (x : Nat) (cs : List Nat) (i : Nat) : dep (x :: cs) (i + 1) = stp x + dep cs i := by
  simp [dep]
/-- the first k rubbed signs open, the others close -/
def early : Nat → List Nat → List Nat
  | _, [] => []
  | k, x :: r => if x = 63 then (if 0 < k then 40 :: early (k - 1) r else 41 :: early 0 r) else x :: early k r
theorem early_r0 (r : List Nat) : early 0 (63 :: r) = 41 :: early 0 r := rfl
theorem early_rs (k : Nat) (r : List Nat) : early (k + 1) (63 :: r) = 40 :: early k r := by
  conv => lhs; unfold early
  simp
theorem early_o {x : Nat} (k : Nat) (r : List Nat) (h : x ≠ 63) : early k (x :: r) = x :: early k r := by
  conv => lhs; unfold early
  rw [if_neg h]
theorem replN_y {a c n : Nat} (r : List Nat) : replN a c (n + 1) (a :: r) = c :: replN a c n r := by
  conv => lhs; unfold replN
  simp
theorem replN_z {a c : Nat} (r : List Nat) : replN a c 0 (a :: r) = a :: replN a c 0 r := by
  conv => lhs; unfold replN
  simp
theorem replN_o {a c n x : Nat} (r : List Nat) (h : x ≠ a) : replN a c n (x :: r) = x :: replN a c n r := by
  conv => lhs; unfold replN
  rw [if_neg (fun z => h z.1)]
theorem early_repl : ∀ (r : List Nat) (k m : Nat), r.length ≤ m → replN 63 41 m (replN 63 40 k r) = early k r
  | [], _, _, _ => rfl
  | x :: r, k, m, h => by
    simp only [List.length_cons] at h
    obtain ⟨m, rfl⟩ : ∃ m', m = m' + 1 := ⟨m - 1, by omega⟩
    by_cases e : x = 63
    · subst e
      cases k with
      | zero => rw [replN_z, replN_y, early_r0, early_repl r 0 m (by omega)]
      | succ k => rw [replN_y, replN_o _ (by decide), early_rs, early_repl r k (m + 1) (by omega)]
    · rw [replN_o _ e, replN_o _ e, early_o _ _ e, early_repl r k (m + 1) (by omega)]
theorem early_len : ∀ (k : Nat) (r : List Nat), (early k r).length = r.length
  | _, [] => rfl
  | k, x :: r => by
    unfold early
    split
    · split <;> simp [early_len]
    · simp [early_len]
theorem early_sg : ∀ (k : Nat) (r : List Nat), r.all okc = true → Sg (early k r)
  | _, [], _ => fun _ h => nomatch h
  | k, x :: r, h => by
    simp only [List.all_cons, Bool.and_eq_true] at h
    unfold early
    intro c hc
    split at hc
    · split at hc
      · rcases List.mem_cons.mp hc with e | e
        · exact .inl e
        · exact early_sg (k - 1) r h.2 c e
      · rcases List.mem_cons.mp hc with e | e
        · exact .inr e
        · exact early_sg 0 r h.2 c e
    · rename_i hx
      rcases List.mem_cons.mp hc with e | e
      · rcases okc_iff.mp h.1 with q | q | q
        · exact .inl (e.trans q)
        · exact .inr (e.trans q)
        · exact absurd q hx
      · exact early_sg k r h.2 c e
theorem early_mk : ∀ (k : Nat) (r : List Nat) (i c : Nat), r[i]? = some c → c = 63 ∨ (early k r)[i]? = some c
  | _, [], i, c, h => by simp at h
  | k, x :: r, 0, c, h => by
    simp at h
    subst h
    unfold early
    by_cases e : x = 63
    · exact .inl e
    · rw [if_neg e]; exact .inr rfl
  | k, x :: r, i + 1, c, h => by
    have h' : r[i]? = some c := by simpa using h
    unfold early
    split
    · split
      · simpa using early_mk (k - 1) r i c h'
      · simpa using early_mk 0 r i c h'
    · simpa using early_mk k r i c h'
theorem three (r : List Nat) (h : r.all okc = true) : r.count 40 + r.count 41 + r.count 63 = r.length := by
  induction r with
  | nil => rfl
  | cons x r ih =>
    simp only [List.all_cons, Bool.and_eq_true] at h
    have := ih h.2
    rcases okc_iff.mp h.1 with q | q | q <;> subst q <;> simp [List.count_cons] <;> omega
/-- all rubbed signs close: by what opens behind -/
theorem late_ok : ∀ (r : List Nat) (d : Int), r.all okc = true → (∀ i, i ≤ r.length → 2 * (r.drop i).count 40 + i ≤ r.length) → d + r.count 40 = r.count 41 + r.count 63 →
    (∀ i, i ≤ r.length → 0 ≤ d + dep (early 0 r) i) ∧ d + dep (early 0 r) r.length = 0
  | [], d, _, _, hf => by
    simp at hf
    subst hf
    exact ⟨fun i _ => by simp [early, dep], by simp [early, dep]⟩
  | x :: r, d, ho, hs, hf => by
    have ho' := ho
    simp only [List.all_cons, Bool.and_eq_true] at ho
    have h3 := three (x :: r) ho'
    have h0 := hs 0 (Nat.zero_le _)
    simp only [List.drop_zero, List.length_cons] at h0 h3
    have hs' : ∀ i, i ≤ r.length → 2 * (r.drop i).count 40 + i ≤ r.length := fun i hi => by
      have := hs (i + 1) (by simp; omega)
      simp only [List.drop_succ_cons, List.length_cons] at this
      omega
    have step : ∀ c : Nat, early 0 (x :: r) = c :: early 0 r → d + stp c + r.count 40 = r.count 41 + r.count 63 → (∀ i, i ≤ (x :: r).length → 0 ≤ d + dep (early 0 (x :: r)) i) ∧ d + dep (early 0 (x :: r)) (x :: r).length = 0 := fun c e hf' => by
      obtain ⟨h1, h2⟩ := late_ok r (d + stp c) ho.2 hs' hf'
      rw [e]
      refine ⟨fun i hi => ?_, ?_⟩
      · cases i with
        | zero => rw [dep_zero]; omega
        | succ i =>
          rw [dep_cons]
          have := h1 i (by simpa using hi)
          omega
      · rw [List.length_cons, dep_cons]; omega
    rcases okc_iff.mp ho.1 with q | q | q <;> subst q
    · exact step 40 (early_o _ _ (by decide)) (by simp [List.count_cons, stp] at hf ⊢; omega)
    · exact step 41 (early_o _ _ (by decide)) (by simp [List.count_cons, stp] at hf ⊢; omega)
    · exact step 41 (early_r0 _) (by simp [List.count_cons, stp] at hf ⊢; omega)
theorem early_ok : ∀ (r : List Nat) (k : Nat) (d : Int), r.all okc = true → 0 ≤ d → (∀ i, i ≤ r.length → 2 * ((r.take i).count 41 : Int) ≤ i + d) → (∀ i, i ≤ r.length → 2 * (r.drop i).count 40 + i ≤ r.length) → d + r.count 40 + 2 * k = r.count 41 + r.count 63 →
    (∀ i, i ≤ r.length → 0 ≤ d + dep (early k r) i) ∧ d + dep (early k r) r.length = 0
  | r, 0, d, ho, _, _, hs, hf => late_ok r d ho hs (by omega)
  | [], k + 1, d, _, h0, _, _, hf => by simp at hf; omega
  | x :: r, k + 1, d, ho, h0, hp, hs, hf => by
    have ho' := ho
    simp only [List.all_cons, Bool.and_eq_true] at ho
    have hs' : ∀ i, i ≤ r.length → 2 * (r.drop i).count 40 + i ≤ r.length := fun i hi => by
      have := hs (i + 1) (by simp; omega)
      simp only [List.drop_succ_cons, List.length_cons] at this
      omega
    have step : ∀ (c k' : Nat), early (k + 1) (x :: r) = c :: early k' r → 0 ≤ d + stp c → (∀ i, i ≤ r.length → 2 * ((r.take i).count 41 : Int) ≤ i + (d + stp c)) → d + stp c + r.count 40 + 2 * k' = r.count 41 + r.count 63 →
        (∀ i, i ≤ (x :: r).length → 0 ≤ d + dep (early (k + 1) (x :: r)) i) ∧ d + dep (early (k + 1) (x :: r)) (x :: r).length = 0 := fun c k' e hd hp' hf' => by
      obtain ⟨h1, h2⟩ := early_ok r k' (d + stp c) ho.2 hd hp' hs' hf'
      rw [e]
      refine ⟨fun i hi => ?_, ?_⟩
      · cases i with
        | zero => rw [dep_zero]; omega
        | succ i =>
          rw [dep_cons]
          have := h1 i (by simpa using hi)
          omega
      · rw [List.length_cons, dep_cons]; omega
    have pp : ∀ i, i ≤ r.length → 2 * (((x :: r).take (i + 1)).count 41 : Int) ≤ ((i + 1 : Nat) : Int) + d := fun i hi => hp (i + 1) (by simp; omega)
    rcases okc_iff.mp ho.1 with q | q | q <;> subst q
    · refine step 40 (k + 1) (early_o _ _ (by decide)) (by simp [stp]; omega) (fun i hi => ?_) (by simp [List.count_cons, stp] at hf ⊢; omega)
      have := pp i hi
      simp [List.count_cons, stp] at this ⊢
      omega
    · have h1 := pp 0 (Nat.zero_le _)
      refine step 41 (k + 1) (early_o _ _ (by decide)) (by simp [stp] at h1 ⊢; omega) (fun i hi => ?_) (by simp [List.count_cons, stp] at hf ⊢; omega)
      have := pp i hi
      simp [List.count_cons, stp] at this ⊢
      omega
    · refine step 40 k (early_rs _ _) (by simp [stp]; omega) (fun i hi => ?_) (by simp [List.count_cons, stp] at hf ⊢; omega)
      have := pp i hi
      simp [List.count_cons, stp] at this ⊢
      omega
theorem Fb.counts {r : List Nat} (F : Fb r) (ho : r.all okc = true) : r.count 40 ≤ r.length / 2 ∧ r.length / 2 ≤ r.count 40 + r.count 63 := by
  have h1 := F.suf 0 (Nat.zero_le _)
  have h2 := F.pre r.length (Nat.le_refl _)
  have h3 := three r ho
  have h4 := F.ev
  rw [List.drop_zero] at h1
  rw [List.take_length] at h2
  omega
theorem Fb.fil {r : List Nat} (F : Fb r) (ho : r.all okc = true) : Fil r (early (r.length / 2 - r.count 40) r) := by
  obtain ⟨h1, h2⟩ := F.counts ho
  have h3 := three r ho
  have h4 := F.ev
  obtain ⟨a, b⟩ := early_ok r (r.length / 2 - r.count 40) 0 ho (Int.le_refl _) (fun i hi => by have := F.pre i hi; omega) F.suf (by omega)
  refine ⟨early_len _ _, ⟨early_sg _ _ ho, fun i hi => ?_, ?_⟩, early_mk _ _⟩
  · rw [early_len] at hi
    have := a i hi
    omega
  · rw [early_len]; omega
theorem two (t : List Nat) (h : Sg t) : t.count 40 + t.count 41 = t.length := by
  induction t with
  | nil => rfl
  | cons x r ih =>
    have := ih fun c hc => h c (List.mem_cons_of_mem _ hc)
    rcases h x (List.mem_cons_self ..) with q | q <;> subst q <;> simp [List.count_cons] <;> omega
theorem marks_iff : ∀ (r t : List Nat), t.length = r.length → (marks r t = true ↔ ∀ (i : Nat) (c : Nat), r[i]? = some c → c = 63 ∨ t[i]? = some c)
  | [], [], _ => by simp [marks]
  | [], _ :: _, h => by simp at h
  | _ :: _, [], h => by simp at h
  | x :: r, y :: t, h => by
    have ih := marks_iff r t (by simpa using h)
    have e : marks (x :: r) (y :: t) = ((x == 63 || x == y) && marks r t) := rfl
    rw [e, Bool.and_eq_true, ih]
    constructor
    · rintro ⟨h1, h2⟩ i c hi
      cases i with
      | zero =>
        simp at hi
        subst hi
        simp only [Bool.or_eq_true, beq_iff_eq] at h1
        rcases h1 with q | q
        · exact .inl q
        · exact .inr (by simp [q])
      | succ i => simpa using h2 i c (by simpa using hi)
    · intro h1
      refine ⟨?_, fun i c hi => by simpa using h1 (i + 1) c (by simpa using hi)⟩
      rcases h1 0 x rfl with q | q
      · simp [q]
      · have : y = x := by simpa using q
        simp [this]
theorem fil_iff {r t : List Nat} : filB r t = true ↔ Fil r t := by
  unfold filB
  simp only [Bool.and_eq_true, decide_eq_true_eq]
  constructor
  · rintro ⟨h1, h2, h3, h4⟩
    exact ⟨h2, clo_of h1 h3, (marks_iff r t h2).mp h4⟩
  · intro F
    exact ⟨okc_of F.clo, F.len, cloB_of F.clo, (marks_iff r t F.len).mpr F.put⟩
end HM
set_option Elab.async false
set_option linter.all false
set_option maxRecDepth 100000
set_option maxHeartbeats 4000000
local macro_rules | `(tactic| walk_at "hp") => `(tactic| first | with_reducible assumption | with_reducible exact L2.upd_same)
local macro_rules | `(tactic| walk_at "sq") => `(tactic| first | with_reducible assumption | ((with_reducible apply L2.SqL.of); walk_at "hp") | ((with_reducible apply L2.SqT.of); walk_at "hp"))
local macro_rules | `(tactic| walk_at "sz") => `(tactic| first | with_reducible assumption | omega | (simp only [List.length_append, List.length_cons, List.length_nil, List.length_map]; omega))
local macro_rules | `(tactic| walk_at "rd1") => `(tactic| first
  | with_reducible refine L2.rd_seq ?_
  | with_reducible refine L2.rd_asg ?_
  | with_reducible refine L2.rd_name ?_
  | with_reducible refine L2.rd_nx ?_
  | with_reducible refine L2.rd_rt ?_
  | with_reducible refine L2.rd_op ?_
  | ((with_reducible apply L2.rd_var); exact rfl)
  | with_reducible refine L2.rd_C ?_
  | with_reducible refine L2.rd_I0 ?_
  | with_reducible refine L2.rd_U ?_
  | ((with_reducible refine L2.rd_I ?_ ?_); first | (show (0 : Int) < _; decide) | exact ⟨by decide, by decide⟩ | exact .inl ⟨by decide, by decide⟩ | exact .inr ⟨by decide, by decide⟩)
  | with_reducible refine L2.rd_un ?_
  | with_reducible refine L2.rd_if ?_
  | with_reducible refine L2.rd_test ?_
  | with_reducible refine L2.rd_B ?_
  | with_reducible refine L2.rd_bl ?_
  | with_reducible refine L2.rd_not ?_
  | with_reducible refine L2.rd_and ?_
  | with_reducible refine L2.rd_or ?_
  | with_reducible refine L2.rd_andV ?_
  | with_reducible refine L2.rd_orV ?_
  | with_reducible refine L2.rd_notV ?_
  | with_reducible refine L2.rd_ifE ?_
  | with_reducible refine L2.rd_eqI ?_
  | with_reducible refine L2.rd_eqC L2.c_open ?_
  | with_reducible refine L2.rd_eqC L2.c_close ?_
  | with_reducible refine L2.rd_eqC L2.c_rub ?_
  | with_reducible refine L2.rd_eqC rfl ?_
  | with_reducible refine L2.rd_eqB ?_
  | with_reducible refine L2.rd_eqS ?_
  | with_reducible refine L2.rd_neI ?_
  | with_reducible refine L2.rd_neC L2.c_open ?_
  | with_reducible refine L2.rd_neC L2.c_close ?_
  | with_reducible refine L2.rd_neC L2.c_rub ?_
  | with_reducible refine L2.rd_neB ?_
  | with_reducible refine L2.rd_neS ?_
  | with_reducible refine L2.rd_cb ?_
  | with_reducible refine L2.rd_cons ?_
  | with_reducible refine L2.rd_nil ?_
  | with_reducible refine L2.rd_call ?_
  | with_reducible refine L2.rd_lst ?_
  | with_reducible refine L2.rd_tup ?_
  | ((with_reducible refine L2.rd_small ?_ ?_); exact Nat.le_of_ble_eq_true rfl)
  | with_reducible refine L2.rd_ret ?_
  | with_reducible refine L2.rd_retN ?_
  | with_reducible refine L2.rd_next ?_
  | with_reducible refine L2.rd_drop ?_
  | ((with_reducible apply L2.rd_aug); exact rfl)
  | with_reducible refine L2.rd_ipI ?_
  | with_reducible refine L2.rd_bm ?_
  | with_reducible refine L2.rd_bm0 ?_
  | with_reducible refine L2.rd_tyS ?_
  | ((with_reducible apply L2.rd_tyL); walk_at "hp")
  | ((with_reducible apply L2.rd_append); walk_at "hp"; walk_at "sz")
  | ((with_reducible refine L2.rd_lenZ ?_ ?_); walk_at "sz")
  | ((with_reducible apply L2.rd_lenQ); walk_at "sq")
  | ((with_reducible apply L2.rd_ixL); walk_at "sq"; with_reducible assumption)
  | ((with_reducible apply L2.rd_ixLi); walk_at "sq"; with_reducible assumption)
  | ((with_reducible apply L2.rd_ixS); walk_at "sz"; with_reducible assumption)
  | ((with_reducible apply L2.rd_ixT); walk_at "sq"; first | with_reducible assumption | exact rfl)
  | ((with_reducible apply L2.rd_ixTi); walk_at "sq"; first | with_reducible assumption | exact rfl)
  | with_reducible refine L2.rd_sub ?_
  | ((with_reducible apply L2.rd_tupG); walk_at "sq"; exact rfl)
  | with_reducible refine L2.rd_gcons ?_
  | with_reducible refine L2.rd_gnil ?_
  | with_reducible refine L2.rd_sl ?_
  | with_reducible refine L2.rd_noPart ?_
  | with_reducible refine L2.rd_part ?_
  | with_reducible refine L2.rd_int ?_
  | with_reducible refine L2.rd_str ?_
  | with_reducible refine L2.rd_str1 ?_
  | ((with_reducible refine L2.rd_slS ?_ ?_); walk_at "sz")
  | ((with_reducible apply L2.rd_slL); walk_at "sq")
  | ((with_reducible refine L2.rd_addZ ?_ ?_); walk_at "sz")
  | with_reducible refine L2.rd_inS3 ?_
  | with_reducible refine L2.rd_inSq ?_
  | ((with_reducible apply L2.rd_sum); walk_at "sq")
  | ((with_reducible apply L2.rd_all); walk_at "sq")
  | ((with_reducible apply L2.rd_any); walk_at "sq")
  | with_reducible refine L2.rd_isN ?_
  | with_reducible refine L2.rd_notN ?_
  | with_reducible refine L2.rd_isNotB ?_
  | with_reducible refine L2.rd_geS ?_
  | ((with_reducible apply L2.rd_listOf); walk_at "sq")
  | ((with_reducible refine L2.rd_listS ?_ ?_); walk_at "sz")
  | with_reducible refine L2.rd_revS ?_
  | ((with_reducible refine L2.rd_rRevS ?_ ?_); walk_at "sz")
  | with_reducible refine L2.rd_revL ?_
  | ((with_reducible apply L2.rd_rRevL); walk_at "sq")
  | with_reducible refine L2.rd_lc ?_
  | with_reducible refine L2.rd_lcI ?_
  | with_reducible refine L2.rd_iList ?_
  | ((with_reducible apply L2.rd_refL); walk_at "sq")
  | with_reducible refine L2.rd_iRng1 ?_
  | with_reducible refine L2.rd_iRng2 ?_
  | with_reducible refine L2.rd_iRngD ?_
  | with_reducible refine L2.rd_iZipS ?_
  | with_reducible refine L2.rd_str2 ?_
  | with_reducible refine L2.rd_iZipL ?_
  | ((with_reducible apply L2.rd_refL2); walk_at "sq"; walk_at "sq")
  | with_reducible refine L2.rd_iEnumL ?_
  | ((with_reducible apply L2.rd_refL1); walk_at "sq")
  | with_reducible refine L2.rd_chain ?_
  | with_reducible refine L2.rd_for ?_
  | with_reducible refine L2.rd_iStr ?_
  | with_reducible refine L2.rd_iEnumS ?_)
local macro_rules | `(tactic| walk_at "rd") => `(tactic| repeat walk_at "rd1")
seal L2.PE L2.PA L2.PS L2.PSs L2.PT L2.PPs
namespace HF
open PySem L2
def top (i : Nat) : Stmt := PySem.Challenge.pw_halftold_k01_whole_filled.main.body.getD i (.Pass ⟨0, 0, 0, 0⟩)
section
variable {P : Program} {w : World} {K : PySem.W.Frag} {mg : Str → Option Value} {base : Heap} {C_BadRow : Addr}
abbrev s_is_row : Stmt := top 4
theorem sc_is_row : FnScope ["value"] ["value"] (defScope s_is_row) := ⟨rfl, rfl, rfl, by decide +kernel, rfl, by decide +kernel, by decide +kernel⟩
def sp_is_row : Sp := fun vs H Q _ => ∃ z, vs = [.str z] ∧ z.length ≤ 1000 ∧ ∀ H', Same H H' → Q (.bl ((cds z).all okc)) H'
theorem ok_is_row {f : Addr} (D : Def K mg "is_row" s_is_row f ["value"]) (B : Bl mg) : Cal P w K mg base CX0 1 "is_row" f ["value"] sp_is_row := by
  refine D.ok sc_is_row (fun vs H Q E h => by obtain ⟨z, rfl, _⟩ := h; rfl) (fun cdv A outer s H vs Q E hr h => ?_)
  obtain ⟨z, rfl, hz, k⟩ := h
  refine ⟨_, (pss_one (ps_ret (pe_and (pe_callB (call_isiK (K := K) rfl) rfl B.isinstance (by decide +kernel) (pa_cons (pv 0) (pa_cons (pe_bltn (v := .ty "str") rfl B.str (by decide +kernel) rfl) pa_nil))) (pe_one (pe_callB (call_allK (K := K) rfl rfl) rfl B.all (by decide +kernel) (pa_cons (pe_lcomp (N := ["sign"]) (js := [none]) rfl (pi_str (pv 0)) (fun _ _ _ _ => (pg_name (i := 0) (show (["sign"] : List Str).Nodup by decide +kernel) rfl (Or.inl rfl) (.inr rfl))) (fun _ _ _ _ => (pe_cmpR op_inS (pv 0) pe_str (by with_unfolding_all rfl)))) pa_nil)))))), ?_⟩
  walk_at "rd"
  refine rd_isi rfl (.str z) (by kernel_rfl) ⟨true, rfl, iteT ?_⟩
  walk_at "rd"
  refine (lc_fun (itOf_str z H) (le_line hz) (fun σ' => ∃ v, σ' = [v]) (fun i => .bl (okc ((cds z).getD i 0))) ⟨_, rfl⟩ (fun i x σ' H' hi hx hs hS R hR => ?_) fun l H' hS hl hL => ?_)
  · obtain ⟨v, rfl⟩ := hs
    obtain ⟨c, hc, rfl⟩ := hx
    walk_at "rd"
    have := hR [some (.str ⟨#[c]⟩)] H' ⟨_, rfl⟩ (Same.refl _)
    rw [List.getD_eq_getElem?_getD, hc] at this
    exact this
  · refine ⟨l, (cds z).map okc, rfl, SqL.of ?_, ?_⟩
    · rw [hL]
      congr 2
      refine List.ext_getElem (by simp [cds, Str.length]) fun i h1 h2 => ?_
      simp at h1 h2 ⊢
      simp [h1, h2]
    · rw [List.all_map]
      exact k H' hS
abbrev s_check_row : Stmt := top 5
theorem sc_check_row : FnScope ["row"] ["row"] (defScope s_check_row) := ⟨rfl, rfl, rfl, by decide +kernel, rfl, by decide +kernel, by decide +kernel⟩
def sp_check_row (C : Addr) : Sp := fun vs H Q E => ∃ z, vs = [.str z] ∧ z.length ≤ 1000 ∧ ((cds z).all okc = true → ∀ H', Same H H' → Q .non H') ∧ ((cds z).all okc = false → ∀ H', Same H H' → E (.ref C) none H')
theorem ok_check_row {f f_is_row : Addr} (D : Def K mg "check_row" s_check_row f ["row"]) (X_BadRow : ExcC K mg "BadRow" C_BadRow) (G_is_row : Cal P w K mg base CX0 1 "is_row" f_is_row ["value"] sp_is_row) :
    Cal P w K mg base (CXe P w) 2 "check_row" f ["row"] (sp_check_row C_BadRow) := by
  refine D.okX sc_check_row (fun vs H Q E h => by obtain ⟨z, rfl, _⟩ := h; rfl) (fun cdv A outer s H vs Q E hr h => ?_)
  obtain ⟨z, rfl, hz, k1, k2⟩ := h
  refine ⟨_, (pss_one (ps_if (pt_not (pt_val (pe_callC G_is_row (hr.mono (by decide)) rfl pass0 (pa_cons (pv 0) pa_nil)))) (pss_one (ps_raise raises_def rfl X_BadRow.x rfl X_BadRow.at_ (pa_cons pe_str pa_nil))) pss_nil)), ?_⟩
  walk_at "rd"
  refine ⟨z, rfl, hz, fun H' hS => ?_⟩
  walk_at "rd"
  refine rd_iteNB (fun e => ?_) (fun e => ?_)
  · exact ⟨by show 1 ≤ sizeLine; decide, k2 e H' hS⟩
  · exact k1 e H' hS
abbrev s_running_depths : Stmt := top 6
theorem sc_running_depths : FnScope ["text", "counts", "sign", "step"] ["text"] (defScope s_running_depths) := ⟨rfl, rfl, rfl, by decide +kernel, rfl, by decide +kernel, by decide +kernel⟩
def sp_running_depths : Sp := fun vs H Q _ => ∃ z, vs = [.str z] ∧ z.length ≤ 1000 ∧ ∀ l H', Same H H' → H l = none → H' l = some (.lst ((H5.deps (cds z)).map V.int)) → Q (.ref l) H'
theorem ok_running_depths {f : Addr} (D : Def K mg "running_depths" s_running_depths f ["text"]) : Cal P w K mg base CX0 1 "running_depths" f ["text"] sp_running_depths := by
  refine D.ok sc_running_depths (fun vs H Q E h => by obtain ⟨z, rfl, _⟩ := h; rfl) (fun cdv A outer s H vs Q E hr h => ?_)
  obtain ⟨z, rfl, hz, k⟩ := h
  refine ⟨_, (pss_cons (ps_set (i := 1) sc_running_depths.nd rfl (Or.inl rfl) (pe_lst (pa_cons pe_int pa_nil)))
    (pss_cons (ps_for PassesOwn.never rfl (pi_str (pv 0)) (pg_name (i := 2) sc_running_depths.nd rfl (Or.inl rfl))
      (pss_cons (ps_set (i := 3) sc_running_depths.nd rfl (Or.inl rfl) (pe_ifExp (pt_cmpR op_eq (pv 2) pe_str (nomark _)) pe_int (pe_un un_neg pe_int)))
    (pss_one (ps_expr (pe_bmK (K := K) rfl PySem.F.plainAttrs_list PySem.F.slot_list_append PySem.F.type_list_append mt_append (pv 1) (pa_cons (pe_op op_add (pe_ix (ix_listK (K := K) rfl) (pv 1) (pe_un un_neg pe_int) (fun _ _ => rfl)) (pv 3)) pa_nil))))))
    (pss_one (ps_ret (pv 1))))), ?_⟩
  walk_at "rd"
  intro l hl
  walk_at "rd"
  refine for_str (fun i σ H' => ∃ v u, σ = [some (.str z), some (.ref l), v, u] ∧ Same H H' ∧ H' l = some (.lst ((depsTo (cds z) i).map V.int))) ⟨none, none, rfl, same_new hl, upd_same⟩ (fun i c σ H' hc h => ?_) (fun σ H' h => ?_)
  · obtain ⟨v, u, rfl, hS, hL⟩ := h
    have hc' := cds_at hc
    have hi := cds_lt hc'
    obtain ⟨r, hr'⟩ := depsTo_last (cds z) i
    have hlen := depsTo_len (cds z) i
    rw [hr', List.length_append, List.length_singleton] at hlen
    have hL' : H' l = some (.lst (r.map V.int ++ [.int (H5.dep (cds z) i)])) := by rw [hL, hr', List.map_append]; rfl
    have fin : ∀ st : Int, st = H5.stp c → Same H (upd H' l (.lst ((r.map V.int ++ [.int (H5.dep (cds z) i)]) ++ [.int (H5.dep (cds z) i + st)]))) ∧ (upd H' l (.lst ((r.map V.int ++ [.int (H5.dep (cds z) i)]) ++ [.int (H5.dep (cds z) i + st)]))) l = some (.lst ((depsTo (cds z) (i + 1)).map V.int)) := fun st e => by
      refine ⟨same_upd hS hl, ?_⟩
      rw [upd_same, depsTo_succ, hr', List.map_append, List.map_append, H5.dep_succ hc', e]
      rfl
    clear hL
    walk_at "rd"
    refine rd_ite (fun e => ?_) (fun e => ?_)
    · obtain ⟨f1, f2⟩ := fin 1 (by rw [e]; rfl)
      walk_at "rd"
      refine ⟨l, _, _, _, rfl, rfl, SqL.of hL', atI_last _ _, ?_⟩
      walk_at "rd"
      exact ⟨_, _, rfl, f1, f2⟩
    · obtain ⟨f1, f2⟩ := fin (-1) (by unfold H5.stp; rw [if_neg e])
      walk_at "rd"
      refine ⟨l, _, _, _, rfl, rfl, SqL.of hL', atI_last _ _, ?_⟩
      walk_at "rd"
      exact ⟨_, _, rfl, f1, f2⟩
  · obtain ⟨v, u, rfl, hS, hL⟩ := h
    walk_at "rd"
    exact k l H' hS hl hL
abbrev s_is_closed : Stmt := top 7
theorem sc_is_closed : FnScope ["row", "counts"] ["row"] (defScope s_is_closed) := ⟨rfl, rfl, rfl, by decide +kernel, rfl, by decide +kernel, by decide +kernel⟩
def sp_is_closed : Sp := fun vs H Q _ => ∃ z, vs = [.str z] ∧ z.length ≤ 1000 ∧ ∀ H', Same H H' → Q (.bl (cloB (cds z))) H'
theorem ok_is_closed {f f_running_depths : Addr} (D : Def K mg "is_closed" s_is_closed f ["row"]) (B : Bl mg) (G_running_depths : Cal P w K mg base CX0 1 "running_depths" f_running_depths ["text"] sp_running_depths) :
    Cal P w K mg base CX0 2 "is_closed" f ["row"] sp_is_closed := by
  refine D.ok sc_is_closed (fun vs H Q E h => by obtain ⟨z, rfl, _⟩ := h; rfl) (fun cdv A outer s H vs Q E hr h => ?_)
  obtain ⟨z, rfl, hz, k⟩ := h
  refine ⟨_, (pss_cons (ps_if (pt_cmpR op_inS pe_str (pv 0) (by with_unfolding_all rfl)) (pss_one (ps_ret pe_bl)) pss_nil)
    (pss_cons (ps_set (i := 1) sc_is_closed.nd rfl (Or.inl rfl) (pe_callC G_running_depths (hr.mono (by decide)) rfl pass0 (pa_cons (pv 0) pa_nil)))
    (pss_one (ps_ret (pe_and (pe_cmpR op_eq (pe_ix (ix_listK (K := K) rfl) (pv 1) (pe_un un_neg pe_int) (fun _ _ => rfl)) pe_int (nomark _)) (pe_one (pe_cmpR op_eq (pe_callB (call_minK (K := K) rfl rfl) rfl B.min (by decide +kernel) (pa_cons (pv 1) pa_nil)) pe_int (nomark _)))))))), ?_⟩
  walk_at "rd"
  refine rd_iteB (fun e => ?_) (fun e => ?_)
  · walk_at "rd"
    have := k H (Same.refl H)
    unfold cloB at this
    rw [e] at this
    exact this
  · walk_at "rd"
    refine ⟨z, rfl, hz, fun l H' hS hl hL => ?_⟩
    obtain ⟨r, hr'⟩ := depsTo_last (cds z) (cds z).length
    have hL' : H' l = some (.lst (r.map V.int ++ [.int (H5.dep (cds z) (cds z).length)])) := by rw [hL, ← depsTo_all, hr', List.map_append]; rfl
    have kk := k H' hS
    unfold cloB at kk
    rw [e] at kk
    walk_at "rd"
    refine ⟨l, _, _, _, rfl, rfl, SqL.of hL', atI_last _ _, ?_⟩
    walk_at "rd"
    refine rd_iteB (fun e2 => ?_) (fun e2 => ?_)
    · rw [e2] at kk
      walk_at "rd"
      refine ⟨l, H5.deps (cds z), rfl, SqL.of hL, (fun q => by have := congrArg List.length q; rw [deps_len] at this; simp at this), fun M hM hle => ?_⟩
      walk_at "rd"
      rw [min_zero hM hle]
      exact kk
    · rw [e2] at kk
      walk_at "rd"
      exact kk
abbrev s_is_filling : Stmt := top 8
theorem sc_is_filling : FnScope ["row", "text"] ["row", "text"] (defScope s_is_filling) := ⟨rfl, rfl, rfl, by decide +kernel, rfl, by decide +kernel, by decide +kernel⟩
def sp_is_filling : Sp := fun vs H Q _ => ∃ r z, vs = [.str r, .str z] ∧ r.length ≤ 1000 ∧ z.length ≤ 1000 ∧ ∀ H', Same H H' → Q (.bl (filB (cds r) (cds z))) H'
theorem ok_is_filling {f f_is_row f_is_closed : Addr} (D : Def K mg "is_filling" s_is_filling f ["row", "text"]) (B : Bl mg) (G_is_row : Cal P w K mg base CX0 1 "is_row" f_is_row ["value"] sp_is_row)
    (G_is_closed : Cal P w K mg base CX0 2 "is_closed" f_is_closed ["row"] sp_is_closed) : Cal P w K mg base CX0 3 "is_filling" f ["row", "text"] sp_is_filling := by
  refine D.ok sc_is_filling (fun vs H Q E h => by obtain ⟨r, z, rfl, _⟩ := h; rfl) (fun cdv A outer s H vs Q E hr h => ?_)
  obtain ⟨r, z, rfl, hrl, hz, k⟩ := h
  refine ⟨_, (pss_cons (ps_if (PW.pt (pw_or (pt_not (pt_val (pe_callC G_is_row (hr.mono (by decide)) rfl pass0 (pa_cons (pv 1) pa_nil)))) (pw_or (pt_cmpR op_ne (pe_callB call_lenS rfl B.len PySem.boot_len (pa_cons (pv 1) pa_nil)) (pe_callB call_lenS rfl B.len PySem.boot_len (pa_cons (pv 0) pa_nil)) (nomark _)) (pw_or1 (pt_not (pt_val (pe_callC G_is_closed (hr.mono (by decide)) rfl pass0 (pa_cons (pv 1) pa_nil)))))))) (pss_one (ps_ret pe_bl)) pss_nil)
    (pss_one (ps_ret (pe_callB (call_allK (K := K) rfl rfl) rfl B.all (by decide +kernel) (pa_cons (pe_lcomp (N := ["mark", "sign"]) (js := [none, none]) rfl (pi_zipS rfl B.zip (pa_cons (pv 0) (pa_cons (pv 1) pa_nil))) (fun _ _ _ _ => (pg_tupK (K := K) 2 rfl rfl (pgs_cons (pg_name (i := 0) (show (["mark", "sign"] : List Str).Nodup by decide +kernel) rfl (Or.inl rfl) (.inr rfl)) (pgs_cons (pg_name (i := 1) (show (["mark", "sign"] : List Str).Nodup by decide +kernel) rfl (Or.inl rfl) (.inr rfl)) pgs_nil)))) (fun _ _ _ _ => (pe_or (pe_cmpR op_eq (pv 0) pe_str (nomark _)) (pe_one (pe_cmpR op_eq (pv 0) (pv 1) (nomark _)))))) pa_nil))))), ?_⟩
  walk_at "rd"
  refine ⟨z, rfl, hz, fun H1 hS1 => ?_⟩
  have kk : ∀ b, filB (cds r) (cds z) = b → ∀ H', Same H1 H' → Q (.bl b) H' := fun b e H' hS => by rw [← e]; exact k H' (hS1.trans hS)
  unfold filB at kk
  walk_at "rd"
  refine rd_iteNB (fun e => ?_) (fun e => ?_)
  · walk_at "rd"
    exact kk false (by rw [e]; rfl) H1 (Same.refl _)
  rw [e] at kk
  walk_at "rd"
  refine rd_iteN (fun e2 => ?_) (fun e2 => ?_)
  · walk_at "rd"
    exact kk false (by rw [decide_eq_false (by rw [cds_len, cds_len]; omega)]; rfl) H1 (Same.refl _)
  have hlen : z.length = r.length := by omega
  rw [decide_eq_true (show (cds z).length = (cds r).length from hlen)] at kk
  walk_at "rd"
  refine ⟨z, rfl, hz, fun H2 hS2 => ?_⟩
  walk_at "rd"
  refine rd_iteNB (fun e3 => ?_) (fun e3 => ?_)
  · walk_at "rd"
    exact kk false (by rw [e3]; rfl) H2 hS2
  rw [e3] at kk
  walk_at "rd"
  refine (lc_fun (itOf_zipS r z H2) (le_line (by omega)) (fun σ' => ∃ v u, σ' = [v, u]) (fun i => .bl ((cds r).getD i 0 == 63 || (cds r).getD i 0 == (cds z).getD i 0)) ⟨_, _, rfl⟩ (fun i x σ' H' hi hx hs hS R hR => ?_) fun l H' hS hl hL => ?_)
  · obtain ⟨v, u, rfl⟩ := hs
    obtain ⟨c, d, p, hc, hd, rfl, hp⟩ := hx
    rw [List.getD_eq_getElem?_getD, List.getD_eq_getElem?_getD, hc, hd] at hR
    have hR' : ∀ b, (c == 63 || c == d) = b → R [some (.str ⟨#[c]⟩), some (.str ⟨#[d]⟩)] (.bl b) H' := fun b e => by
      have := hR [some (.str ⟨#[c]⟩), some (.str ⟨#[d]⟩)] H' ⟨_, _, rfl⟩ (Same.refl _)
      rw [← e]; exact this
    walk_at "rd"
    refine rd_ite (fun e4 => ?_) (fun e4 => ?_)
    · exact hR' true (by simp [e4])
    · walk_at "rd"
      refine hR' _ ?_
      rw [beq_eq_false_iff_ne.mpr e4, Bool.false_or]
      by_cases q : c = d <;> simp [q]
  · refine ⟨l, (List.range (min r.length z.length)).map (fun i => (cds r).getD i 0 == 63 || (cds r).getD i 0 == (cds z).getD i 0), rfl, SqL.of (by rw [hL, List.map_map]; rfl), ?_⟩
    refine kk _ ?_ H' (hS2.trans hS)
    rw [List.all_map]
    show marks (cds r) (cds z) = _
    unfold marks
    have e : (cds r).zip (cds z) = (List.range (min r.length z.length)).map fun i => ((cds r).getD i 0, (cds z).getD i 0) := by
      refine List.ext_getElem (by simp [cds, Str.length]) fun i h1 h2 => ?_
      simp only [List.length_zip, cds_len] at h1
      have h3 : i < (cds r).length := by rw [cds_len]; omega
      have h4 : i < (cds z).length := by rw [cds_len]; omega
      simp only [List.getElem_zip, List.getElem_map, List.getElem_range, List.getD_eq_getElem?_getD, List.getElem?_eq_getElem h3, List.getElem?_eq_getElem h4, Option.getD_some]
    rw [e, List.all_map]
    rfl
end
end HF
set_option Elab.async false
set_option linter.all false
set_option maxRecDepth 100000
set_option maxHeartbeats 4000000
namespace HF
open PySem L2
section
variable {P : Program} {w : World} {K : PySem.W.Frag} {mg : Str → Option Value} {base : Heap} {C_Filled C_Uneven C_Early C_Late C_Cheapest C_BadRow C_NoFilling : Addr}
abbrev s_Filled___init__ : Stmt := inClass (top 13) 0
theorem sc_Filled___init__ : FnScope ["self", "text"] ["self", "text"] (defScope s_Filled___init__) := ⟨rfl, rfl, rfl, by decide +kernel, rfl, by decide +kernel, by decide +kernel⟩
theorem ok_Filled_init (D : DefM K C_Filled "__init__" "Filled.__init__" s_Filled___init__ ["self", "text"]) (O : ObjC K mg "Filled" C_Filled) (mk : PySem.W.makesIn K C_Filled = true) (kp : PySem.W.keepIn K (.ref C_Filled) = true) :
    CalI P w K mg base "Filled" C_Filled 1 ["self", "text"] (spInit1 C_Filled "text") := by
  refine D.init mk kp O.at_ sc_Filled___init__ len_spInit1 (fun f cdv A outer s H vs Q E hr h => ?_)
  obtain ⟨x, dx, v, rfl, hx, k⟩ := h
  refine ⟨_, (pss_one (ps_fldK (K := K) rfl (pv 0) (pv 1) rfl)), ?_⟩
  exact ⟨_, rfl, _, rfl, x, C_Filled, dx, [], rfl, hx, O.k.cl, O.text, by decide, k⟩
abbrev s_Early___init__ : Stmt := inClass (top 15) 0
theorem sc_Early___init__ : FnScope ["self", "many"] ["self", "many"] (defScope s_Early___init__) := ⟨rfl, rfl, rfl, by decide +kernel, rfl, by decide +kernel, by decide +kernel⟩
theorem ok_Early_init (D : DefM K C_Early "__init__" "Early.__init__" s_Early___init__ ["self", "many"]) (O : ObjC K mg "Early" C_Early) (mk : PySem.W.makesIn K C_Early = true) (kp : PySem.W.keepIn K (.ref C_Early) = true) :
    CalI P w K mg base "Early" C_Early 1 ["self", "many"] (spInit1 C_Early "many") := by
  refine D.init mk kp O.at_ sc_Early___init__ len_spInit1 (fun f cdv A outer s H vs Q E hr h => ?_)
  obtain ⟨x, dx, v, rfl, hx, k⟩ := h
  refine ⟨_, (pss_one (ps_fldK (K := K) rfl (pv 0) (pv 1) rfl)), ?_⟩
  exact ⟨_, rfl, _, rfl, x, C_Early, dx, [], rfl, hx, O.k.cl, O.many, by decide, k⟩
abbrev s_Late___init__ : Stmt := inClass (top 16) 0
theorem sc_Late___init__ : FnScope ["self", "many"] ["self", "many"] (defScope s_Late___init__) := ⟨rfl, rfl, rfl, by decide +kernel, rfl, by decide +kernel, by decide +kernel⟩
theorem ok_Late_init (D : DefM K C_Late "__init__" "Late.__init__" s_Late___init__ ["self", "many"]) (O : ObjC K mg "Late" C_Late) (mk : PySem.W.makesIn K C_Late = true) (kp : PySem.W.keepIn K (.ref C_Late) = true) :
    CalI P w K mg base "Late" C_Late 1 ["self", "many"] (spInit1 C_Late "many") := by
  refine D.init mk kp O.at_ sc_Late___init__ len_spInit1 (fun f cdv A outer s H vs Q E hr h => ?_)
  obtain ⟨x, dx, v, rfl, hx, k⟩ := h
  refine ⟨_, (pss_one (ps_fldK (K := K) rfl (pv 0) (pv 1) rfl)), ?_⟩
  exact ⟨_, rfl, _, rfl, x, C_Late, dx, [], rfl, hx, O.k.cl, O.many, by decide, k⟩
abbrev s_overfull : Stmt := top 19
theorem sc_overfull : FnScope ["row", "sign", "excess", "place", "found"] ["row", "sign"] (defScope s_overfull) := ⟨rfl, rfl, rfl, by decide +kernel, rfl, by decide +kernel, by decide +kernel⟩
def exc (d : Nat) (cs : List Nat) (i : Nat) : Int := 2 * ((cs.take i).count d : Int) - i
theorem exc_succ {d c : Nat} {cs : List Nat} {i : Nat} (h : cs[i]? = some c) : exc d cs (i + 1) = exc d cs i + (if c = d then 1 else -1) := by
  unfold exc
  rw [List.take_add_one, h, List.count_append]
  by_cases e : c = d
  · subst e; simp; omega
  · rw [if_neg e]
    have : [c].count d = 0 := List.count_eq_zero_of_not_mem (by simpa using Ne.symm e)
    simp [this]; omega
def sp_overfull : Sp := fun vs H Q _ => ∃ (z g : Str) (d : Nat), vs = [.str z, .str g] ∧ g = ⟨#[d]⟩ ∧ z.length ≤ 1000 ∧
  ((∀ i, i ≤ z.length → exc d (cds z) i ≤ 0) → ∀ H', Same H H' → Q (.int 0) H') ∧ (∀ r : Nat, 1 ≤ r → r ≤ z.length → 0 < exc d (cds z) r → ∀ H', Same H H' → Q (.int r) H')
theorem ok_overfull {f : Addr} (D : Def K mg "overfull" s_overfull f ["row", "sign"]) (B : Bl mg) : Cal P w K mg base CX0 1 "overfull" f ["row", "sign"] sp_overfull := by
  refine D.ok sc_overfull (fun vs H Q E h => by obtain ⟨z, g, d, rfl, _⟩ := h; rfl) (fun cdv A outer s H vs Q E hr h => ?_)
  obtain ⟨z, g, d, rfl, rfl, hz, k0, k1⟩ := h
  refine ⟨_, (pss_cons (ps_set (i := 2) sc_overfull.nd rfl (Or.inl rfl) pe_int)
    (pss_cons (ps_for PassesOwn.never rfl (pi_enumS rfl B.enumerate (pa_cons (pv 0) pa_nil)) (pg_tupK (K := K) 2 rfl rfl (pgs_cons (pg_name (i := 3) sc_overfull.nd rfl (Or.inl rfl)) (pgs_cons (pg_name (i := 4) sc_overfull.nd rfl (Or.inl rfl)) pgs_nil)))
      (pss_cons (ps_aug (i := 2) sc_overfull.nd rfl (Or.inl rfl) (pe_ifExp (pt_cmpR op_eq (pv 4) (pv 1) (nomark _)) pe_int (pe_un un_neg pe_int)) ip_add)
    (pss_one (ps_if (pt_cmpR op_gt (pv 2) pe_int (nomark _)) (pss_one (ps_ret (pe_op op_add (pv 3) pe_int))) pss_nil))))
    (pss_one (ps_ret pe_int)))), ?_⟩
  walk_at "rd"
  have h0 : exc d (cds z) 0 = 0 := rfl
  refine for_enumS (fun i σ H' => ∃ v3 v4, σ = [some (.str z), some (.str ⟨#[d]⟩), some (.int (exc d (cds z) i)), v3, v4] ∧ Same H H' ∧ ∀ j, j ≤ i → exc d (cds z) j ≤ 0) ⟨none, none, by rw [h0]; rfl, Same.refl _, fun j hj => by rw [show j = 0 by omega, h0]; exact Int.le_refl _⟩ (fun i c σ H' p hc h hp => ?_) (fun σ H' h => ?_)
  · obtain ⟨v3, v4, rfl, hS, hj⟩ := h
    have hc' := cds_at hc
    have hi := cds_lt hc'
    have hS2 : Same H (upd H' p (.tup [.int i, .str ⟨#[c]⟩])) := same_upd hS (hS.free hp)
    have ex := exc_succ (d := d) hc'
    walk_at "rd"
    refine rd_ite (fun e => ?_) (fun e => ?_)
    · rw [if_pos e] at ex
      walk_at "rd"
      refine rd_ite (fun e2 => ?_) (fun e2 => ?_)
      · walk_at "rd"
        exact k1 (i + 1) (by omega) (by omega) (by rw [ex]; exact e2) _ hS2
      · walk_at "rd"
        refine ⟨_, _, by rw [ex]; rfl, hS2, fun j hj' => ?_⟩
        by_cases q : j = i + 1
        · rw [q, ex]; omega
        · exact hj j (by omega)
    · rw [if_neg e] at ex
      walk_at "rd"
      refine rd_ite (fun e2 => ?_) (fun e2 => ?_)
      · walk_at "rd"
        exact k1 (i + 1) (by omega) (by omega) (by rw [ex]; exact e2) _ hS2
      · walk_at "rd"
        refine ⟨_, _, by rw [ex]; rfl, hS2, fun j hj' => ?_⟩
        by_cases q : j = i + 1
        · rw [q, ex]; omega
        · exact hj j (by omega)
  · obtain ⟨v3, v4, rfl, hS, hj⟩ := h
    walk_at "rd"
    exact k0 (fun i hi => hj i hi) H' hS
abbrev s_what_bars : Stmt := top 20
theorem sc_what_bars : FnScope ["row", "early", "late"] ["row"] (defScope s_what_bars) := ⟨rfl, rfl, rfl, by decide +kernel, rfl, by decide +kernel, by decide +kernel⟩
/-- what is told where something bars -/
inductive Bars (CU CE CL : Addr) (r : List Nat) : Addr → List (Str × V) → Prop where
  | uneven (h : r.length % 2 = 1) : Bars CU CE CL r CU []
  | early (n : Nat) (h : n ≤ r.length) (hc : n < 2 * (r.take n).count 41) : Bars CU CE CL r CE [("many", .int n)]
  | late (n : Nat) (h : n ≤ r.length) (hc : n < 2 * (r.drop (r.length - n)).count 40) : Bars CU CE CL r CL [("many", .int n)]
def sp_what_bars (CU CE CL : Addr) : Sp := fun vs H Q _ => ∃ z, vs = [.str z] ∧ z.length ≤ 1000 ∧ (HM.Fb (cds z) → ∀ H', Same H H' → Q .non H') ∧
  (¬ HM.Fb (cds z) → ∀ x C dx fs H', NewO H H' x C dx fs → Bars CU CE CL (cds z) C fs → Q (.ref x) H')
theorem ok_what_bars {f f_overfull : Addr} (D : Def K mg "what_bars" s_what_bars f ["row"]) (B : Bl mg) (O_Uneven : ObjC K mg "Uneven" C_Uneven) (M_Uneven : Mk0 K C_Uneven) (I_Early : CalI P w K mg base "Early" C_Early 1 ["self", "many"] (spInit1 C_Early "many"))
    (I_Late : CalI P w K mg base "Late" C_Late 1 ["self", "many"] (spInit1 C_Late "many")) (G_overfull : Cal P w K mg base CX0 1 "overfull" f_overfull ["row", "sign"] sp_overfull) :
    CalU P w K mg base CX0 3 "what_bars" f ["row"] (sp_what_bars C_Uneven C_Early C_Late) := by
  refine D.up sc_what_bars (fun vs H Q E h => by obtain ⟨z, rfl, _⟩ := h; rfl) (fun cdv A outer s H vs Q E hr h => ?_)
  obtain ⟨z, rfl, hz, k1, k2⟩ := h
  refine ⟨_, pssu_head (psu_if (ptu_cmpL op_eq (peu_opC op_mod (pe_callB call_lenS rfl B.len PySem.boot_len (pa_cons (pv 0) pa_nil))) pe_int (nomark _)) (pss_one (ps_ret (pe_makeN M_Uneven rfl O_Uneven.at_))) pss_nil)
    (pss_cons (ps_set (i := 1) sc_what_bars.nd rfl (Or.inl rfl) (pe_callC G_overfull (hr.mono (by decide)) rfl pass0 (pa_cons (pv 0) (pa_cons pe_str pa_nil))))
    (pss_cons (ps_if (pt_cmpR op_gt (pv 1) pe_int (nomark _)) (pss_one (ps_ret (pe_makeC I_Early (hr.mono (by decide)) rfl (pa_cons (pv 1) pa_nil)))) pss_nil)
    (pss_cons (ps_set (i := 2) sc_what_bars.nd rfl (Or.inl rfl) (pe_callC G_overfull (hr.mono (by decide)) rfl pass0 (pa_cons (pe_revS (pv 0) (pe_un un_neg pe_int)) (pa_cons pe_str pa_nil))))
    (pss_cons (ps_if (pt_cmpR op_gt (pv 2) pe_int (nomark _)) (pss_one (ps_ret (pe_makeC I_Late (hr.mono (by decide)) rfl (pa_cons (pv 2) pa_nil)))) pss_nil)
    (pss_one (ps_ret pe_non)))))), ?_⟩
  walk_at "rd"
  refine rd_ite (fun e => ?_) (fun e => ?_)
  · walk_at "rd"
    refine rd_make0 fun x dx H' N => ?_
    have hodd : (cds z).length % 2 = 1 := by rw [cds_len]; omega
    exact k2 (fun F => by have := F.ev; omega) x _ dx [] H' N (.uneven hodd)
  have hev : (cds z).length % 2 = 0 := by rw [cds_len]; omega
  walk_at "rd"
  refine ⟨z, _, 41, rfl, c_close, hz, fun hp H1 hS1 => ?_, fun r h1 h2 h3 H1 hS1 => ?_⟩
  · walk_at "rd"
    refine iteF ?_
    walk_at "rd"
    refine ⟨revS z, _, 40, rfl, c_open, by rw [revS_len]; exact hz, fun hs H2 hS2 => ?_, fun r h1 h2 h3 H2 hS2 => ?_⟩
    · walk_at "rd"
      refine iteF ?_
      walk_at "rd"
      refine k1 ⟨hev, fun i hi => ?_, fun i hi => ?_⟩ H2 (hS1.trans hS2)
      · have := hp i hi
        unfold exc at this
        omega
      · have := hs (z.length - i) (by rw [revS_len]; omega)
        unfold exc at this
        rw [cds_rev, List.take_reverse, List.count_reverse] at this
        rw [cds_len] at hi this ⊢
        rw [show z.length - (z.length - i) = i by omega] at this
        omega
    · walk_at "rd"
      refine rd_ite (fun _ => ?_) (fun q => absurd (show (0 : Int) < r by omega) q)
      walk_at "rd"
      refine rd_makeD ?_
      walk_at "rd"
      intro x dx hx hdx _
      rw [revS_len] at h2
      have hc : r < 2 * ((cds z).drop ((cds z).length - r)).count 40 := by
        unfold exc at h3
        rw [cds_rev, List.take_reverse, List.count_reverse] at h3
        omega
      exact rd_init1 hx hdx fun H' N => k2 (fun F => by
        have := F.suf ((cds z).length - r) (by omega)
        rw [cds_len] at this hc
        omega) x _ dx _ H' ((hS1.trans hS2).newO N) (.late r h2 hc)
  · walk_at "rd"
    refine rd_ite (fun _ => ?_) (fun q => absurd (show (0 : Int) < r by omega) q)
    walk_at "rd"
    refine rd_makeD ?_
    walk_at "rd"
    intro x dx hx hdx _
    have hc : r < 2 * ((cds z).take r).count 41 := by
      unfold exc at h3
      omega
    exact rd_init1 hx hdx fun H' N => k2 (fun F => by
      have := F.pre r h2
      omega) x _ dx _ H' (hS1.newO N) (.early r h2 hc)
abbrev s_opened_early : Stmt := top 21
theorem sc_opened_early : FnScope ["row", "missing"] ["row"] (defScope s_opened_early) := ⟨rfl, rfl, rfl, by decide +kernel, rfl, by decide +kernel, by decide +kernel⟩
def sp_opened_early : Sp := fun vs H Q _ => ∃ z, vs = [.str z] ∧ z.length ≤ 1000 ∧ (cds z).all okc = true ∧ HM.Fb (cds z) ∧ ∀ y H', Same H H' → cds y = HM.early ((cds z).length / 2 - (cds z).count 40) (cds z) → Q (.str y) H'
theorem ok_opened_early {f : Addr} (D : Def K mg "opened_early" s_opened_early f ["row"]) (B : Bl mg) : Cal P w K mg base CX0 1 "opened_early" f ["row"] sp_opened_early := by
  refine D.ok sc_opened_early (fun vs H Q E h => by obtain ⟨z, rfl, _⟩ := h; rfl) (fun cdv A outer s H vs Q E hr h => ?_)
  obtain ⟨z, rfl, hz, ho, F, k⟩ := h
  refine ⟨_, pss_up (psu_set (i := 1) sc_opened_early.nd rfl (Or.inl rfl) (peu_opL op_sub (peu_opC op_fdiv (pe_callB call_lenS rfl B.len PySem.boot_len (pa_cons (pv 0) pa_nil))) (pe_bmK (K := K) rfl PySem.F.plainAttrs_str PySem.F.slot_str_count PySem.F.type_str_count (mt_count 40) (pv 0) (pa_cons pe_str pa_nil))))
    (pssp_one (psp_ret (pep_rep2 63 41 (pep_rep3 63 40 (PE.p (pv 0)) c_rub c_open (by decide) (pv 1)) c_rub c_close (by decide)))), ?_⟩
  obtain ⟨h1, h2⟩ := F.counts ho
  rw [cds_len] at h1 h2
  walk_at "rd"
  refine ⟨z, _, rfl, rfl, c_open, ?_⟩
  walk_at "rd"
  refine ⟨_, rfl, z, rfl, _, rfl, _, rfl, by omega, by omega, by omega, _, rfl, by rw [replS_len]; omega, ?_⟩
  refine k _ H (Same.refl _) ?_
  rw [cds_repl, cds_repl, HM.early_repl _ _ _ (by rw [replS_len, cds_len]; omega)]
  congr 1
  rw [cds_len]
  omega
abbrev s_filled : Stmt := top 22
theorem sc_filled : FnScope ["row", "bar"] ["row"] (defScope s_filled) := ⟨rfl, rfl, rfl, by decide +kernel, rfl, by decide +kernel, by decide +kernel⟩
def sp_filled (CF CU CE CL : Addr) : Sp := fun vs H Q _ => ∃ z, vs = [.str z] ∧ z.length ≤ 1000 ∧ (cds z).all okc = true ∧ (HM.Fb (cds z) → ∀ x dx y H', NewO H H' x CF dx [("text", .str y)] → HM.Fil (cds z) (cds y) → Q (.ref x) H') ∧
  (¬ HM.Fb (cds z) → ∀ x C dx fs H', NewO H H' x C dx fs → Bars CU CE CL (cds z) C fs → Q (.ref x) H')
theorem ok_filled {f f_check_row f_what_bars f_opened_early : Addr} (D : Def K mg "filled" s_filled f ["row"]) (B : Bl mg) (G_check_row : Cal P w K mg base (CXe P w) 2 "check_row" f_check_row ["row"] (sp_check_row C_BadRow))
    (G_what_bars : Cal P w K mg base CX0 3 "what_bars" f_what_bars ["row"] (sp_what_bars C_Uneven C_Early C_Late)) (G_opened_early : Cal P w K mg base CX0 1 "opened_early" f_opened_early ["row"] sp_opened_early)
    (I_Filled : CalI P w K mg base "Filled" C_Filled 1 ["self", "text"] (spInit1 C_Filled "text")) : Cal P w K mg base (CXe P w) 4 "filled" f ["row"] (sp_filled C_Filled C_Uneven C_Early C_Late) := by
  refine D.okX sc_filled (fun vs H Q E h => by obtain ⟨z, rfl, _⟩ := h; rfl) (fun cdv A outer s H vs Q E hr h => ?_)
  obtain ⟨z, rfl, hz, ho, k1, k2⟩ := h
  refine ⟨_, (pss_cons (ps_expr (pe_callC G_check_row (hr.mono (by decide)) rfl passes_def (pa_cons (pv 0) pa_nil)))
    (pss_cons (ps_set (i := 1) sc_filled.nd rfl (Or.inl rfl) (pe_callC G_what_bars (hr.mono (by decide)) rfl pass0 (pa_cons (pv 0) pa_nil)))
    (pss_cons (ps_if (pt_cmpR op_isQ (pv 1) pe_non (nomark _)) (pss_one (ps_ret (pe_makeC I_Filled (hr.mono (by decide)) rfl (pa_cons (pe_callC G_opened_early (hr.mono (by decide)) rfl pass0 (pa_cons (pv 0) pa_nil)) pa_nil)))) pss_nil)
    (pss_one (ps_ret (pv 1)))))), ?_⟩
  walk_at "rd"
  refine ⟨z, rfl, hz, fun _ H1 hS1 => ?_, fun e => by rw [ho] at e; cases e⟩
  walk_at "rd"
  refine ⟨z, rfl, hz, fun F H2 hS2 => ?_, fun nF x C dx fs H2 N b => ?_⟩
  · walk_at "rd"
    refine rd_ite (fun _ => ?_) (fun q => absurd rfl q)
    walk_at "rd"
    refine rd_makeD ?_
    walk_at "rd"
    refine ⟨z, rfl, hz, ho, F, fun y H3 hS3 hy => ?_⟩
    walk_at "rd"
    intro x dx hx hdx _
    exact rd_init1 hx hdx fun H' N => k1 F x dx y H' (((hS1.trans hS2).trans hS3).newO N) (by rw [hy]; exact F.fil ho)
  · walk_at "rd"
    refine rd_ite (fun q => nomatch q) (fun _ => ?_)
    walk_at "rd"
    exact k2 nF x C dx fs H2 (hS1.newO N) b
end
end HF
set_option Elab.async false
set_option linter.all false
set_option maxRecDepth 100000
set_option maxHeartbeats 4000000
namespace HF
open PySem L2
def earlyB (r : List Nat) (n : Int) : Bool := decide (0 ≤ n) && (decide (n ≤ r.length) && decide (n < 2 * ((r.take n.toNat).count 41 : Int)))
def lateB (r : List Nat) (n : Int) : Bool := decide (0 ≤ n) && (decide (n ≤ r.length) && decide (n < 2 * ((r.drop (r.length - n.toNat)).count 40 : Int)))
section
variable {P : Program} {w : World} {K : PySem.W.Frag} {mg : Str → Option Value} {base : Heap} {C_Filled C_Uneven C_Early C_Late C_Cheapest C_BadRow C_NoFilling : Addr}
abbrev s_Filled_shows : Stmt := inClass (top 13) 1
theorem sc_Filled_shows : FnScope ["self", "row"] ["self", "row"] (defScope s_Filled_shows) := ⟨rfl, rfl, rfl, by decide +kernel, rfl, by decide +kernel, by decide +kernel⟩
def sp_Filled_shows (C : Addr) : Sp := fun vs H Q _ => ∃ x dx r z, vs = [.ref x, .str r] ∧ H x = some (.ins C dx [("text", .str z)]) ∧ r.length ≤ 1000 ∧ z.length ≤ 1000 ∧ ∀ H', Same H H' → Q (.bl (filB (cds r) (cds z))) H'
theorem ok_Filled_shows {f_is_filling : Addr} (D : DefM K C_Filled "shows" "Filled.shows" s_Filled_shows ["self", "row"]) (O : ObjC K mg "Filled" C_Filled) (G_is_filling : Cal P w K mg base CX0 3 "is_filling" f_is_filling ["row", "text"] sp_is_filling) :
    CalM P w K mg base C_Filled 4 "shows" ["self", "row"] (sp_Filled_shows C_Filled) := by
  refine D.ok O.k.cl sc_Filled_shows (fun vs H Q E h => by obtain ⟨x, dx, r, z, rfl, _⟩ := h; rfl) (fun f cdv A outer s H vs Q E hr h => ?_)
  obtain ⟨x, dx, r, z, rfl, hx, hrl, hz, k⟩ := h
  refine ⟨_, (pss_one (ps_ret (pe_callC G_is_filling (hr.mono (by decide)) rfl pass0 (pa_cons (pv 1) (pa_cons (pe_fldK (K := K) rfl (pv 0) rfl) pa_nil))))), ?_⟩
  walk_at "rd"
  refine rd_fldV rfl hx O.k.cl O.text rfl ?_
  walk_at "rd"
  exact ⟨r, z, rfl, hrl, hz, fun H' hS => k H' hS⟩
abbrev s_Uneven_shows : Stmt := inClass (top 14) 0
theorem sc_Uneven_shows : FnScope ["self", "row"] ["self", "row"] (defScope s_Uneven_shows) := ⟨rfl, rfl, rfl, by decide +kernel, rfl, by decide +kernel, by decide +kernel⟩
def sp_Uneven_shows (C : Addr) : Sp := fun vs H Q _ => ∃ x dx r, vs = [.ref x, .str r] ∧ H x = some (.ins C dx []) ∧ r.length ≤ 1000 ∧ ∀ H', Same H H' → Q (.bl (decide ((cds r).length % 2 = 1))) H'
theorem ok_Uneven_shows (D : DefM K C_Uneven "shows" "Uneven.shows" s_Uneven_shows ["self", "row"]) (B : Bl mg) (O : ObjC K mg "Uneven" C_Uneven) :
    CalM P w K mg base C_Uneven 1 "shows" ["self", "row"] (sp_Uneven_shows C_Uneven) := by
  refine D.ok O.k.cl sc_Uneven_shows (fun vs H Q E h => by obtain ⟨x, dx, r, rfl, _⟩ := h; rfl) (fun f cdv A outer s H vs Q E hr h => ?_)
  obtain ⟨x, dx, r, rfl, hx, hrl, k⟩ := h
  refine ⟨_, (pss_one (ps_ret (pe_cmpR op_eq (pe_op op_mod (pe_callB call_lenS rfl B.len PySem.boot_len (pa_cons (pv 1) pa_nil)) pe_int) pe_int (nomark _)))), ?_⟩
  walk_at "rd"
  have := k H (Same.refl _)
  have e : decide ((cds r).length % 2 = 1) = decide ((r.length : Int) % 2 = 1) := by
    rw [cds_len]
    by_cases h : r.length % 2 = 1
    · rw [decide_eq_true h, decide_eq_true (by omega)]
    · rw [decide_eq_false h, decide_eq_false (by omega)]
  rw [e] at this
  exact this
abbrev s_Early_shows : Stmt := inClass (top 15) 1
theorem sc_Early_shows : FnScope ["self", "row"] ["self", "row"] (defScope s_Early_shows) := ⟨rfl, rfl, rfl, by decide +kernel, rfl, by decide +kernel, by decide +kernel⟩
def sp_Early_shows (C : Addr) : Sp := fun vs H Q _ => ∃ x dx r n, vs = [.ref x, .str r] ∧ H x = some (.ins C dx [("many", .int n)]) ∧ r.length ≤ 1000 ∧ ∀ H', Same H H' → Q (.bl (earlyB (cds r) n)) H'
theorem ok_Early_shows (D : DefM K C_Early "shows" "Early.shows" s_Early_shows ["self", "row"]) (B : Bl mg) (O : ObjC K mg "Early" C_Early) :
    CalM P w K mg base C_Early 1 "shows" ["self", "row"] (sp_Early_shows C_Early) := by
  refine D.ok O.k.cl sc_Early_shows (fun vs H Q E h => by obtain ⟨x, dx, r, n, rfl, _⟩ := h; rfl) (fun f cdv A outer s H vs Q E hr h => ?_)
  obtain ⟨x, dx, r, n, rfl, hx, hrl, k⟩ := h
  refine ⟨_, (pss_cons (ps_if (PW.pt (pw_or (pt_cmpR op_lt (pe_fldK (K := K) rfl (pv 0) rfl) pe_int (nomark _)) (pw_or1 (pt_cmpR op_gt (pe_fldK (K := K) rfl (pv 0) rfl) (pe_callB call_lenS rfl B.len PySem.boot_len (pa_cons (pv 1) pa_nil)) (nomark _))))) (pss_one (ps_ret pe_bl)) pss_nil)
    (pss_one (ps_ret (pe_cmpR op_gt (pe_op op_mul pe_int (pe_bmK (K := K) rfl PySem.F.plainAttrs_str PySem.F.slot_str_count PySem.F.type_str_count (mt_count 41) (pe_slice sl_str (pv 1) po_none (po_some (pe_fldK (K := K) rfl (pv 0) rfl))) (pa_cons pe_str pa_nil))) (pe_fldK (K := K) rfl (pv 0) rfl) (nomark _))))), ?_⟩
  have kk : ∀ b, earlyB (cds r) n = b → Q (.bl b) H := fun b e => by rw [← e]; exact k H (Same.refl _)
  unfold earlyB at kk
  walk_at "rd"
  refine rd_fldV rfl hx O.k.cl O.many rfl ?_
  walk_at "rd"
  refine rd_ite (fun e => ?_) (fun e => ?_)
  · refine iteT ?_
    walk_at "rd"
    exact kk false (by rw [decide_eq_false (by omega)]; rfl)
  rw [decide_eq_true (show 0 ≤ n by omega)] at kk
  walk_at "rd"
  refine rd_fldV rfl hx O.k.cl O.many rfl ?_
  walk_at "rd"
  refine rd_ite (fun e2 => ?_) (fun e2 => ?_)
  · walk_at "rd"
    exact kk false (by rw [decide_eq_false (by rw [cds_len]; omega)]; rfl)
  rw [decide_eq_true (show n ≤ (cds r).length by rw [cds_len]; omega)] at kk
  walk_at "rd"
  refine rd_fldV rfl hx O.k.cl O.many rfl ?_
  walk_at "rd"
  refine ⟨_, _, rfl, rfl, c_close, ?_⟩
  rw [slice_to (by omega) (by rw [cds_len]; omega)]
  walk_at "rd"
  refine rd_fldV rfl hx O.k.cl O.many rfl ?_
  walk_at "rd"
  exact kk _ (by simp)
abbrev s_Late_shows : Stmt := inClass (top 16) 1
theorem sc_Late_shows : FnScope ["self", "row"] ["self", "row"] (defScope s_Late_shows) := ⟨rfl, rfl, rfl, by decide +kernel, rfl, by decide +kernel, by decide +kernel⟩
def sp_Late_shows (C : Addr) : Sp := fun vs H Q _ => ∃ x dx r n, vs = [.ref x, .str r] ∧ H x = some (.ins C dx [("many", .int n)]) ∧ r.length ≤ 1000 ∧ ∀ H', Same H H' → Q (.bl (lateB (cds r) n)) H'
theorem ok_Late_shows (D : DefM K C_Late "shows" "Late.shows" s_Late_shows ["self", "row"]) (B : Bl mg) (O : ObjC K mg "Late" C_Late) :
    CalM P w K mg base C_Late 1 "shows" ["self", "row"] (sp_Late_shows C_Late) := by
  refine D.ok O.k.cl sc_Late_shows (fun vs H Q E h => by obtain ⟨x, dx, r, n, rfl, _⟩ := h; rfl) (fun f cdv A outer s H vs Q E hr h => ?_)
  obtain ⟨x, dx, r, n, rfl, hx, hrl, k⟩ := h
  refine ⟨_, (pss_cons (ps_if (PW.pt (pw_or (pt_cmpR op_lt (pe_fldK (K := K) rfl (pv 0) rfl) pe_int (nomark _)) (pw_or1 (pt_cmpR op_gt (pe_fldK (K := K) rfl (pv 0) rfl) (pe_callB call_lenS rfl B.len PySem.boot_len (pa_cons (pv 1) pa_nil)) (nomark _))))) (pss_one (ps_ret pe_bl)) pss_nil)
    (pss_one (ps_ret (pe_cmpR op_gt (pe_op op_mul pe_int (pe_bmK (K := K) rfl PySem.F.plainAttrs_str PySem.F.slot_str_count PySem.F.type_str_count (mt_count 40) (pe_slice sl_str (pv 1) (po_some (pe_op op_sub (pe_callB call_lenS rfl B.len PySem.boot_len (pa_cons (pv 1) pa_nil)) (pe_fldK (K := K) rfl (pv 0) rfl))) po_none) (pa_cons pe_str pa_nil))) (pe_fldK (K := K) rfl (pv 0) rfl) (nomark _))))), ?_⟩
  have kk : ∀ b, lateB (cds r) n = b → Q (.bl b) H := fun b e => by rw [← e]; exact k H (Same.refl _)
  unfold lateB at kk
  walk_at "rd"
  refine rd_fldV rfl hx O.k.cl O.many rfl ?_
  walk_at "rd"
  refine rd_ite (fun e => ?_) (fun e => ?_)
  · refine iteT ?_
    walk_at "rd"
    exact kk false (by rw [decide_eq_false (by omega)]; rfl)
  rw [decide_eq_true (show 0 ≤ n by omega)] at kk
  walk_at "rd"
  refine rd_fldV rfl hx O.k.cl O.many rfl ?_
  walk_at "rd"
  refine rd_ite (fun e2 => ?_) (fun e2 => ?_)
  · walk_at "rd"
    exact kk false (by rw [decide_eq_false (by rw [cds_len]; omega)]; rfl)
  rw [decide_eq_true (show n ≤ (cds r).length by rw [cds_len]; omega)] at kk
  walk_at "rd"
  refine rd_fldV rfl hx O.k.cl O.many rfl ?_
  walk_at "rd"
  refine ⟨_, _, rfl, rfl, c_open, ?_⟩
  rw [slice_from (by omega)]
  walk_at "rd"
  refine rd_fldV rfl hx O.k.cl O.many rfl ?_
  walk_at "rd"
  refine kk _ ?_
  rw [cds_len, show ((r.length : Int) - n).toNat = r.length - n.toNat by omega]
  simp
abbrev s__law_row : Stmt := top 24
theorem sc__law_row : FnScope ["_law_script", "_law_kind", "_law_many", "_law_signs", "_law_depth", "_law_at", "_law_cell", "_law_opens", "_law_sign"] ["_law_script"] (defScope s__law_row) := ⟨rfl, rfl, rfl, by decide +kernel, rfl, by decide +kernel, by decide +kernel⟩
def sp_law_row (K : PySem.W.Frag) : Sp := fun vs H Q _ => ∃ (a : Addr) (ns : List Int), vs = [.ref a] ∧ SqL K H a (ns.map V.int) ∧ ns.length ≤ 63 ∧ ∀ z H', Same H H' → (cds z).all okc = true → z.length ≤ ns.length → Q (.str z) H'
end
end HF
set_option Elab.async false
set_option linter.all false
set_option maxRecDepth 100000
set_option maxHeartbeats 4000000
namespace HF
open PySem L2
section
variable {P : Program} {w : World} {K : PySem.W.Frag} {mg : Str → Option Value} {base : Heap}
theorem okc_snoc {cs : List Nat} {c : Nat} (h : cs.all okc = true) (hc : okc c = true) : (cs ++ [c]).all okc = true := by simp [h, hc]
theorem okc_set {cs : List Nat} {c i : Nat} (h : cs.all okc = true) (hc : okc c = true) : (cs.set i c).all okc = true := List.all_eq_true.mpr fun d hd => by
  rcases List.mem_or_eq_of_mem_set hd with q | q
  · exact List.all_eq_true.mp h d q
  · rw [q]; exact hc
def RowInv (a ls lc : Addr) (kd m : Nat) (H : Hp) (items : List V) (i : Nat) (σ : St) (H' : Hp) : Prop :=
  ∃ (cs : List Nat) (d : Int) (v5 v6 v7 v8 : Option V), σ = [some (.ref a), some (.int kd), some (.int m), some (.ref ls), some (.int d), v5, v6, v7, v8] ∧ Same H H' ∧ H' ls = some (.lst (cs.map sg1)) ∧ H' lc = some (.lst items) ∧ cs.all okc = true ∧ cs.length = i
theorem ok__law_row {f : Addr} (D : Def K mg "_law_row" s__law_row f ["_law_script"]) (B : Bl mg) : Cal P w K mg base CX0 1 "_law_row" f ["_law_script"] (sp_law_row K) := by
  refine D.ok sc__law_row (fun vs H Q E h => by obtain ⟨a, ns, rfl, _⟩ := h; rfl) (fun cdv A outer s H vs Q E hr h => ?_)
  obtain ⟨a, ns, rfl, ha, h63, k⟩ := h
  refine ⟨_, (pss_cons (ps_set (i := 1) sc__law_row.nd rfl (Or.inl rfl) (pe_op op_mod (pe_callB (call_sumK (K := K) rfl rfl) rfl B.sum (by decide +kernel) (pa_cons (pv 0) pa_nil)) pe_int))
    (pss_cons (ps_if (pt_cmpR op_eq (pv 1) pe_int (nomark _)) (pss_one (ps_ret (pe_bmK (K := K) rfl PySem.F.plainAttrs_str PySem.F.slot_str_join PySem.F.type_str_join (mt_joinK (K := K) rfl) pe_str (pa_cons (pe_lcomp (N := ["_law_cell"]) (js := [none]) rfl (pi_listK (K := K) rfl (pv 0)) (fun _ _ _ _ => (pg_name (i := 0) (show (["_law_cell"] : List Str).Nodup by decide +kernel) rfl (Or.inl rfl) (.inr rfl))) (fun _ _ _ _ => (pe_ix ix_str pe_str (pe_op op_mod (pv 0) pe_int) (fun _ _ => rfl)))) pa_nil)))) pss_nil)
    (pss_cons (ps_set (i := 2) sc__law_row.nd rfl (Or.inl rfl) (pe_op op_mul (pe_op op_fdiv (pe_callB (call_lenK (K := K) rfl) rfl B.len PySem.boot_len (pa_cons (pv 0) pa_nil)) pe_int) pe_int))
    (pss_cons (ps_set (i := 3) sc__law_row.nd rfl (Or.inl rfl) (pe_lst pa_nil))
    (pss_cons (ps_set (i := 4) sc__law_row.nd rfl (Or.inl rfl) pe_int)
    (pss_cons (ps_for PassesOwn.never rfl (pi_enumLK (K := K) rfl rfl B.enumerate (pa_cons (pe_slice (sl_listK (K := K) rfl) (pv 0) po_none (po_some (pv 2))) pa_nil)) (pg_tupK (K := K) 2 rfl rfl (pgs_cons (pg_name (i := 5) sc__law_row.nd rfl (Or.inl rfl)) (pgs_cons (pg_name (i := 6) sc__law_row.nd rfl (Or.inl rfl)) pgs_nil)))
      (pss_cons (ps_set (i := 7) sc__law_row.nd rfl (Or.inl rfl) (pe_or (pe_cmpR op_eq (pv 4) pe_int (nomark _)) (pe_one (pe_and (pe_cmpR op_lt (pv 4) (pe_op op_sub (pv 2) (pv 5)) (nomark _)) (pe_one (pe_cmpR op_eq (pe_op op_mod (pv 6) pe_int) pe_int (nomark _)))))))
    (pss_cons (ps_set (i := 4) sc__law_row.nd rfl (Or.inl rfl) (pe_ifExp (pt_val (pv 7)) (pe_op op_add (pv 4) pe_int) (pe_op op_sub (pv 4) pe_int)))
    (pss_cons (ps_set (i := 8) sc__law_row.nd rfl (Or.inl rfl) (pe_ifExp (pt_val (pv 7)) pe_str pe_str))
    (pss_one (ps_expr (pe_bmK (K := K) rfl PySem.F.plainAttrs_list PySem.F.slot_list_append PySem.F.type_list_append mt_append (pv 3) (pa_cons (pe_ifExp (pt_cmpR op_gt (pe_op op_mod (pe_op op_fdiv (pv 6) pe_int) (pe_ix (ix_tupK (K := K) rfl) (pe_tup (pa_cons pe_int (pa_cons pe_int (pa_cons pe_int (pa_cons pe_int (pa_cons pe_int pa_nil)))))) (pv 1) (fun _ _ => rfl))) pe_int (nomark _)) pe_str (pv 8)) pa_nil))))))))
    (pss_cons (ps_if (PW.pt (pw_and (pt_cmpR op_eq (pv 1) pe_int (nomark _)) (pw_and1 (pt_cmpR (op_cmpNeLK (K := K) rfl (hu1 hr)) (pv 3) (pe_lst pa_nil) (nomark _))))) (pss_one (ps_asg (pe_ix ix_str pe_str (pe_op op_mod (pe_ix (ix_listK (K := K) rfl) (pv 0) pe_int (fun _ _ => rfl)) pe_int) (fun _ _ => rfl)) (pg_sub (pv 3) (pe_op op_mod (pe_op op_fdiv (pe_callB (call_sumK (K := K) rfl rfl) rfl B.sum (by decide +kernel) (pa_cons (pv 0) pa_nil)) pe_int) (pv 2)) set_list))) pss_nil)
    (pss_one (ps_ret (pe_bmK (K := K) rfl PySem.F.plainAttrs_str PySem.F.slot_str_join PySem.F.type_str_join (mt_joinK (K := K) rfl) pe_str (pa_cons (pv 3) pa_nil))))))))))), ?_⟩
  walk_at "rd"
  obtain ⟨kd, hkd, hkd5⟩ := mod_nat ns.sum 5 (by decide)
  rw [show ns.sum % 5 = (kd : Int) from hkd]
  refine rd_ite (fun e => ?_) (fun e => ?_)
  · walk_at "rd"
    refine lc_fun (itOf_list ha) (le_line (by simp; omega)) (fun σ' => ∃ v, σ' = [v]) (fun i => sg1 ([40, 41, 63].getD ((ns.getD i 0) % 3).toNat 63)) ⟨_, rfl⟩ (fun i x σ' H' hi hx hs hS R hR => ?_) fun l H' hS hl hL => ?_
    · obtain ⟨v, rfl⟩ := hs
      rw [List.getElem?_map] at hx
      cases hn : ns[i]? with
      | none => rw [hn] at hx; cases hx
      | some n =>
        rw [hn] at hx
        cases hx
        have hR' := hR [some (.int n)] H' ⟨_, rfl⟩ (Same.refl _)
        rw [List.getD_eq_getElem?_getD (l := ns), hn, Option.getD_some] at hR'
        walk_at "rd"
        obtain ⟨j, hj, hj3⟩ := mod_nat n 3 (by decide)
        have e3 : cds (Str.ofString "()?") = [40, 41, 63] := by decide +kernel
        have hj' : n % 3 = (j : Int) := hj
        rw [hj'] at hR' ⊢
        refine rd_ixS (c := [40, 41, 63].getD j 63) (by decide +kernel) ?_ ?_
        · rw [e3, List.getD_eq_getElem?_getD, List.getElem?_eq_getElem (show j < [40, 41, 63].length from hj3)]
          rfl
        · exact hR'
    · walk_at "rd"
      have hL' : H' l = some (.lst (((List.range ns.length).map fun i => [40, 41, 63].getD ((ns.getD i 0) % 3).toNat 63).map sg1)) := by
        rw [hL, List.map_map, List.length_map]
        rfl
      refine rd_join (SqL.of hL') (by simp; omega) ?_
      walk_at "rd"
      refine k _ H' hS ?_ (by rw [txt_len]; simp)
      rw [cds_txt]
      refine List.all_eq_true.mpr fun c hc => ?_
      obtain ⟨i, _, rfl⟩ := List.mem_map.mp hc
      obtain ⟨j, hj, hj3⟩ := mod_nat (ns.getD i 0) 3 (by decide)
      rw [show (ns.getD i 0) % 3 = (j : Int) from hj]
      rcases j with _ | _ | _ | j
      · rfl
      · rfl
      · rfl
      · omega
  · walk_at "rd"
    intro ls hls
    walk_at "rd"
    have s1 : Same H (upd H ls (.lst [])) := same_new hls
    refine rd_slL (s1.seq ha) fun lc hlc => ?_
    obtain ⟨m, hm, hml⟩ : ∃ m : Nat, (((ns.map V.int).length : Nat) : Int) / 2 * 2 = ((m : Nat) : Int) ∧ m ≤ (ns.map V.int).length := ⟨(ns.map V.int).length / 2 * 2, by omega, by omega⟩
    have hlcs : lc ≠ ls := fun q => by rw [q, upd_same] at hlc; cases hlc
    have hHc : H lc = none := s1.free hlc
    have hm63 : m ≤ 63 := by rw [List.length_map] at hml; omega
    rw [hm, cut_to hml]
    walk_at "rd"
    refine for_enumL (xs := (ns.map V.int).take m) (RowInv a ls lc kd m H ((ns.map V.int).take m))
      ⟨[], 0, none, none, none, none, rfl, s1.trans (same_new hlc), by rw [upd_ne (Ne.symm hlcs), upd_same]; rfl, upd_same, rfl, rfl⟩ (fun i σ H' _ h => by obtain ⟨_, _, _, _, _, _, _, _, _, h, _⟩ := h; exact SqL.of h) (fun i x σ H' p hx h hp => ?_) (fun σ H' h => ?_)
    · obtain ⟨cs, d, v5, v6, v7, v8, rfl, hS, hL, hC, hok, rfl⟩ := h
      have him : cs.length < m := by
        have := (List.getElem?_eq_some_iff.mp hx).1
        rw [List.length_take] at this
        omega
      obtain ⟨n, rfl⟩ : ∃ n, x = V.int n := by
        rw [List.getElem?_take_of_lt him, List.getElem?_map] at hx
        cases e : ns[cs.length]? with
        | none => rw [e] at hx; cases hx
        | some n => rw [e] at hx; exact ⟨n, (Option.some.inj hx).symm⟩
      have nps : ls ≠ p := ne_of_none hL hp
      have npc : lc ≠ p := ne_of_none hC hp
      have hHp := hS.free hp
      have hS1 : Same H (upd H' p (.tup [.int (cs.length : Int), .int n])) := same_upd hS hHp
      have hL1 : (upd H' p (.tup [.int (cs.length : Int), .int n])) ls = some (.lst (cs.map sg1)) := by rw [upd_ne nps]; exact hL
      have hC1 : (upd H' p (.tup [.int (cs.length : Int), .int n])) lc = some (.lst ((ns.map V.int).take m)) := by rw [upd_ne npc]; exact hC
      generalize hH1 : upd H' p (.tup [.int (cs.length : Int), .int n]) = H1 at hS1 hL1 hC1
      have hT1 : H1 p = some (.tup [.int (cs.length : Int), .int n]) := by rw [← hH1, upd_same]
      -- the end of a turn
      have fin : ∀ (c : Nat) (d' : Int) (v5 v6 v7 v8 : Option V) (H2 : Hp), okc c = true → Same H1 H2 → RowInv a ls lc kd m H ((ns.map V.int).take m) (cs.length + 1) [some (V.ref a), some (.int kd), some (.int m), some (.ref ls), some (.int d'), v5, v6, v7, v8] (upd H2 ls (.lst (cs.map sg1 ++ [sg1 c]))) := fun c d' v5 v6 v7 v8 H2 hc hS2 => by
        refine ⟨cs ++ [c], d', v5, v6, v7, v8, rfl, same_upd (hS1.trans hS2) hls, ?_, ?_, okc_snoc hok hc, by simp⟩
        · rw [upd_same, List.map_append]; rfl
        · rw [upd_ne hlcs]; exact hS2 _ _ hC1
      -- the appended sign
      have app : ∀ (b : Bool) (d' : Int) (cc : Nat), okc cc = true → ∀ r bk ct,
          tDrop (tBM K "list" rAppend (tVar 3) (tCons (tIf (tTest (tOp (rI0 fun i j => .bl (decide (j < i))) (tOp (rI (fun _ j => 0 < j) fun i j => .int (i % j)) (tOp (rI CDiv fun i j => .int (i / j)) (tVar 6) (tC (.int 2))) (tOp (rIxT K) (tTup (tCons (tC (.int 3)) (tCons (tC (.int 2)) (tCons (tC (.int 2)) (tCons (tC (.int 9)) (tCons (tC (.int 4)) tNil)))))) (tVar 1))) (tC (.int 0)))) (tC (.str (Str.ofString "?"))) (tVar 8)) tNil)) (Ends.mk (RowInv a ls lc kd m H ((ns.map V.int).take m) (cs.length + 1)) r bk ct)
            [some (.ref a), some (.int kd), some (.int m), some (.ref ls), some (.int d'), some (.int (cs.length : Int)), some (.int n), some (.bl b), some (.str ⟨#[cc]⟩)] H1 := fun b d' cc hcc r bk ct => by
        walk_at "rd"
        intro pt hpt
        have hS2 : Same H1 (upd H1 pt (.tup [.int 3, .int 2, .int 2, .int 9, .int 4])) := same_new hpt
        have hk : ∃ q : Nat, [V.int 3, .int 2, .int 2, .int 9, .int 4][kd]? = some (.int q) ∧ 0 < q := by
          rcases kd with _ | _ | _ | _ | _ | kd
          · exact ⟨3, rfl, by decide⟩
          · exact ⟨2, rfl, by decide⟩
          · exact ⟨2, rfl, by decide⟩
          · exact ⟨9, rfl, by decide⟩
          · exact ⟨4, rfl, by decide⟩
          · omega
        obtain ⟨q, hq, hq0⟩ := hk
        refine ⟨_, rfl, ?_⟩
        refine rd_ixT (SqT.of upd_same) hq ?_
        refine rd_I (show (0 : Int) < q by omega) ?_
        walk_at "rd"
        have hL2 := hS2 _ _ hL1
        refine rd_ite (fun _ => ?_) (fun _ => ?_)
        · walk_at "rd"
          rw [c_rub]
          exact fin 63 d' _ _ _ _ _ rfl hS2
        · walk_at "rd"
          exact fin cc d' _ _ _ _ _ hcc hS2
      have e40 : okc 40 = true := rfl
      have e41 : okc 41 = true := rfl
      have hz : (cs.map sg1).length ≤ 1000 := by rw [List.length_map]; omega
      walk_at "rd"
      refine rd_ite (fun e1 => ?_) (fun e1 => ?_)
      · walk_at "rd"
        refine iteT ?_
        walk_at "rd"
        refine iteT (rd_C (rd_name (rd_nx ?_)))
        rw [c_open]
        exact app true (d + 1) 40 rfl _ _ _
      · walk_at "rd"
        refine rd_ite (fun e2 => ?_) (fun e2 => ?_)
        · walk_at "rd"
          refine rd_ite (fun e3 => ?_) (fun e3 => ?_)
          · walk_at "rd"
            refine rd_ite (fun _ => ?_) (fun z => absurd e3 z)
            refine rd_C (rd_name (rd_nx ?_))
            rw [c_open]
            exact app _ (d + 1) 40 rfl _ _ _
          · walk_at "rd"
            refine rd_ite (fun z => absurd z e3) (fun _ => ?_)
            refine rd_C (rd_name (rd_nx ?_))
            rw [c_close]
            exact app _ (d - 1) 41 rfl _ _ _
        · walk_at "rd"
          refine iteF ?_
          walk_at "rd"
          refine iteF (rd_C (rd_name (rd_nx ?_)))
          rw [c_close]
          exact app false (d - 1) 41 rfl _ _ _
    · obtain ⟨cs, d, v5, v6, v7, v8, rfl, hS, hL, hC, hok, hlen⟩ := h
      have hlm : cs.length = m := by rw [hlen, List.length_take]; omega
      have ha' := hS.seq ha
      have done : ∀ (cs' : List Nat) (H2 : Hp), Same H H2 → H2 ls = some (.lst (cs'.map sg1)) → cs'.all okc = true → cs'.length = m → rJoin K (.str (Str.ofString "")) [.ref ls] H2 Q := fun cs' H2 hS2 hL2 hok2 hl2 =>
        rd_join (SqL.of hL2) (by omega) (k _ H2 hS2 (by rw [cds_txt]; exact hok2) (by rw [txt_len]; rw [List.length_map] at hml; omega))
      walk_at "rd"
      refine rd_ite (fun e1 => ?_) (fun e1 => ?_)
      · walk_at "rd"
        intro le hle
        have hLe : (upd H' le (.lst [])) ls = some (.lst (cs.map sg1)) := by rw [upd_ne (ne_of_none hL hle)]; exact hL
        have hSe : Same H (upd H' le (.lst [])) := hS.trans (same_new hle)
        refine rd_cmpNe (SqL.of hLe) (SqL.of upd_same) (fun i u v h1 h2 => by simp at h2) ?_
        rw [eqs_nil]
        walk_at "rd"
        refine rd_iteNB (fun e2 => ?_) (fun e2 => ?_)
        · have hne : cs ≠ [] := fun q => by rw [q] at e2; simp at e2
          have hpos : 0 < cs.length := List.length_pos_iff.mpr hne
          have hna : SqL K (upd H' le (.lst [])) a (ns.map V.int) := hSe.seq ha
          obtain ⟨n0, hn0⟩ : ∃ n0, ns[0]? = some n0 := by
            rw [List.length_map] at hml
            exact ⟨ns[0], List.getElem?_eq_getElem (by omega)⟩
          have hi0 : (ns.map V.int)[0]? = some (.int n0) := by rw [List.getElem?_map, hn0]; rfl
          walk_at "rd"
          refine ⟨a, _, 0, _, rfl, rfl, hna, atI_nat (j := 0) hi0, ?_⟩
          walk_at "rd"
          obtain ⟨j, hj, hj2⟩ := mod_nat n0 2 (by decide)
          rw [show n0 % 2 = (j : Int) from hj]
          have e2' : cds (Str.ofString "()") = [40, 41] := by decide +kernel
          obtain ⟨c, hc, hcok⟩ : ∃ c, (cds (Str.ofString "()"))[j]? = some c ∧ okc c = true := by
            rw [e2']
            rcases j with _ | _ | j
            · exact ⟨40, rfl, rfl⟩
            · exact ⟨41, rfl, rfl⟩
            · omega
          refine rd_ixS (by decide +kernel) hc ?_
          walk_at "rd"
          refine rd_I (show (0 : Int) < m by omega) ?_
          obtain ⟨i, hi, him⟩ := mod_nat (ns.sum / 5) m (by omega)
          rw [hi]
          refine rd_setL hLe (by rw [List.length_map]; omega) ?_
          walk_at "rd"
          refine done (cs.set i c) _ (same_upd hSe hls) ?_ (okc_set hok hcok) (by rw [List.length_set]; exact hlm)
          rw [upd_same, List.map_set]
          rfl
        · walk_at "rd"
          exact done cs _ hSe hLe hok hlm
      · walk_at "rd"
        refine iteF ?_
        walk_at "rd"
        exact done cs H' hS hL hok hlm
abbrev s__law_closed : Stmt := top 25
theorem sc__law_closed : FnScope ["_law_text", "_law_depth", "_law_sign"] ["_law_text"] (defScope s__law_closed) := ⟨rfl, rfl, rfl, by decide +kernel, rfl, by decide +kernel, by decide +kernel⟩
theorem dict_step (c : Nat) (d : Int) : (valV (mergeK [] ([(Sum.inr (Str.ofString "("), V.int 1), (Sum.inr (Str.ofString ")"), V.int (-1))] : List (Key × V))) (Sum.inr ⟨#[c]⟩ : Key)).getD (.int d) = .int (if c = 40 then 1 else if c = 41 then -1 else d) := by
  rw [c_open, c_close]
  have e : mergeK [] [((Sum.inr ⟨#[40]⟩ : Key), V.int 1), (Sum.inr ⟨#[41]⟩, V.int (-1))] = [(Sum.inr ⟨#[40]⟩, V.int 1), (Sum.inr ⟨#[41]⟩, V.int (-1))] := rfl
  rw [e]
  by_cases h : c = 40
  · subst h; rfl
  · rw [if_neg h, valV_neg (fun q => h (by have := Sum.inr.inj q; have := congrArg cds this; simpa [cds] using this.symm))]
    by_cases h2 : c = 41
    · subst h2; rfl
    · rw [if_neg h2, valV_neg (fun q => h2 (by have := Sum.inr.inj q; have := congrArg cds this; simpa [cds] using this.symm))]
      rfl
def sp_law_closed : Sp := fun vs H Q _ => ∃ z, vs = [.str z] ∧ z.length ≤ 1000 ∧ ∀ H', Same H H' → Q (.bl ((cds z).all okc && cloB (cds z))) H'
theorem clo_no {cs : List Nat} (h : ¬ H5.Clo cs) : (cs.all okc && cloB cs) = false := by
  rw [Bool.eq_false_iff]
  intro q
  rw [Bool.and_eq_true] at q
  exact h (clo_of q.1 q.2)
theorem ok__law_closed {f : Addr} (D : Def K mg "_law_closed" s__law_closed f ["_law_text"]) (B : Bl mg) : Cal P w K mg base CX0 1 "_law_closed" f ["_law_text"] sp_law_closed := by
  refine D.ok sc__law_closed (fun vs H Q E h => by obtain ⟨z, rfl, _⟩ := h; rfl) (fun cdv A outer s H vs Q E hr h => ?_)
  obtain ⟨z, rfl, hz, k⟩ := h
  refine ⟨_, (pss_cons (ps_set (i := 1) sc__law_closed.nd rfl (Or.inl rfl) pe_int)
    (pss_cons (ps_for PassesOwn.never rfl (pi_str (pv 0)) (pg_name (i := 2) sc__law_closed.nd rfl (Or.inl rfl))
      (pss_cons (ps_set (i := 1) sc__law_closed.nd rfl (Or.inl rfl) (pe_op op_add (pv 1) (pe_dget2 (hu_of hr) (pe_disp (pps_cons pe_str pe_int (pps_cons pe_str (pe_un un_neg pe_int) pps_nil)) rfl rfl (fun h => nomatch h) (Nat.le_of_ble_eq_true rfl)) (pv 2) (pe_op op_sub (pe_un un_neg (pe_callB call_lenS rfl B.len PySem.boot_len (pa_cons (pv 0) pa_nil))) pe_int) ⟨rfl, rfl, rfl, rfl⟩)))
    (pss_one (ps_if (pt_cmpR op_lt (pv 1) pe_int (nomark _)) (pss_one (ps_ret pe_bl)) pss_nil))))
    (pss_one (ps_ret (pe_cmpR op_eq (pv 1) pe_int (nomark _)))))), ?_⟩
  walk_at "rd"
  refine for_str (fun i σ H' => ∃ v, σ = [some (.str z), some (.int (H5.dep (cds z) i)), v] ∧ Same H H' ∧ H5.Sg ((cds z).take i) ∧ ∀ j, j ≤ i → 0 ≤ H5.dep (cds z) j) ⟨none, rfl, Same.refl _, fun c hc => by simp at hc, fun j hj => by rw [show j = 0 by omega, H5.dep_zero]; exact Int.le_refl _⟩ (fun i c σ H' hc h => ?_) (fun σ H' h => ?_)
  · obtain ⟨v, rfl, hS, hsg, hnn⟩ := h
    have hc' := cds_at hc
    have hi := cds_lt hc'
    have hds := H5.dep_succ hc'
    have hle := H5.dep_le (cds z) i
    have no : ∀ H2, Same H H2 → (¬ H5.Clo (cds z)) → Q (.bl false) H2 := fun H2 hS2 nC => by have := k H2 hS2; rw [clo_no nC] at this; exact this
    walk_at "rd"
    intro pd hpd
    refine ⟨_, rfl, upd_same, [(Sum.inr (Str.ofString "("), V.int 1), (Sum.inr (Str.ofString ")"), V.int (-1))], rfl, by decide, pd, rfl, .inl ⟨_, .inl upd_same⟩, ?_⟩
    have hS3 : Same H (upd (upd H' pd (.dK [])) pd (.dK (mergeK [] [(Sum.inr (Str.ofString "("), V.int 1), (Sum.inr (Str.ofString ")"), V.int (-1))]))) := same_upd (same_upd hS (hS.free hpd)) (hS.free hpd)
    walk_at "rd"
    refine ⟨_, DGet.k (k := Sum.inr ⟨#[c]⟩) upd_same, ?_⟩
    rw [dict_step]
    walk_at "rd"
    refine rd_ite (fun e => ?_) (fun e => ?_)
    · walk_at "rd"
      refine no _ hS3 fun C => ?_
      rcases C.sg c (List.mem_of_getElem? hc') with q | q
      · have := C.nn (i + 1) (by rw [cds_len]; omega)
        rw [hds, q] at this
        rw [if_pos q] at e
        simp [H5.stp] at this
        omega
      · have := C.nn (i + 1) (by rw [cds_len]; omega)
        rw [hds, q] at this
        rw [q] at e
        simp [H5.stp] at this e
        omega
    · walk_at "rd"
      have hsig : c = 40 ∨ c = 41 := by
        by_cases h1 : c = 40
        · exact .inl h1
        · by_cases h2 : c = 41
          · exact .inr h2
          · rw [if_neg h1, if_neg h2] at e
            exfalso
            apply e
            omega
      have hst : (if c = 40 then (1 : Int) else if c = 41 then -1 else -(z.length : Int) - 1) = H5.stp c := by
        rcases hsig with q | q <;> subst q <;> rfl
      rw [hst] at e
      refine ⟨_, by rw [hst, hds]; rfl, hS3, fun d hd => ?_, fun j hj => ?_⟩
      · rw [List.take_add_one, hc'] at hd
        rcases List.mem_append.mp hd with q | q
        · exact hsg d q
        · have : d = c := by simpa using q
          rw [this]; exact hsig
      · by_cases q : j = i + 1
        · rw [q, hds]; omega
        · exact hnn j (by omega)
  · obtain ⟨v, rfl, hS, hsg, hnn⟩ := h
    walk_at "rd"
    have hsg' : H5.Sg (cds z) := by
      have : (cds z).take z.cps.size = cds z := List.take_of_length_le (Nat.le_of_eq rfl)
      rw [this] at hsg
      exact hsg
    have := k H' hS
    have e : ((cds z).all okc && cloB (cds z)) = decide (H5.dep (cds z) z.cps.size = 0) := by
      by_cases h0 : H5.dep (cds z) z.cps.size = 0
      · have C : H5.Clo (cds z) := ⟨hsg', hnn, h0⟩
        rw [okc_of C, cloB_of C, decide_eq_true h0]
        rfl
      · rw [decide_eq_false h0]
        exact clo_no fun C => h0 C.fin
    rw [e] at this
    exact this
abbrev s__law_filling : Stmt := top 26
theorem sc__law_filling : FnScope ["_law_row_here", "_law_text"] ["_law_row_here", "_law_text"] (defScope s__law_filling) := ⟨rfl, rfl, rfl, by decide +kernel, rfl, by decide +kernel, by decide +kernel⟩
def sp_law_filling : Sp := fun vs H Q _ => ∃ r z, vs = [.str r, .str z] ∧ r.length ≤ 1000 ∧ z.length ≤ 1000 ∧ ∀ H', Same H H' → Q (.bl (filB (cds r) (cds z))) H'
theorem ok__law_filling {f f__law_closed : Addr} (D : Def K mg "_law_filling" s__law_filling f ["_law_row_here", "_law_text"]) (B : Bl mg) (G__law_closed : Cal P w K mg base CX0 1 "_law_closed" f__law_closed ["_law_text"] sp_law_closed) :
    Cal P w K mg base CX0 2 "_law_filling" f ["_law_row_here", "_law_text"] sp_law_filling := by
  refine D.ok sc__law_filling (fun vs H Q E h => by obtain ⟨r, z, rfl, _⟩ := h; rfl) (fun cdv A outer s H vs Q E hr h => ?_)
  obtain ⟨r, z, rfl, hrl, hz, k⟩ := h
  refine ⟨_, (pss_cons (ps_if (PW.pt (pw_or (pt_not (pt_val (pe_callB (call_isiK (K := K) rfl) rfl B.isinstance (by decide +kernel) (pa_cons (pv 1) (pa_cons (pe_bltn (v := .ty "str") rfl B.str (by decide +kernel) rfl) pa_nil))))) (pw_or (pt_cmpR op_ne (pe_callB call_lenS rfl B.len PySem.boot_len (pa_cons (pv 1) pa_nil)) (pe_callB call_lenS rfl B.len PySem.boot_len (pa_cons (pv 0) pa_nil)) (nomark _)) (pw_or1 (pt_not (pt_val (pe_callC G__law_closed (hr.mono (by decide)) rfl pass0 (pa_cons (pv 1) pa_nil)))))))) (pss_one (ps_ret pe_bl)) pss_nil)
    (pss_one (ps_ret (pe_callB (call_allK (K := K) rfl rfl) rfl B.all (by decide +kernel) (pa_cons (pe_lcomp (N := ["_law_at", "_law_row_here", "_law_text"]) (js := [none, some 0, some 1]) rfl (pi_range1 rfl B.range (pa_cons (pe_callB call_lenS rfl B.len PySem.boot_len (pa_cons (pv 0) pa_nil)) pa_nil)) (fun _ _ _ _ => (pg_name (i := 0) (show (["_law_at", "_law_row_here", "_law_text"] : List Str).Nodup by decide +kernel) rfl (Or.inl rfl) (.inr rfl))) (fun _ _ _ _ => (pe_cmpR (op_in_seqK (K := K) rfl) (pe_ix ix_str (pv 1) (pv 0) (fun _ _ => rfl)) (pe_lst (pa_cons pe_str (pa_cons (pe_ix ix_str (pv 2) (pv 0) (fun _ _ => rfl)) pa_nil))) (by with_unfolding_all rfl)))) pa_nil))))), ?_⟩
  have kk : ∀ b, filB (cds r) (cds z) = b → ∀ H', Same H H' → Q (.bl b) H' := fun b e H' hS => by rw [← e]; exact k H' hS
  unfold filB at kk
  walk_at "rd"
  refine rd_isi (b := true) rfl (.str z) (by kernel_rfl) ?_
  walk_at "rd"
  refine iteF ?_
  walk_at "rd"
  refine rd_iteN (fun e2 => ?_) (fun e2 => ?_)
  · walk_at "rd"
    exact kk false (by rw [decide_eq_false (show ¬ (cds z).length = (cds r).length by rw [cds_len, cds_len]; omega), Bool.false_and, Bool.and_false]) H (Same.refl _)
  have hlen : z.length = r.length := by omega
  rw [decide_eq_true (show (cds z).length = (cds r).length from hlen), Bool.true_and, ← Bool.and_assoc] at kk
  walk_at "rd"
  refine ⟨z, rfl, hz, fun H2 hS2 => ?_⟩
  walk_at "rd"
  refine rd_iteNB (fun e3 => ?_) (fun e3 => ?_)
  · walk_at "rd"
    exact kk false (by rw [e3]; rfl) H2 hS2
  rw [e3, Bool.true_and] at kk
  walk_at "rd"
  refine ⟨_, rfl, by omega, by omega, ?_⟩
  refine lc_fun (itOf_range 0 _ H2) (le_line (by omega)) (fun σ' => ∃ v, σ' = [v, some (.str r), some (.str z)]) (fun i => .bl ((cds r).getD i 0 == 63 || (cds r).getD i 0 == (cds z).getD i 0)) ⟨_, rfl⟩ (fun i x σ' H' hi hx hs hS R hR => ?_) fun l H' hS hl hL => ?_
  · obtain ⟨v, rfl⟩ := hs
    subst hx
    have hi' : i < r.length := by omega
    obtain ⟨c, hc⟩ : ∃ c, (cds r)[i]? = some c := ⟨_, List.getElem?_eq_getElem (show i < (cds r).length by rw [cds_len]; omega)⟩
    obtain ⟨d, hd⟩ : ∃ d, (cds z)[i]? = some d := ⟨_, List.getElem?_eq_getElem (show i < (cds z).length by rw [cds_len]; omega)⟩
    rw [List.getD_eq_getElem?_getD, List.getD_eq_getElem?_getD, hc, hd] at hR
    rw [show (0 : Int) + (i : Int) = (i : Int) by omega]
    walk_at "rd"
    intro pl hpl
    refine ⟨pl, _, rfl, .inl (SqL.of upd_same), rfl, rfl, ?_⟩
    have := hR [some (.int i), some (.str r), some (.str z)] (upd H' pl (.lst [.str (Str.ofString "?"), .str ⟨#[d]⟩])) ⟨_, rfl⟩ (same_new hpl)
    have e : inV (.str ⟨#[c]⟩) [.str (Str.ofString "?"), .str ⟨#[d]⟩] = (c == 63 || c == d) := by
      rw [c_rub]
      have b1 : ∀ a b : Nat, ((⟨#[a]⟩ : Str) == ⟨#[b]⟩) = (b == a) := fun a b => by
        by_cases q : a = b
        · subst q; simp
        · rw [beq_eq_false_iff_ne.mpr (Ne.symm q), beq_eq_false_iff_ne.mpr]
          intro z
          have := congrArg cds z
          simp [cds] at this
          exact q this
      show (((⟨#[63]⟩ : Str) == ⟨#[c]⟩) || (((⟨#[d]⟩ : Str) == ⟨#[c]⟩) || false)) = _
      rw [b1, b1, Bool.or_false]
    simp only [Bool.false_eq_true, if_false]
    rw [e]
    exact this
  · have hL' : H' l = some (.lst (((List.range r.length).map fun i => (cds r).getD i 0 == 63 || (cds r).getD i 0 == (cds z).getD i 0).map V.bl)) := by
      rw [hL, List.map_map]
      rfl
    refine rd_all (SqL.of hL') ?_
    walk_at "rd"
    refine kk _ ?_ H' (hS2.trans hS)
    rw [List.all_map]
    unfold marks
    have e : (cds r).zip (cds z) = (List.range r.length).map fun i => ((cds r).getD i 0, (cds z).getD i 0) := by
      refine List.ext_getElem (by rw [List.length_zip, List.length_map, List.length_range, cds_len, cds_len]; omega) fun i h1 h2 => ?_
      simp only [List.length_zip, cds_len] at h1
      have h3 : i < (cds r).length := by rw [cds_len]; omega
      have h4 : i < (cds z).length := by rw [cds_len]; omega
      simp only [List.getElem_zip, List.getElem_map, List.getElem_range, List.getD_eq_getElem?_getD, List.getElem?_eq_getElem h3, List.getElem?_eq_getElem h4, Option.getD_some]
    rw [e, List.all_map]
    rfl
end
end HF
set_option Elab.async false
set_option linter.all false
set_option maxRecDepth 100000
set_option maxHeartbeats 4000000
namespace HF
open PySem L2
theorem slice_mem {z : Str} {l u : Option Int} {c : Nat} (h : c ∈ cds (Txt.slice z l u)) : c ∈ cds z := by
  unfold Txt.slice at h
  split at h
  · exact h
  · obtain ⟨i, _, e⟩ := List.mem_filterMap.mp h
    have := Array.mem_of_getElem? e
    exact Array.mem_def.mp this
theorem slice_okc {z : Str} {l u : Option Int} (h : (cds z).all okc = true) : (cds (Txt.slice z l u)).all okc = true := List.all_eq_true.mpr fun c hc => List.all_eq_true.mp h c (slice_mem hc)
theorem len_app (x y : Str) : (x ++ y).length = x.length + y.length := by rw [← cds_len, cds_app, List.length_append, cds_len, cds_len]
theorem repS_okc {z : Str} {n : Nat} (h : (cds z).all okc = true) : (cds (repS z n)).all okc = true := List.all_eq_true.mpr fun c hc => by
  obtain ⟨l, hl, hc⟩ := List.mem_flatten.mp (show c ∈ (List.replicate n (cds z)).flatten from hc)
  rw [List.eq_of_mem_replicate hl] at hc
  exact List.all_eq_true.mp h c hc
theorem app_okc {x y : Str} (h : (cds x).all okc = true) (h' : (cds y).all okc = true) : (cds (x ++ y)).all okc = true := by rw [cds_app, List.all_append, h, h']; rfl
section
variable {P : Program} {w : World} {K : PySem.W.Frag} {mg : Str → Option Value} {base : Heap} {CF CU CE CL CA CC : Addr}
/-- the four answers, and what each says of a row -/
inductive AnsV (CF CU CE CL : Addr) : Addr → List (Str × V) → (List Nat → Bool) → Prop where
  | filled (z : Str) (hz : z.length ≤ 1000) : AnsV CF CU CE CL CF [("text", .str z)] (fun r => filB r (cds z))
  | uneven : AnsV CF CU CE CL CU [] (fun r => decide (r.length % 2 = 1))
  | early (n : Int) : AnsV CF CU CE CL CE [("many", .int n)] (fun r => earlyB r n)
  | late (n : Int) : AnsV CF CU CE CL CL [("many", .int n)] (fun r => lateB r n)
theorem Bars.ans {r : List Nat} {C : Addr} {fs : List (Str × V)} (h : Bars CU CE CL r C fs) : ∃ b, AnsV CF CU CE CL C fs b ∧ b r = true := by
  cases h with
  | uneven h => exact ⟨_, .uneven, decide_eq_true h⟩
  | early n h hc => exact ⟨_, .early n, by unfold earlyB; rw [decide_eq_true (show (0 : Int) ≤ n by omega), decide_eq_true (show (n : Int) ≤ r.length by omega), decide_eq_true (by rw [Int.toNat_natCast]; omega)]; rfl⟩
  | late n h hc => exact ⟨_, .late n, by unfold lateB; rw [decide_eq_true (show (0 : Int) ≤ n by omega), decide_eq_true (show (n : Int) ≤ r.length by omega), decide_eq_true (by rw [Int.toNat_natCast]; omega)]; rfl⟩
theorem filled_any {z : Str} {H : Hp} {Q : VK} {E : XK} (hz : z.length ≤ 1000) (ho : (cds z).all okc = true) (h : ∀ x C dx fs b H', NewO H H' x C dx fs → AnsV CF CU CE CL C fs b → b (cds z) = true → Q (.ref x) H') : sp_filled CF CU CE CL [.str z] H Q E :=
  ⟨z, rfl, hz, ho, fun _ x dx y H' N F => h x _ dx _ _ H' N (.filled y (by rw [← cds_len, F.len, cds_len]; exact hz)) (HM.fil_iff.mpr F), fun _ x C dx fs H' N b => by obtain ⟨g, a, e⟩ := b.ans (CF := CF); exact h x C dx fs g H' N a e⟩
/-- which class is of which -/
structure KitA (K : PySem.W.Frag) (CF CU CE CL CA CC : Addr) : Prop where
  ff : PySem.W.kitOne K (.ref CF) (.ref CF) = some true
  fu : PySem.W.kitOne K (.ref CF) (.ref CU) = some false
  fe : PySem.W.kitOne K (.ref CF) (.ref CE) = some false
  fl : PySem.W.kitOne K (.ref CF) (.ref CL) = some false
  fa : PySem.W.kitOne K (.ref CF) (.ref CA) = some true
  fc : PySem.W.kitOne K (.ref CF) (.ref CC) = some false
  uf : PySem.W.kitOne K (.ref CU) (.ref CF) = some false
  uu : PySem.W.kitOne K (.ref CU) (.ref CU) = some true
  ue : PySem.W.kitOne K (.ref CU) (.ref CE) = some false
  ul : PySem.W.kitOne K (.ref CU) (.ref CL) = some false
  ua : PySem.W.kitOne K (.ref CU) (.ref CA) = some true
  uc : PySem.W.kitOne K (.ref CU) (.ref CC) = some false
  ef : PySem.W.kitOne K (.ref CE) (.ref CF) = some false
  eu : PySem.W.kitOne K (.ref CE) (.ref CU) = some false
  ee : PySem.W.kitOne K (.ref CE) (.ref CE) = some true
  el : PySem.W.kitOne K (.ref CE) (.ref CL) = some false
  ea : PySem.W.kitOne K (.ref CE) (.ref CA) = some true
  ec : PySem.W.kitOne K (.ref CE) (.ref CC) = some false
  lf : PySem.W.kitOne K (.ref CL) (.ref CF) = some false
  lu : PySem.W.kitOne K (.ref CL) (.ref CU) = some false
  le : PySem.W.kitOne K (.ref CL) (.ref CE) = some false
  ll : PySem.W.kitOne K (.ref CL) (.ref CL) = some true
  la : PySem.W.kitOne K (.ref CL) (.ref CA) = some true
  lc : PySem.W.kitOne K (.ref CL) (.ref CC) = some false
abbrev s__law_due : Stmt := top 27
theorem sc__law_due : FnScope ["_law_row_here", "_law_found"] ["_law_row_here", "_law_found"] (defScope s__law_due) := ⟨rfl, rfl, rfl, by decide +kernel, rfl, by decide +kernel, by decide +kernel⟩
def sp_law_due (CF CU CE CL : Addr) : Sp := fun vs H Q _ => ∃ r x C dx fs b, vs = [.str r, .ref x] ∧ H x = some (.ins C dx fs) ∧ AnsV CF CU CE CL C fs b ∧ r.length ≤ 1000 ∧ ∀ H', Same H H' → Q (.bl (b (cds r))) H'
theorem ok__law_due {C_Filled C_Uneven C_Early C_Late CA CC f f__law_filling : Addr} (D : Def K mg "_law_due" s__law_due f ["_law_row_here", "_law_found"]) (B : Bl mg) (O_Filled : ObjC K mg "Filled" C_Filled) (O_Uneven : ObjC K mg "Uneven" C_Uneven) (O_Early : ObjC K mg "Early" C_Early) (O_Late : ObjC K mg "Late" C_Late)
    (KA : KitA K C_Filled C_Uneven C_Early C_Late CA CC) (G__law_filling : Cal P w K mg base CX0 2 "_law_filling" f__law_filling ["_law_row_here", "_law_text"] sp_law_filling) :
    Cal P w K mg base CX0 3 "_law_due" f ["_law_row_here", "_law_found"] (sp_law_due C_Filled C_Uneven C_Early C_Late) := by
  refine D.ok sc__law_due (fun vs H Q E h => by obtain ⟨r, x, C, dx, fs, b, rfl, _⟩ := h; rfl) (fun cdv A outer s H vs Q E hr h => ?_)
  obtain ⟨r, x, C, dx, fs, b, rfl, hx, ha, hrl, k⟩ := h
  refine ⟨_, (pss_cons (ps_if (pt_val (pe_callB (call_isiK (K := K) rfl) rfl B.isinstance (by decide +kernel) (pa_cons (pv 1) (pa_cons (pe_glob (v := .ref C_Filled) rfl O_Filled.at_ rfl) pa_nil)))) (pss_one (ps_ret (pe_callC G__law_filling (hr.mono (by decide)) rfl pass0 (pa_cons (pv 0) (pa_cons (pe_fldK (K := K) rfl (pv 1) rfl) pa_nil))))) pss_nil)
    (pss_cons (ps_if (pt_val (pe_callB (call_isiK (K := K) rfl) rfl B.isinstance (by decide +kernel) (pa_cons (pv 1) (pa_cons (pe_glob (v := .ref C_Uneven) rfl O_Uneven.at_ rfl) pa_nil)))) (pss_one (ps_ret (pe_cmpR op_eq (pe_op op_mod (pe_callB call_lenS rfl B.len PySem.boot_len (pa_cons (pv 0) pa_nil)) pe_int) pe_int (nomark _)))) pss_nil)
    (pss_cons (ps_if (pt_not (pt_chain op_le op_le pe_int (pe_fldK (K := K) rfl (pv 1) rfl) (pe_callB call_lenS rfl B.len PySem.boot_len (pa_cons (pv 0) pa_nil)))) (pss_one (ps_ret pe_bl)) pss_nil)
    (pss_cons (ps_if (pt_val (pe_callB (call_isiK (K := K) rfl) rfl B.isinstance (by decide +kernel) (pa_cons (pv 1) (pa_cons (pe_glob (v := .ref C_Early) rfl O_Early.at_ rfl) pa_nil)))) (pss_one (ps_ret (pe_cmpR op_gt (pe_op op_mul pe_int (pe_bmK (K := K) rfl PySem.F.plainAttrs_str PySem.F.slot_str_count PySem.F.type_str_count (mt_count 41) (pe_slice sl_str (pv 0) po_none (po_some (pe_fldK (K := K) rfl (pv 1) rfl))) (pa_cons pe_str pa_nil))) (pe_fldK (K := K) rfl (pv 1) rfl) (nomark _)))) pss_nil)
    (pss_one (ps_ret (pe_cmpR op_gt (pe_op op_mul pe_int (pe_bmK (K := K) rfl PySem.F.plainAttrs_str PySem.F.slot_str_count PySem.F.type_str_count (mt_count 40) (pe_slice sl_str (pv 0) (po_some (pe_op op_sub (pe_callB call_lenS rfl B.len PySem.boot_len (pa_cons (pv 0) pa_nil)) (pe_fldK (K := K) rfl (pv 1) rfl))) po_none) (pa_cons pe_str pa_nil))) (pe_fldK (K := K) rfl (pv 1) rfl) (nomark _)))))))), ?_⟩
  have kk : ∀ b', b (cds r) = b' → Q (.bl b') H := fun b' e => by rw [← e]; exact k H (Same.refl _)
  cases ha with
  | filled z hz =>
    walk_at "rd"
    refine rd_isi rfl (O_Filled.k.ty hx) KA.ff ?_
    walk_at "rd"
    refine iteT ?_
    walk_at "rd"
    refine rd_fldV rfl hx O_Filled.k.cl O_Filled.text rfl ?_
    walk_at "rd"
    exact ⟨r, z, rfl, hrl, hz, fun H' hS => k H' hS⟩
  | uneven =>
    walk_at "rd"
    refine rd_isi rfl (O_Uneven.k.ty hx) KA.uf ?_
    walk_at "rd"
    refine iteF ?_
    walk_at "rd"
    refine rd_isi rfl (O_Uneven.k.ty hx) KA.uu ?_
    walk_at "rd"
    refine iteT ?_
    walk_at "rd"
    refine kk _ ?_
    show decide ((cds r).length % 2 = 1) = _
    rw [cds_len]
    by_cases h : r.length % 2 = 1
    · rw [decide_eq_true h, decide_eq_true (by omega)]
    · rw [decide_eq_false h, decide_eq_false (by omega)]
  | early n =>
    replace kk : ∀ b', earlyB (cds r) n = b' → Q (.bl b') H := kk
    unfold earlyB at kk
    walk_at "rd"
    refine rd_isi rfl (O_Early.k.ty hx) KA.ef ?_
    walk_at "rd"
    refine iteF ?_
    walk_at "rd"
    refine rd_isi rfl (O_Early.k.ty hx) KA.eu ?_
    walk_at "rd"
    refine iteF ?_
    walk_at "rd"
    refine rd_fldV rfl hx O_Early.k.cl O_Early.many rfl ?_
    walk_at "rd"
    refine rd_ite (fun e => ?_) (fun e => ?_)
    rotate_left
    · walk_at "rd"
      refine iteT ?_
      walk_at "rd"
      exact kk false (by rw [decide_eq_false e]; rfl)
    rw [decide_eq_true e] at kk
    walk_at "rd"
    refine rd_iteN (fun e2 => ?_) (fun e2 => ?_)
    · walk_at "rd"
      exact kk false (by rw [decide_eq_false (show ¬ n ≤ (cds r).length by rw [cds_len]; omega)]; rfl)
    rw [decide_eq_true (show n ≤ (cds r).length by rw [cds_len]; omega)] at kk
    walk_at "rd"
    refine rd_isi rfl (O_Early.k.ty hx) KA.ee ?_
    walk_at "rd"
    refine iteT ?_
    walk_at "rd"
    refine rd_fldV rfl hx O_Early.k.cl O_Early.many rfl ?_
    walk_at "rd"
    refine ⟨_, _, rfl, rfl, c_close, ?_⟩
    rw [slice_to (by omega) (by rw [cds_len]; omega)]
    walk_at "rd"
    refine rd_fldV rfl hx O_Early.k.cl O_Early.many rfl ?_
    walk_at "rd"
    exact kk _ (by simp)
  | late n =>
    replace kk : ∀ b', lateB (cds r) n = b' → Q (.bl b') H := kk
    unfold lateB at kk
    walk_at "rd"
    refine rd_isi rfl (O_Late.k.ty hx) KA.lf ?_
    walk_at "rd"
    refine iteF ?_
    walk_at "rd"
    refine rd_isi rfl (O_Late.k.ty hx) KA.lu ?_
    walk_at "rd"
    refine iteF ?_
    walk_at "rd"
    refine rd_fldV rfl hx O_Late.k.cl O_Late.many rfl ?_
    walk_at "rd"
    refine rd_ite (fun e => ?_) (fun e => ?_)
    rotate_left
    · walk_at "rd"
      refine iteT ?_
      walk_at "rd"
      exact kk false (by rw [decide_eq_false e]; rfl)
    rw [decide_eq_true e] at kk
    walk_at "rd"
    refine rd_iteN (fun e2 => ?_) (fun e2 => ?_)
    · walk_at "rd"
      exact kk false (by rw [decide_eq_false (show ¬ n ≤ (cds r).length by rw [cds_len]; omega)]; rfl)
    rw [decide_eq_true (show n ≤ (cds r).length by rw [cds_len]; omega)] at kk
    walk_at "rd"
    refine rd_isi rfl (O_Late.k.ty hx) KA.le ?_
    walk_at "rd"
    refine iteF ?_
    walk_at "rd"
    refine rd_fldV rfl hx O_Late.k.cl O_Late.many rfl ?_
    walk_at "rd"
    refine ⟨_, _, rfl, rfl, c_open, ?_⟩
    rw [slice_from (by omega)]
    walk_at "rd"
    refine rd_fldV rfl hx O_Late.k.cl O_Late.many rfl ?_
    walk_at "rd"
    exact kk _ (by rw [show (cds r).length - n.toNat = ((r.length : Int) - n).toNat by rw [cds_len]; omega]; simp)
end
end HF
set_option Elab.async false
set_option linter.all false
set_option maxRecDepth 100000
set_option maxHeartbeats 8000000
namespace HF
open PySem L2
section
variable {P : Program} {w : World} {K : PySem.W.Frag} {mg : Str → Option Value} {base : Heap} {C_Filled C_Uneven C_Early C_Late C_Answer C_Cheapest : Addr}
theorem rd_seq2 {t u : TS} {D : Ends} {σ : St} {H : Hp} (hp : ∀ (N : St → Hp → Prop) (r : VK) (bk ct : St → Hp → Prop), N σ H → t (Ends.mk N r bk ct) σ H) (hu : u D σ H) : tSeq t u D σ H := hp _ _ _ _ hu
def OneMany (fs : List (Str × V)) : Prop := ∃ n : Int, fs = (((("many" : Str), V.int n) :: []) : List (Str × V))
structure Kinds (K : PySem.W.Frag) (CF CU CE CL CA CC C : Addr) (fs : List (Str × V)) (kF kU kE kL : Bool) : Prop where
  f : PySem.W.kitOne K (.ref C) (.ref CF) = some kF
  u : PySem.W.kitOne K (.ref C) (.ref CU) = some kU
  e : PySem.W.kitOne K (.ref C) (.ref CE) = some kE
  l : PySem.W.kitOne K (.ref C) (.ref CL) = some kL
  a : PySem.W.kitOne K (.ref C) (.ref CA) = some true
  c : PySem.W.kitOne K (.ref C) (.ref CC) = some false
  one : [kF, kU, kE, kL].count true = 1
  kd : Kind K C
  many : (kE || kL) = true → NoAttr K C "many" ∧ OneMany fs
theorem AnsV.kinds {C : Addr} {fs : List (Str × V)} {b : List Nat → Bool} (KA : KitA K C_Filled C_Uneven C_Early C_Late C_Answer C_Cheapest) (OF : ObjC K mg "Filled" C_Filled) (OU : ObjC K mg "Uneven" C_Uneven) (OE : ObjC K mg "Early" C_Early) (OL : ObjC K mg "Late" C_Late)
    (A : AnsV C_Filled C_Uneven C_Early C_Late C fs b) : ∃ kF kU kE kL, Kinds K C_Filled C_Uneven C_Early C_Late C_Answer C_Cheapest C fs kF kU kE kL := by
  cases A with
  | filled z hz => exact ⟨_, _, _, _, KA.ff, KA.fu, KA.fe, KA.fl, KA.fa, KA.fc, rfl, OF.k, fun h => nomatch h⟩
  | uneven => exact ⟨_, _, _, _, KA.uf, KA.uu, KA.ue, KA.ul, KA.ua, KA.uc, rfl, OU.k, fun h => nomatch h⟩
  | early n => exact ⟨_, _, _, _, KA.ef, KA.eu, KA.ee, KA.el, KA.ea, KA.ec, rfl, OE.k, fun _ => ⟨OE.many, _, rfl⟩⟩
  | late n => exact ⟨_, _, _, _, KA.lf, KA.lu, KA.le, KA.ll, KA.la, KA.lc, rfl, OL.k, fun _ => ⟨OL.many, _, rfl⟩⟩
theorem rd_shows {x C dx : Addr} {fs : List (Str × V)} {b : List Nat → Bool} {σ : St} {H : Hp} {Q : VK} {n m : Nat} {r : Str} (hx : H x = some (.ins C dx fs)) (A : AnsV C_Filled C_Uneven C_Early C_Late C fs b) (e0 : σ[n]? = some (some (.ref x))) (e1 : σ[m]? = some (some (.str r))) (hr : r.length ≤ 1000)
    (k : ∀ H', Same H H' → Q (.bl (b (cds r))) H') : tMeth C_Filled "shows" (sp_Filled_shows C_Filled) [] E0 (tVar n) (tCons (tVar m) tNil) σ H Q ∨ tMeth C_Uneven "shows" (sp_Uneven_shows C_Uneven) [] E0 (tVar n) (tCons (tVar m) tNil) σ H Q ∨
      tMeth C_Early "shows" (sp_Early_shows C_Early) [] E0 (tVar n) (tCons (tVar m) tNil) σ H Q ∨ tMeth C_Late "shows" (sp_Late_shows C_Late) [] E0 (tVar n) (tCons (tVar m) tNil) σ H Q := by
  cases A with
  | filled z hz => exact .inl ⟨_, e0, x, dx, _, rfl, hx, rfl, _, e1, x, dx, r, z, rfl, hx, hr, hz, k⟩
  | uneven => exact .inr (.inl ⟨_, e0, x, dx, _, rfl, hx, rfl, _, e1, x, dx, r, rfl, hx, hr, k⟩)
  | early n => exact .inr (.inr (.inl ⟨_, e0, x, dx, _, rfl, hx, rfl, _, e1, x, dx, r, n, rfl, hx, hr, k⟩))
  | late n => exact .inr (.inr (.inr ⟨_, e0, x, dx, _, rfl, hx, rfl, _, e1, x, dx, r, n, rfl, hx, hr, k⟩))
abbrev s_law : Stmt := top 28
theorem sc_law : FnScope ["_law_script", "_law_row_here", "_law_some", "_law_found", "_law_kinds", "_law_other", "_law_said"] ["_law_script"] (defScope s_law) := ⟨rfl, rfl, rfl, by decide +kernel, rfl, by decide +kernel, by decide +kernel⟩
def sp_law (K : PySem.W.Frag) : Sp := fun vs H Q _ => ∃ (a : Addr) (ns : List Int), vs = [.ref a] ∧ SqL K H a (ns.map V.int) ∧ ns.length ≤ 63 ∧ ∀ H', Q (.bl true) H'
def LawI (a l : Addr) (row : Str) (xs : List V) (σ : St) (H' : Hp) : Prop := ∃ v2 v3 v4 v5 v6, σ = [some (.ref a), some (.str row), v2, v3, v4, v5, v6] ∧ H' l = some (.lst xs)
def LawJ (a l1 l : Addr) (row sm : Str) (x lk : Addr) (xs ys : List V) (H : Hp) (σ : St) (H' : Hp) : Prop := ∃ v5 v6, σ = [some (.ref a), some (.str row), some (.str sm), some (.ref x), some (.ref lk), v5, v6] ∧ Same H H' ∧ H' l1 = some (.lst xs) ∧ H' l = some (.lst ys)
theorem law_rest {f f__law_due f_filled : Addr} (B : Bl mg) (O_Filled : ObjC K mg "Filled" C_Filled) (O_Uneven : ObjC K mg "Uneven" C_Uneven) (O_Early : ObjC K mg "Early" C_Early) (O_Late : ObjC K mg "Late" C_Late)
    (O_Answer : ObjC K mg "Answer" C_Answer) (O_Cheapest : ObjC K mg "Cheapest" C_Cheapest)
    (KA : KitA K C_Filled C_Uneven C_Early C_Late C_Answer C_Cheapest)
    (CM_Filled : CalM P w K mg base C_Filled 4 "shows" ["self", "row"] (sp_Filled_shows C_Filled)) (CM_Uneven : CalM P w K mg base C_Uneven 1 "shows" ["self", "row"] (sp_Uneven_shows C_Uneven)) (CM_Early : CalM P w K mg base C_Early 1 "shows" ["self", "row"] (sp_Early_shows C_Early)) (CM_Late : CalM P w K mg base C_Late 1 "shows" ["self", "row"] (sp_Late_shows C_Late))
    (G__law_due : Cal P w K mg base CX0 3 "_law_due" f__law_due ["_law_row_here", "_law_found"] (sp_law_due C_Filled C_Uneven C_Early C_Late))
    (G_filled : Cal P w K mg base (CXe P w) 4 "filled" f_filled ["row"] (sp_filled C_Filled C_Uneven C_Early C_Late))
    {cdv : Value} {A : Around} {outer : List Env} {s : Shared} {H0 : Hp} {E : XK} (hr : Room 4 (A.deeper (PyProof.Rows.envOfC "law" (defScope s_law) s.heap.objs.size f cdv))) {Q : VK} (k : ∀ H', Q (.bl true) H') :
    ∃ t, PSs (cxOf CX0 P w K mg base ["_law_script", "_law_row_here", "_law_some", "_law_found", "_law_kinds", "_law_other", "_law_said"] "law" (defScope s_law) f cdv A outer s H0 E).nox ((defBody s_law).drop 2) t ∧ ∀ (a : Addr) (row : Str) (H : Hp), (cds row).all okc = true → row.length ≤ 300 →
      t { nx := fun _ H' => Q .non H', rt := Q } [some (.ref a), some (.str row), none, none, none, none, none] H := by
  refine ⟨_, (pss_cons (ps_for PassesOwn.never rfl (pi_listK (K := K) rfl (pe_lst (pa_cons (pv 1) (pa_cons (pe_op op_addS (pv 1) pe_str) (pa_cons (pe_op op_addS pe_str (pv 1)) (pa_cons (pe_slice sl_str (pv 1) (po_some pe_int) (po_some (pe_un un_neg pe_int))) (pa_cons (pv 1) pa_nil))))))) (pg_name (i := 2) sc_law.nd rfl (Or.inl rfl))
      (pss_cons (ps_set (i := 3) sc_law.nd rfl (Or.inl rfl) (pe_callC G_filled (hr.mono (by decide)) rfl passN (pa_cons (pv 2) pa_nil)))
    (pss_cons (ps_set (i := 4) sc_law.nd rfl (Or.inl rfl) (pe_lst (pa_cons (pe_callB (call_isiK (K := K) rfl) rfl B.isinstance (by decide +kernel) (pa_cons (pv 3) (pa_cons (pe_glob (v := .ref C_Filled) rfl O_Filled.at_ rfl) pa_nil))) (pa_cons (pe_callB (call_isiK (K := K) rfl) rfl B.isinstance (by decide +kernel) (pa_cons (pv 3) (pa_cons (pe_glob (v := .ref C_Uneven) rfl O_Uneven.at_ rfl) pa_nil))) pa_nil))))
    (pss_cons (ps_set (i := 4) sc_law.nd rfl (Or.inl rfl) (pe_op op_cat (pv 4) (pe_lst (pa_cons (pe_callB (call_isiK (K := K) rfl) rfl B.isinstance (by decide +kernel) (pa_cons (pv 3) (pa_cons (pe_glob (v := .ref C_Early) rfl O_Early.at_ rfl) pa_nil))) (pa_cons (pe_callB (call_isiK (K := K) rfl) rfl B.isinstance (by decide +kernel) (pa_cons (pv 3) (pa_cons (pe_glob (v := .ref C_Late) rfl O_Late.at_ rfl) pa_nil))) pa_nil)))))
    (pss_cons (ps_if (PW.pt (pw_or (pt_not (pt_val (pe_callB (call_isiK (K := K) rfl) rfl B.isinstance (by decide +kernel) (pa_cons (pv 3) (pa_cons (pe_glob (v := .ref C_Answer) rfl O_Answer.at_ rfl) pa_nil))))) (pw_or (pt_val (pe_callB (call_isiK (K := K) rfl) rfl B.isinstance (by decide +kernel) (pa_cons (pv 3) (pa_cons (pe_glob (v := .ref C_Cheapest) rfl O_Cheapest.at_ rfl) pa_nil)))) (pw_or1 (pt_cmpR op_ne (pe_bmK (K := K) rfl PySem.F.plainAttrs_list PySem.F.slot_list_count PySem.F.type_list_count mt_countB (pv 4) (pa_cons pe_bl pa_nil)) pe_int (nomark _)))))) (pss_one (ps_ret pe_bl)) pss_nil)
    (pss_cons (ps_if (PW.pt (pw_or (pt_val (pe_callB (call_isiK (K := K) rfl) rfl B.isinstance (by decide +kernel) (pa_cons (pv 3) (pa_cons (pe_glob (v := .ref C_Early) rfl O_Early.at_ rfl) pa_nil)))) (pw_or1 (pt_val (pe_callB (call_isiK (K := K) rfl) rfl B.isinstance (by decide +kernel) (pa_cons (pv 3) (pa_cons (pe_glob (v := .ref C_Late) rfl O_Late.at_ rfl) pa_nil))))))) (pss_one (ps_if (PW.pt (pw_or (pt_val (pe_callB (call_isiK (K := K) rfl) rfl B.isinstance (by decide +kernel) (pa_cons (pe_fldK (K := K) rfl (pv 3) rfl) (pa_cons (pe_bltn (v := .ty "bool") rfl B.bool (by decide +kernel) rfl) pa_nil)))) (pw_or1 (pt_not (pt_val (pe_callB (call_isiK (K := K) rfl) rfl B.isinstance (by decide +kernel) (pa_cons (pe_fldK (K := K) rfl (pv 3) rfl) (pa_cons (pe_bltn (v := .ty "int") rfl B.int (by decide +kernel) rfl) pa_nil)))))))) (pss_one (ps_ret pe_bl)) pss_nil)) pss_nil)
    (pss_cons (ps_if (PW.pt (pw_or (pt_not (pt_val (pe_callC G__law_due (hr.mono (by decide)) rfl pass0 (pa_cons (pv 2) (pa_cons (pv 3) pa_nil))))) (pw_or1 (pt_cmpR op_isnotQ (PE.or (pe_methC CM_Filled (pv 3) (hr.mono (by decide)) (pa_cons (pv 2) pa_nil)) (PE.or (pe_methC CM_Uneven (pv 3) (hr.mono (by decide)) (pa_cons (pv 2) pa_nil)) (PE.or (pe_methC CM_Early (pv 3) (hr.mono (by decide)) (pa_cons (pv 2) pa_nil)) (pe_methC CM_Late (pv 3) (hr.mono (by decide)) (pa_cons (pv 2) pa_nil))))) pe_bl (nomark _))))) (pss_one (ps_ret pe_bl)) pss_nil)
    (pss_one (ps_for PassesOwn.never rfl (pi_listK (K := K) rfl (pe_lst (pa_cons (pe_revS (pv 2) (pe_un un_neg pe_int)) (pa_cons (pe_slice sl_str (pv 2) (po_some pe_int) po_none) (pa_cons (pe_op op_addS (pv 2) pe_str) pa_nil))))) (pg_name (i := 5) sc_law.nd rfl (Or.inl rfl))
      (pss_cons (ps_set (i := 6) sc_law.nd rfl (Or.inl rfl) (PE.or (pe_methC CM_Filled (pv 3) (hr.mono (by decide)) (pa_cons (pv 5) pa_nil)) (PE.or (pe_methC CM_Uneven (pv 3) (hr.mono (by decide)) (pa_cons (pv 5) pa_nil)) (PE.or (pe_methC CM_Early (pv 3) (hr.mono (by decide)) (pa_cons (pv 5) pa_nil)) (pe_methC CM_Late (pv 3) (hr.mono (by decide)) (pa_cons (pv 5) pa_nil))))))
    (pss_one (ps_if (PW.pt (pw_or (pt_not (pt_val (pe_callB (call_isiK (K := K) rfl) rfl B.isinstance (by decide +kernel) (pa_cons (pv 6) (pa_cons (pe_bltn (v := .ty "bool") rfl B.bool (by decide +kernel) rfl) pa_nil))))) (pw_or1 (pt_cmpR op_ne (pv 6) (pe_callC G__law_due (hr.mono (by decide)) rfl pass0 (pa_cons (pv 5) (pa_cons (pv 3) pa_nil))) (nomark _))))) (pss_one (ps_ret pe_bl)) pss_nil))))))))))))
    (pss_one (ps_ret (pe_callB (call_isiK (K := K) rfl) rfl B.isinstance (by decide +kernel) (pa_cons (pe_callC G_filled (hr.mono (by decide)) rfl passN (pa_cons pe_str pa_nil)) (pa_cons (pe_glob (v := .ref C_Filled) rfl O_Filled.at_ rfl) pa_nil)))))), ?_⟩
  intro a row H ho hl
  have hq : (Str.ofString "?").length = 1 := by decide +kernel
  have hc : (Str.ofString ")").length = 1 := by decide +kernel
  have oq : (cds (Str.ofString "?")).all okc = true := by decide +kernel
  have hsl := Txt.slice_le row (some 1) (some (-1))
  walk_at "rd"
  intro l1 hl1
  generalize hxs : [V.str row, V.str (row ++ Str.ofString "?"), V.str (Str.ofString "?" ++ row), V.str (Txt.slice row (some 1) (some (-1))), V.str row] = xs
  have hall : ∀ (i : Nat) v, xs[i]? = some v → ∃ z, v = .str z ∧ (cds z).all okc = true ∧ z.length ≤ 301 := fun i v hv => by
    have := List.mem_of_getElem? hv
    rw [← hxs] at this
    simp only [List.mem_cons, List.not_mem_nil, or_false] at this
    rcases this with rfl | rfl | rfl | rfl | rfl
    · exact ⟨_, rfl, ho, by omega⟩
    · exact ⟨_, rfl, app_okc ho oq, by rw [len_app]; omega⟩
    · exact ⟨_, rfl, app_okc oq ho, by rw [len_app]; omega⟩
    · exact ⟨_, rfl, slice_okc ho, by omega⟩
    · exact ⟨_, rfl, ho, by omega⟩
  walk_at "rd"
  refine for_list (xs := xs) (fun _ => LawI a l1 row xs) ⟨none, none, none, none, none, rfl, upd_same⟩ (fun i σ H' _ h => by obtain ⟨_, _, _, _, _, _, h⟩ := h; exact SqL.of h) (fun i v σ H1 hv h => ?_) (fun σ H1 h => ?_)
  · obtain ⟨v2, v3, v4, v5, v6, rfl, hL1⟩ := h
    obtain ⟨z, rfl, hoz, hlz⟩ := hall i v hv
    walk_at "rd"
    refine filled_any (by omega) hoz (fun x C dx fs b H2 N AN hb => ?_)
    obtain ⟨kF, kU, kE, kL, KD⟩ := AN.kinds KA O_Filled O_Uneven O_Early O_Late
    have hx := N.obj
    have hL2 := N.same _ _ hL1
    walk_at "rd"
    refine rd_isi rfl (KD.kd.ty hx) KD.f ?_
    walk_at "rd"
    refine rd_isi rfl (KD.kd.ty hx) KD.u ?_
    walk_at "rd"
    intro lk1 hlk1
    have hS3 : Same H2 (upd H2 lk1 (.lst [.bl kF, .bl kU])) := same_new hlk1
    have hk3 : (upd H2 lk1 (.lst [.bl kF, .bl kU])) lk1 = some (.lst [.bl kF, .bl kU]) := upd_same
    generalize upd H2 lk1 (.lst [.bl kF, .bl kU]) = H3 at hS3 hk3
    have hx3 := hS3 _ _ hx
    have hL3 := hS3 _ _ hL2
    walk_at "rd"
    refine rd_isi rfl (KD.kd.ty hx3) KD.e ?_
    walk_at "rd"
    refine rd_isi rfl (KD.kd.ty hx3) KD.l ?_
    walk_at "rd"
    intro lk2 hlk2
    have hS4 : Same H3 (upd H3 lk2 (.lst [.bl kE, .bl kL])) := same_new hlk2
    have hk4' : (upd H3 lk2 (.lst [.bl kE, .bl kL])) lk2 = some (.lst [.bl kE, .bl kL]) := upd_same
    generalize upd H3 lk2 (.lst [.bl kE, .bl kL]) = H4 at hS4 hk4'
    have hk4 := hS4 _ _ hk3
    refine ⟨lk1, lk2, _, _, rfl, rfl, hk4, hk4', by show 4 ≤ sizeLine; rw [sizeLine_eq]; decide, fun lk hlk => ?_⟩
    have hS5 : Same H4 (upd H4 lk (.lst [.bl kF, .bl kU, .bl kE, .bl kL])) := same_new hlk
    have hk5 : (upd H4 lk (.lst [.bl kF, .bl kU, .bl kE, .bl kL])) lk = some (.lst [.bl kF, .bl kU, .bl kE, .bl kL]) := upd_same
    show (_ : Prop)
    replace hk5 : (upd H4 lk (.lst ([.bl kF, .bl kU] ++ [.bl kE, .bl kL]))) lk = some (.lst [.bl kF, .bl kU, .bl kE, .bl kL]) := hk5
    replace hS5 : Same H4 (upd H4 lk (.lst ([.bl kF, .bl kU] ++ [.bl kE, .bl kL]))) := hS5
    generalize upd H4 lk (.lst ([.bl kF, .bl kU] ++ [.bl kE, .bl kL])) = H5 at hS5 hk5
    have hx5 := hS5 _ _ (hS4 _ _ hx3)
    have hL5 := hS5 _ _ (hS4 _ _ hL3)
    walk_at "rd"
    refine rd_isi rfl (KD.kd.ty hx5) KD.a ?_
    walk_at "rd"
    refine iteF ?_
    walk_at "rd"
    refine rd_isi rfl (KD.kd.ty hx5) KD.c ?_
    walk_at "rd"
    refine iteF ?_
    walk_at "rd"
    refine ⟨lk, [kF, kU, kE, kL], true, rfl, rfl, hk5, ?_⟩
    rw [KD.one]
    walk_at "rd"
    refine iteF ?_
    -- what is left of a turn
    refine rd_next (rd_nx (rd_seq2 (fun N r bk ct hN => ?_) ?_))
    · have fld : ∀ (Q : VK), (kE || kL) = true → (∀ n, Q (.int n) H5) → tFld K (tVar 3) "many" [some (V.ref a), some (V.str row), some (V.str z), some (V.ref x), some (V.ref lk), v5, v6] H5 Q := fun Q h1 h2 => by
        obtain ⟨na, n, hfs⟩ := KD.many h1
        rw [hfs] at hx5
        exact rd_fldV rfl hx5 KD.kd.cl na rfl (h2 n)
      have inner : (kE || kL) = true → tIfS (tOr (tB (tCB (rIsi K) (tCons (tFld K (tVar 3) "many") (tCons (tC (V.ty "bool")) tNil)))) (tNot (tB (tCB (rIsi K) (tCons (tFld K (tVar 3) "many") (tCons (tC (V.ty "int")) tNil)))))) (tRet (tC (V.bl false))) tNext (Ends.mk N r bk ct)
          [some (V.ref a), some (V.str row), some (V.str z), some (V.ref x), some (V.ref lk), v5, v6] H5 := fun h1 => by
        walk_at "rd"
        refine fld _ h1 fun n => ?_
        walk_at "rd"
        refine rd_isi (b := false) rfl (.int n) (by kernel_rfl) ?_
        walk_at "rd"
        refine iteF ?_
        walk_at "rd"
        refine fld _ h1 fun n => ?_
        walk_at "rd"
        refine rd_isi (b := true) rfl (.int n) (by kernel_rfl) ?_
        walk_at "rd"
        refine iteF ?_
        exact rd_next (rd_nx hN)
      walk_at "rd"
      refine rd_isi rfl (KD.kd.ty hx5) KD.e ?_
      walk_at "rd"
      refine rd_iteB (fun e => ?_) (fun e => ?_)
      · refine iteT ?_
        exact inner (by rw [e]; rfl)
      · walk_at "rd"
        refine rd_isi rfl (KD.kd.ty hx5) KD.l ?_
        walk_at "rd"
        refine rd_iteB (fun e2 => ?_) (fun e2 => ?_)
        · exact inner (by rw [e, e2]; rfl)
        · exact rd_next (rd_nx hN)
    walk_at "rd"
    refine ⟨z, x, C, dx, fs, b, rfl, hx5, AN, by omega, fun H6 hS6 => ?_⟩
    rw [hb]
    walk_at "rd"
    refine iteF ?_
    have hx6 := hS6 _ _ hx5
    have hL6 := hS6 _ _ hL5
    walk_at "rd"
    refine rd_shows (n := 3) (m := 2) hx6 AN rfl rfl (by omega) fun H7 hS7 => ?_
    rw [hb]
    walk_at "rd"
    refine iteF ?_
    have hx7 := hS7 _ _ hx6
    have hL7 := hS7 _ _ hL6
    have hsz := Txt.slice_le z (some 1) none
    walk_at "rd"
    intro l2 hl2
    have hS8 : Same H7 (upd H7 l2 (.lst [V.str (revS z), V.str (Txt.slice z (some 1) none), V.str (z ++ Str.ofString ")")])) := same_new hl2
    have hl8 : (upd H7 l2 (.lst [V.str (revS z), V.str (Txt.slice z (some 1) none), V.str (z ++ Str.ofString ")")])) l2 = some (.lst [V.str (revS z), V.str (Txt.slice z (some 1) none), V.str (z ++ Str.ofString ")")]) := upd_same
    generalize upd H7 l2 (.lst [V.str (revS z), V.str (Txt.slice z (some 1) none), V.str (z ++ Str.ofString ")")]) = H8 at hS8 hl8
    generalize hys : [V.str (revS z), V.str (Txt.slice z (some 1) none), V.str (z ++ Str.ofString ")")] = ys at hl8
    have hally : ∀ (i : Nat) v, ys[i]? = some v → ∃ z, v = .str z ∧ z.length ≤ 302 := fun i v hv => by
      have := List.mem_of_getElem? hv
      rw [← hys] at this
      simp only [List.mem_cons, List.not_mem_nil, or_false] at this
      rcases this with rfl | rfl | rfl
      · exact ⟨_, rfl, by rw [revS_len]; omega⟩
      · exact ⟨_, rfl, by omega⟩
      · exact ⟨_, rfl, by rw [len_app]; omega⟩
    have hx8 := hS8 _ _ hx7
    have hL8 := hS8 _ _ hL7
    walk_at "rd"
    refine for_list (xs := ys) (fun _ => LawJ a l1 l2 row z x lk xs ys H8) ⟨_, _, rfl, Same.refl _, hL8, hl8⟩ (fun i σ H' _ h => by obtain ⟨_, _, _, _, _, h⟩ := h; exact SqL.of h) (fun i v σ H9 hv h => ?_) (fun σ H9 h => ?_)
    · obtain ⟨u5, u6, rfl, hS9, hL9, hl9⟩ := h
      obtain ⟨y, rfl, hly⟩ := hally i v hv
      have hx9 := hS9 _ _ hx8
      walk_at "rd"
      refine rd_shows (n := 3) (m := 5) hx9 AN rfl rfl (by omega) fun H10 hS10 => ?_
      have hx10 := hS10 _ _ hx9
      walk_at "rd"
      refine rd_isi (b := true) rfl (.bl _) (by kernel_rfl) ?_
      walk_at "rd"
      refine iteF ?_
      walk_at "rd"
      refine ⟨y, x, C, dx, fs, b, rfl, hx10, AN, by omega, fun H11 hS11 => ?_⟩
      walk_at "rd"
      rw [beq_self_eq_true]
      refine iteF ?_
      exact ⟨_, _, rfl, (hS9.trans hS10).trans hS11, hS11 _ _ (hS10 _ _ hL9), hS11 _ _ (hS10 _ _ hl9)⟩
    · obtain ⟨u5, u6, rfl, hS9, hL9, hl9⟩ := h
      exact ⟨_, _, _, _, _, rfl, hL9⟩
  · obtain ⟨v2, v3, v4, v5, v6, rfl, hL1⟩ := h
    walk_at "rd"
    have e0 : cds (Str.ofString "") = [] := by decide +kernel
    have F0 : HM.Fb (cds (Str.ofString "")) := by
      rw [e0]
      exact ⟨rfl, fun i _ => by simp, fun i hi => by simp at hi ⊢; omega⟩
    refine ⟨_, rfl, by decide +kernel, by decide +kernel, fun _ x dx y H2 N _ => ?_, fun h => absurd F0 h⟩
    walk_at "rd"
    refine rd_isi rfl (O_Filled.k.ty N.obj) KA.ff ?_
    exact rd_rt (k _)
theorem ok_law {f f__law_row f__law_due f_filled : Addr} {fd : FuncData} (F : Fun K "law" "law" s_law f fd) (B : Bl mg) (O_Filled : ObjC K mg "Filled" C_Filled) (O_Uneven : ObjC K mg "Uneven" C_Uneven) (O_Early : ObjC K mg "Early" C_Early) (O_Late : ObjC K mg "Late" C_Late)
    (O_Answer : ObjC K mg "Answer" C_Answer) (O_Cheapest : ObjC K mg "Cheapest" C_Cheapest)
    (KA : KitA K C_Filled C_Uneven C_Early C_Late C_Answer C_Cheapest)
    (CM_Filled : CalM P w K mg base C_Filled 4 "shows" ["self", "row"] (sp_Filled_shows C_Filled)) (CM_Uneven : CalM P w K mg base C_Uneven 1 "shows" ["self", "row"] (sp_Uneven_shows C_Uneven)) (CM_Early : CalM P w K mg base C_Early 1 "shows" ["self", "row"] (sp_Early_shows C_Early)) (CM_Late : CalM P w K mg base C_Late 1 "shows" ["self", "row"] (sp_Late_shows C_Late))
    (G__law_row : Cal P w K mg base CX0 1 "_law_row" f__law_row ["_law_script"] (sp_law_row K)) (G__law_due : Cal P w K mg base CX0 3 "_law_due" f__law_due ["_law_row_here", "_law_found"] (sp_law_due C_Filled C_Uneven C_Early C_Late))
    (G_filled : Cal P w K mg base (CXe P w) 4 "filled" f_filled ["row"] (sp_filled C_Filled C_Uneven C_Early C_Late)) :
    FnOk P w K mg base CX0 5 f fd ["_law_script"] (sp_law K) := by
  refine F.ok sc_law (fun vs H Q E h => by obtain ⟨a, ns, rfl, _⟩ := h; rfl) (fun cdv A outer s H vs Q E hr h => ?_)
  obtain ⟨a, ns, rfl, ha, h63, k⟩ := h
  obtain ⟨tr, hre, qr⟩ := law_rest (f := f) (cdv := cdv) (A := A) (outer := outer) (s := s) (H0 := H) (E := E) B O_Filled O_Uneven O_Early O_Late O_Answer O_Cheapest KA CM_Filled CM_Uneven CM_Early CM_Late G__law_due G_filled hr k
  refine ⟨_, (pss_cons (ps_set (i := 1) sc_law.nd rfl (Or.inl rfl) (pe_callC G__law_row (hr.mono (by decide)) rfl pass0 (pa_cons (pv 0) pa_nil)))
    (pss_cons (ps_if (pt_cmpR op_eq (pe_op op_mod (pe_callB (call_sumK (K := K) rfl rfl) rfl B.sum (by decide +kernel) (pa_cons (pv 0) pa_nil)) pe_int) pe_int (nomark _)) (pss_one (ps_set (i := 1) sc_law.nd rfl (Or.inl rfl) (pe_op op_repS (pv 1) (pe_op op_add pe_int (pe_op op_mod (pe_op op_fdiv (pe_callB (call_sumK (K := K) rfl rfl) rfl B.sum (by decide +kernel) (pa_cons (pv 0) pa_nil)) pe_int) pe_int))))) pss_nil)
    hre)), ?_⟩
  walk_at "rd"
  refine ⟨a, ns, rfl, ha, h63, fun z0 H1 hS1 ho0 hl0 => ?_⟩
  have ha1 := hS1.seq ha
  walk_at "rd"
  refine rd_ite (fun _ => ?_) (fun _ => ?_)
  · walk_at "rd"
    obtain ⟨j, hj, hj3⟩ := mod_nat (ns.sum / 7) 3 (by decide)
    rw [show ns.sum / 7 % 3 = (j : Int) from hj]
    refine ⟨z0, 2 + j, rfl, rfl, by omega, by omega, ?_, ?_⟩
    · have : (2 + (j : Int)).toNat ≤ 4 := by omega
      have := Nat.mul_le_mul hl0 this
      omega
    walk_at "rd"
    refine qr a _ H1 (repS_okc ho0) ?_
    rw [len_repS]
    have : (2 + (j : Int)).toNat ≤ 4 := by omega
    have := Nat.mul_le_mul this hl0
    omega
  · walk_at "rd"
    exact qr a z0 H1 ho0 (by omega)
end
end HF
set_option Elab.async false
set_option linter.all false
set_option maxRecDepth 100000
set_option maxHeartbeats 8000000
namespace HF
open PySem L2
theorem us1 {us : List Value} (h : us.length = 1) : ∃ u0, us = [u0] := by
  match us, h with
  | [u0], _ => exact ⟨u0, rfl⟩
theorem us2 {us : List Value} (h : us.length = 2) : ∃ u0 u1, us = [u0, u1] := by
  match us, h with
  | [u0, u1], _ => exact ⟨u0, u1, rfl⟩
theorem all_mk {l : PySem.W.OpenLaw} {w : World} {K : PySem.W.Frag} {h : Heap} {mg : Str → Option Value} {fa C_Answer C_Filled C_Uneven C_Early C_Late C_Cheapest C_BadRow f_is_row f_check_row f_running_depths f_is_closed f_is_filling f_overfull f_what_bars f_opened_early f_filled f__law_row f__law_closed f__law_filling f__law_due f_law f_Filled___init__ f_Early___init__ f_Late___init__ f_Filled_shows f_Uneven_shows f_Early_shows f_Late_shows : Addr} {od_is_row an_is_row od_check_row an_check_row od_running_depths an_running_depths od_is_closed an_is_closed od_is_filling an_is_filling od_overfull an_overfull od_what_bars an_what_bars od_opened_early an_opened_early od_filled an_filled od__law_row an__law_row od__law_closed an__law_closed od__law_filling an__law_filling od__law_due an__law_due od_law an_law od_Filled___init__ an_Filled___init__ od_Early___init__ an_Early___init__ od_Late___init__ an_Late___init__ od_Filled_shows an_Filled_shows od_Uneven_shows an_Uneven_shows od_Early_shows an_Early_shows od_Late_shows an_Late_shows : Option Addr} {sl_is_row sl_check_row sl_running_depths sl_is_closed sl_is_filling sl_overfull sl_what_bars sl_opened_early sl_filled sl__law_row sl__law_closed sl__law_filling sl__law_due sl_law sl_Filled___init__ sl_Early___init__ sl_Late___init__ sl_Filled_shows sl_Uneven_shows sl_Early_shows sl_Late_shows : Array (Option Value)} {oc_is_row kV_is_row dc_is_row pm_is_row cd_is_row ct_is_row oc_check_row kV_check_row dc_check_row pm_check_row cd_check_row ct_check_row oc_running_depths kV_running_depths dc_running_depths pm_running_depths cd_running_depths ct_running_depths oc_is_closed kV_is_closed dc_is_closed pm_is_closed cd_is_closed ct_is_closed oc_is_filling kV_is_filling dc_is_filling pm_is_filling cd_is_filling ct_is_filling oc_overfull kV_overfull dc_overfull pm_overfull cd_overfull ct_overfull oc_what_bars kV_what_bars dc_what_bars pm_what_bars cd_what_bars ct_what_bars oc_opened_early kV_opened_early dc_opened_early pm_opened_early cd_opened_early ct_opened_early oc_filled kV_filled dc_filled pm_filled cd_filled ct_filled oc__law_row kV__law_row dc__law_row pm__law_row cd__law_row ct__law_row oc__law_closed kV__law_closed dc__law_closed pm__law_closed cd__law_closed ct__law_closed oc__law_filling kV__law_filling dc__law_filling pm__law_filling cd__law_filling ct__law_filling oc__law_due kV__law_due dc__law_due pm__law_due cd__law_due ct__law_due oc_law kV_law dc_law pm_law cd_law ct_law oc_Filled___init__ kV_Filled___init__ dc_Filled___init__ pm_Filled___init__ cd_Filled___init__ ct_Filled___init__ oc_Early___init__ kV_Early___init__ dc_Early___init__ pm_Early___init__ cd_Early___init__ ct_Early___init__ oc_Late___init__ kV_Late___init__ dc_Late___init__ pm_Late___init__ cd_Late___init__ ct_Late___init__ oc_Filled_shows kV_Filled_shows dc_Filled_shows pm_Filled_shows cd_Filled_shows ct_Filled_shows oc_Uneven_shows kV_Uneven_shows dc_Uneven_shows pm_Uneven_shows cd_Uneven_shows ct_Uneven_shows oc_Early_shows kV_Early_shows dc_Early_shows pm_Early_shows cd_Early_shows ct_Early_shows oc_Late_shows kV_Late_shows dc_Late_shows pm_Late_shows cd_Late_shows ct_Late_shows : Value}  (X : K.In h) (G : h.Ns mainGlobals mg) (hfa : mg "law" = some (.ref fa))
    (n_Answer : PySem.W.nsIn K mainGlobals "Answer" = some (some (.ref C_Answer)))
    (n_Filled : PySem.W.nsIn K mainGlobals "Filled" = some (some (.ref C_Filled)))
    (n_Uneven : PySem.W.nsIn K mainGlobals "Uneven" = some (some (.ref C_Uneven)))
    (n_Early : PySem.W.nsIn K mainGlobals "Early" = some (some (.ref C_Early)))
    (n_Late : PySem.W.nsIn K mainGlobals "Late" = some (some (.ref C_Late)))
    (n_Cheapest : PySem.W.nsIn K mainGlobals "Cheapest" = some (some (.ref C_Cheapest)))
    (n_BadRow : PySem.W.nsIn K mainGlobals "BadRow" = some (some (.ref C_BadRow)))
    (a_is_row : PySem.W.nsIn K mainGlobals "is_row" = some (some (.ref f_is_row)))
    (l_is_row : K.lookup f_is_row = some ⟨oc_is_row, od_is_row, .func (PySem.W.fnOf "is_row" "is_row" (defArgs s_is_row) (defBody s_is_row) (defScope s_is_row) .none kV_is_row dc_is_row pm_is_row an_is_row cd_is_row ct_is_row), sl_is_row⟩)
    (c_is_row : PySem.W.codeIn K cd_is_row "is_row" = true)
    (k_is_row : PySem.W.keepIn K (.ref f_is_row) = true)
    (a_check_row : PySem.W.nsIn K mainGlobals "check_row" = some (some (.ref f_check_row)))
    (l_check_row : K.lookup f_check_row = some ⟨oc_check_row, od_check_row, .func (PySem.W.fnOf "check_row" "check_row" (defArgs s_check_row) (defBody s_check_row) (defScope s_check_row) .none kV_check_row dc_check_row pm_check_row an_check_row cd_check_row ct_check_row), sl_check_row⟩)
    (c_check_row : PySem.W.codeIn K cd_check_row "check_row" = true)
    (k_check_row : PySem.W.keepIn K (.ref f_check_row) = true)
    (a_running_depths : PySem.W.nsIn K mainGlobals "running_depths" = some (some (.ref f_running_depths)))
    (l_running_depths : K.lookup f_running_depths = some ⟨oc_running_depths, od_running_depths, .func (PySem.W.fnOf "running_depths" "running_depths" (defArgs s_running_depths) (defBody s_running_depths) (defScope s_running_depths) .none kV_running_depths dc_running_depths pm_running_depths an_running_depths cd_running_depths ct_running_depths), sl_running_depths⟩)
    (c_running_depths : PySem.W.codeIn K cd_running_depths "running_depths" = true)
    (k_running_depths : PySem.W.keepIn K (.ref f_running_depths) = true)
    (a_is_closed : PySem.W.nsIn K mainGlobals "is_closed" = some (some (.ref f_is_closed)))
    (l_is_closed : K.lookup f_is_closed = some ⟨oc_is_closed, od_is_closed, .func (PySem.W.fnOf "is_closed" "is_closed" (defArgs s_is_closed) (defBody s_is_closed) (defScope s_is_closed) .none kV_is_closed dc_is_closed pm_is_closed an_is_closed cd_is_closed ct_is_closed), sl_is_closed⟩)
    (c_is_closed : PySem.W.codeIn K cd_is_closed "is_closed" = true)
    (k_is_closed : PySem.W.keepIn K (.ref f_is_closed) = true)
    (a_is_filling : PySem.W.nsIn K mainGlobals "is_filling" = some (some (.ref f_is_filling)))
    (l_is_filling : K.lookup f_is_filling = some ⟨oc_is_filling, od_is_filling, .func (PySem.W.fnOf "is_filling" "is_filling" (defArgs s_is_filling) (defBody s_is_filling) (defScope s_is_filling) .none kV_is_filling dc_is_filling pm_is_filling an_is_filling cd_is_filling ct_is_filling), sl_is_filling⟩)
    (c_is_filling : PySem.W.codeIn K cd_is_filling "is_filling" = true)
    (k_is_filling : PySem.W.keepIn K (.ref f_is_filling) = true)
    (a_overfull : PySem.W.nsIn K mainGlobals "overfull" = some (some (.ref f_overfull)))
    (l_overfull : K.lookup f_overfull = some ⟨oc_overfull, od_overfull, .func (PySem.W.fnOf "overfull" "overfull" (defArgs s_overfull) (defBody s_overfull) (defScope s_overfull) .none kV_overfull dc_overfull pm_overfull an_overfull cd_overfull ct_overfull), sl_overfull⟩)
    (c_overfull : PySem.W.codeIn K cd_overfull "overfull" = true)
    (k_overfull : PySem.W.keepIn K (.ref f_overfull) = true)
    (a_what_bars : PySem.W.nsIn K mainGlobals "what_bars" = some (some (.ref f_what_bars)))
    (l_what_bars : K.lookup f_what_bars = some ⟨oc_what_bars, od_what_bars, .func (PySem.W.fnOf "what_bars" "what_bars" (defArgs s_what_bars) (defBody s_what_bars) (defScope s_what_bars) .none kV_what_bars dc_what_bars pm_what_bars an_what_bars cd_what_bars ct_what_bars), sl_what_bars⟩)
    (c_what_bars : PySem.W.codeIn K cd_what_bars "what_bars" = true)
    (k_what_bars : PySem.W.keepIn K (.ref f_what_bars) = true)
    (a_opened_early : PySem.W.nsIn K mainGlobals "opened_early" = some (some (.ref f_opened_early)))
    (l_opened_early : K.lookup f_opened_early = some ⟨oc_opened_early, od_opened_early, .func (PySem.W.fnOf "opened_early" "opened_early" (defArgs s_opened_early) (defBody s_opened_early) (defScope s_opened_early) .none kV_opened_early dc_opened_early pm_opened_early an_opened_early cd_opened_early ct_opened_early), sl_opened_early⟩)
    (c_opened_early : PySem.W.codeIn K cd_opened_early "opened_early" = true)
    (k_opened_early : PySem.W.keepIn K (.ref f_opened_early) = true)
    (a_filled : PySem.W.nsIn K mainGlobals "filled" = some (some (.ref f_filled)))
    (l_filled : K.lookup f_filled = some ⟨oc_filled, od_filled, .func (PySem.W.fnOf "filled" "filled" (defArgs s_filled) (defBody s_filled) (defScope s_filled) .none kV_filled dc_filled pm_filled an_filled cd_filled ct_filled), sl_filled⟩)
    (c_filled : PySem.W.codeIn K cd_filled "filled" = true)
    (k_filled : PySem.W.keepIn K (.ref f_filled) = true)
    (a__law_row : PySem.W.nsIn K mainGlobals "_law_row" = some (some (.ref f__law_row)))
    (l__law_row : K.lookup f__law_row = some ⟨oc__law_row, od__law_row, .func (PySem.W.fnOf "_law_row" "_law_row" (defArgs s__law_row) (defBody s__law_row) (defScope s__law_row) .none kV__law_row dc__law_row pm__law_row an__law_row cd__law_row ct__law_row), sl__law_row⟩)
    (c__law_row : PySem.W.codeIn K cd__law_row "_law_row" = true)
    (k__law_row : PySem.W.keepIn K (.ref f__law_row) = true)
    (a__law_closed : PySem.W.nsIn K mainGlobals "_law_closed" = some (some (.ref f__law_closed)))
    (l__law_closed : K.lookup f__law_closed = some ⟨oc__law_closed, od__law_closed, .func (PySem.W.fnOf "_law_closed" "_law_closed" (defArgs s__law_closed) (defBody s__law_closed) (defScope s__law_closed) .none kV__law_closed dc__law_closed pm__law_closed an__law_closed cd__law_closed ct__law_closed), sl__law_closed⟩)
    (c__law_closed : PySem.W.codeIn K cd__law_closed "_law_closed" = true)
    (k__law_closed : PySem.W.keepIn K (.ref f__law_closed) = true)
    (a__law_filling : PySem.W.nsIn K mainGlobals "_law_filling" = some (some (.ref f__law_filling)))
    (l__law_filling : K.lookup f__law_filling = some ⟨oc__law_filling, od__law_filling, .func (PySem.W.fnOf "_law_filling" "_law_filling" (defArgs s__law_filling) (defBody s__law_filling) (defScope s__law_filling) .none kV__law_filling dc__law_filling pm__law_filling an__law_filling cd__law_filling ct__law_filling), sl__law_filling⟩)
    (c__law_filling : PySem.W.codeIn K cd__law_filling "_law_filling" = true)
    (k__law_filling : PySem.W.keepIn K (.ref f__law_filling) = true)
    (a__law_due : PySem.W.nsIn K mainGlobals "_law_due" = some (some (.ref f__law_due)))
    (l__law_due : K.lookup f__law_due = some ⟨oc__law_due, od__law_due, .func (PySem.W.fnOf "_law_due" "_law_due" (defArgs s__law_due) (defBody s__law_due) (defScope s__law_due) .none kV__law_due dc__law_due pm__law_due an__law_due cd__law_due ct__law_due), sl__law_due⟩)
    (c__law_due : PySem.W.codeIn K cd__law_due "_law_due" = true)
    (k__law_due : PySem.W.keepIn K (.ref f__law_due) = true)
    (a_law : PySem.W.nsIn K mainGlobals "law" = some (some (.ref f_law)))
    (l_law : K.lookup f_law = some ⟨oc_law, od_law, .func (PySem.W.fnOf "law" "law" (defArgs s_law) (defBody s_law) (defScope s_law) .none kV_law dc_law pm_law an_law cd_law ct_law), sl_law⟩)
    (c_law : PySem.W.codeIn K cd_law "law" = true)
    (k_law : PySem.W.keepIn K (.ref f_law) = true)
    (a_Filled___init__ : PySem.W.findIn K (.ref C_Filled) "__init__" = some (some (.ref f_Filled___init__)))
    (l_Filled___init__ : K.lookup f_Filled___init__ = some ⟨oc_Filled___init__, od_Filled___init__, .func (PySem.W.fnOf "__init__" "Filled.__init__" (defArgs s_Filled___init__) (defBody s_Filled___init__) (defScope s_Filled___init__) .none kV_Filled___init__ dc_Filled___init__ pm_Filled___init__ an_Filled___init__ cd_Filled___init__ ct_Filled___init__), sl_Filled___init__⟩)
    (c_Filled___init__ : PySem.W.codeIn K cd_Filled___init__ "Filled.__init__" = true)
    (k_Filled___init__ : PySem.W.keepIn K (.ref f_Filled___init__) = true)
    (i_Filled___init__ : PySem.W.isFn K (.ref f_Filled___init__) = true)
    (a_Early___init__ : PySem.W.findIn K (.ref C_Early) "__init__" = some (some (.ref f_Early___init__)))
    (l_Early___init__ : K.lookup f_Early___init__ = some ⟨oc_Early___init__, od_Early___init__, .func (PySem.W.fnOf "__init__" "Early.__init__" (defArgs s_Early___init__) (defBody s_Early___init__) (defScope s_Early___init__) .none kV_Early___init__ dc_Early___init__ pm_Early___init__ an_Early___init__ cd_Early___init__ ct_Early___init__), sl_Early___init__⟩)
    (c_Early___init__ : PySem.W.codeIn K cd_Early___init__ "Early.__init__" = true)
    (k_Early___init__ : PySem.W.keepIn K (.ref f_Early___init__) = true)
    (i_Early___init__ : PySem.W.isFn K (.ref f_Early___init__) = true)
    (a_Late___init__ : PySem.W.findIn K (.ref C_Late) "__init__" = some (some (.ref f_Late___init__)))
    (l_Late___init__ : K.lookup f_Late___init__ = some ⟨oc_Late___init__, od_Late___init__, .func (PySem.W.fnOf "__init__" "Late.__init__" (defArgs s_Late___init__) (defBody s_Late___init__) (defScope s_Late___init__) .none kV_Late___init__ dc_Late___init__ pm_Late___init__ an_Late___init__ cd_Late___init__ ct_Late___init__), sl_Late___init__⟩)
    (c_Late___init__ : PySem.W.codeIn K cd_Late___init__ "Late.__init__" = true)
    (k_Late___init__ : PySem.W.keepIn K (.ref f_Late___init__) = true)
    (i_Late___init__ : PySem.W.isFn K (.ref f_Late___init__) = true)
    (a_Filled_shows : PySem.W.findIn K (.ref C_Filled) "shows" = some (some (.ref f_Filled_shows)))
    (l_Filled_shows : K.lookup f_Filled_shows = some ⟨oc_Filled_shows, od_Filled_shows, .func (PySem.W.fnOf "shows" "Filled.shows" (defArgs s_Filled_shows) (defBody s_Filled_shows) (defScope s_Filled_shows) .none kV_Filled_shows dc_Filled_shows pm_Filled_shows an_Filled_shows cd_Filled_shows ct_Filled_shows), sl_Filled_shows⟩)
    (c_Filled_shows : PySem.W.codeIn K cd_Filled_shows "Filled.shows" = true)
    (k_Filled_shows : PySem.W.keepIn K (.ref f_Filled_shows) = true)
    (i_Filled_shows : PySem.W.isFn K (.ref f_Filled_shows) = true)
    (a_Uneven_shows : PySem.W.findIn K (.ref C_Uneven) "shows" = some (some (.ref f_Uneven_shows)))
    (l_Uneven_shows : K.lookup f_Uneven_shows = some ⟨oc_Uneven_shows, od_Uneven_shows, .func (PySem.W.fnOf "shows" "Uneven.shows" (defArgs s_Uneven_shows) (defBody s_Uneven_shows) (defScope s_Uneven_shows) .none kV_Uneven_shows dc_Uneven_shows pm_Uneven_shows an_Uneven_shows cd_Uneven_shows ct_Uneven_shows), sl_Uneven_shows⟩)
    (c_Uneven_shows : PySem.W.codeIn K cd_Uneven_shows "Uneven.shows" = true)
    (k_Uneven_shows : PySem.W.keepIn K (.ref f_Uneven_shows) = true)
    (i_Uneven_shows : PySem.W.isFn K (.ref f_Uneven_shows) = true)
    (a_Early_shows : PySem.W.findIn K (.ref C_Early) "shows" = some (some (.ref f_Early_shows)))
    (l_Early_shows : K.lookup f_Early_shows = some ⟨oc_Early_shows, od_Early_shows, .func (PySem.W.fnOf "shows" "Early.shows" (defArgs s_Early_shows) (defBody s_Early_shows) (defScope s_Early_shows) .none kV_Early_shows dc_Early_shows pm_Early_shows an_Early_shows cd_Early_shows ct_Early_shows), sl_Early_shows⟩)
    (c_Early_shows : PySem.W.codeIn K cd_Early_shows "Early.shows" = true)
    (k_Early_shows : PySem.W.keepIn K (.ref f_Early_shows) = true)
    (i_Early_shows : PySem.W.isFn K (.ref f_Early_shows) = true)
    (a_Late_shows : PySem.W.findIn K (.ref C_Late) "shows" = some (some (.ref f_Late_shows)))
    (l_Late_shows : K.lookup f_Late_shows = some ⟨oc_Late_shows, od_Late_shows, .func (PySem.W.fnOf "shows" "Late.shows" (defArgs s_Late_shows) (defBody s_Late_shows) (defScope s_Late_shows) .none kV_Late_shows dc_Late_shows pm_Late_shows an_Late_shows cd_Late_shows ct_Late_shows), sl_Late_shows⟩)
    (c_Late_shows : PySem.W.codeIn K cd_Late_shows "Late.shows" = true)
    (k_Late_shows : PySem.W.keepIn K (.ref f_Late_shows) = true)
    (i_Late_shows : PySem.W.isFn K (.ref f_Late_shows) = true)
    (oc_gt : PySem.W.specialIn K (.builtin "object.__class__") "__get__" = some (some (.builtin "getset_descriptor.__get__")))
    (oc_tk : PySem.W.takesIn K (.builtin "object.__class__") = some true)
    (pg_Answer : PySem.W.plainGet K C_Answer Str.empty = true)
    (hd_Answer : PySem.W.hasDictIn K C_Answer = true)
    (po_Answer : PySem.W.plainOver K C_Answer = true)
    (sa_Answer : PySem.W.findIn K (.ref C_Answer) "__setattr__" = some (some (.builtin "object.__setattr__")))
    (ca_Answer : PySem.W.findIn K (.ref C_Answer) "__class__" = some (some (.builtin "object.__class__")))
    (mo_Answer : PySem.W.mroIn K C_Answer (.type "object") = some true)
    (no_Answer_text : PySem.W.findIn K (.ref C_Answer) "text" = some none)
    (no_Answer_many : PySem.W.findIn K (.ref C_Answer) "many" = some none)
    (no_Answer_levels : PySem.W.findIn K (.ref C_Answer) "levels" = some none)
    (pg_Filled : PySem.W.plainGet K C_Filled Str.empty = true)
    (hd_Filled : PySem.W.hasDictIn K C_Filled = true)
    (po_Filled : PySem.W.plainOver K C_Filled = true)
    (sa_Filled : PySem.W.findIn K (.ref C_Filled) "__setattr__" = some (some (.builtin "object.__setattr__")))
    (ca_Filled : PySem.W.findIn K (.ref C_Filled) "__class__" = some (some (.builtin "object.__class__")))
    (mo_Filled : PySem.W.mroIn K C_Filled (.type "object") = some true)
    (no_Filled_text : PySem.W.findIn K (.ref C_Filled) "text" = some none)
    (no_Filled_many : PySem.W.findIn K (.ref C_Filled) "many" = some none)
    (no_Filled_levels : PySem.W.findIn K (.ref C_Filled) "levels" = some none)
    (pg_Uneven : PySem.W.plainGet K C_Uneven Str.empty = true)
    (hd_Uneven : PySem.W.hasDictIn K C_Uneven = true)
    (po_Uneven : PySem.W.plainOver K C_Uneven = true)
    (sa_Uneven : PySem.W.findIn K (.ref C_Uneven) "__setattr__" = some (some (.builtin "object.__setattr__")))
    (ca_Uneven : PySem.W.findIn K (.ref C_Uneven) "__class__" = some (some (.builtin "object.__class__")))
    (mo_Uneven : PySem.W.mroIn K C_Uneven (.type "object") = some true)
    (no_Uneven_text : PySem.W.findIn K (.ref C_Uneven) "text" = some none)
    (no_Uneven_many : PySem.W.findIn K (.ref C_Uneven) "many" = some none)
    (no_Uneven_levels : PySem.W.findIn K (.ref C_Uneven) "levels" = some none)
    (pg_Early : PySem.W.plainGet K C_Early Str.empty = true)
    (hd_Early : PySem.W.hasDictIn K C_Early = true)
    (po_Early : PySem.W.plainOver K C_Early = true)
    (sa_Early : PySem.W.findIn K (.ref C_Early) "__setattr__" = some (some (.builtin "object.__setattr__")))
    (ca_Early : PySem.W.findIn K (.ref C_Early) "__class__" = some (some (.builtin "object.__class__")))
    (mo_Early : PySem.W.mroIn K C_Early (.type "object") = some true)
    (no_Early_text : PySem.W.findIn K (.ref C_Early) "text" = some none)
    (no_Early_many : PySem.W.findIn K (.ref C_Early) "many" = some none)
    (no_Early_levels : PySem.W.findIn K (.ref C_Early) "levels" = some none)
    (pg_Late : PySem.W.plainGet K C_Late Str.empty = true)
    (hd_Late : PySem.W.hasDictIn K C_Late = true)
    (po_Late : PySem.W.plainOver K C_Late = true)
    (sa_Late : PySem.W.findIn K (.ref C_Late) "__setattr__" = some (some (.builtin "object.__setattr__")))
    (ca_Late : PySem.W.findIn K (.ref C_Late) "__class__" = some (some (.builtin "object.__class__")))
    (mo_Late : PySem.W.mroIn K C_Late (.type "object") = some true)
    (no_Late_text : PySem.W.findIn K (.ref C_Late) "text" = some none)
    (no_Late_many : PySem.W.findIn K (.ref C_Late) "many" = some none)
    (no_Late_levels : PySem.W.findIn K (.ref C_Late) "levels" = some none)
    (pg_Cheapest : PySem.W.plainGet K C_Cheapest Str.empty = true)
    (hd_Cheapest : PySem.W.hasDictIn K C_Cheapest = true)
    (po_Cheapest : PySem.W.plainOver K C_Cheapest = true)
    (sa_Cheapest : PySem.W.findIn K (.ref C_Cheapest) "__setattr__" = some (some (.builtin "object.__setattr__")))
    (ca_Cheapest : PySem.W.findIn K (.ref C_Cheapest) "__class__" = some (some (.builtin "object.__class__")))
    (mo_Cheapest : PySem.W.mroIn K C_Cheapest (.type "object") = some true)
    (no_Cheapest_text : PySem.W.findIn K (.ref C_Cheapest) "text" = some none)
    (no_Cheapest_many : PySem.W.findIn K (.ref C_Cheapest) "many" = some none)
    (no_Cheapest_levels : PySem.W.findIn K (.ref C_Cheapest) "levels" = some none)
    (mk_Filled : PySem.W.makesIn K C_Filled = true)
    (kp_Filled : PySem.W.keepIn K (.ref C_Filled) = true)
    (mk_Early : PySem.W.makesIn K C_Early = true)
    (kp_Early : PySem.W.keepIn K (.ref C_Early) = true)
    (mk_Late : PySem.W.makesIn K C_Late = true)
    (kp_Late : PySem.W.keepIn K (.ref C_Late) = true)
    (mk_Uneven : PySem.W.makesIn K C_Uneven = true)
    (kp_Uneven : PySem.W.keepIn K (.ref C_Uneven) = true)
    (in_Uneven : PySem.W.findIn K (.ref C_Uneven) "__init__" = some (some (.builtin "object.__init__")))
    (x_BadRow : XC K C_BadRow)
    (kt_Filled_Filled : PySem.W.kitOne K (.ref C_Filled) (.ref C_Filled) = some true)
    (kt_Filled_Uneven : PySem.W.kitOne K (.ref C_Filled) (.ref C_Uneven) = some false)
    (kt_Filled_Early : PySem.W.kitOne K (.ref C_Filled) (.ref C_Early) = some false)
    (kt_Filled_Late : PySem.W.kitOne K (.ref C_Filled) (.ref C_Late) = some false)
    (kt_Filled_Answer : PySem.W.kitOne K (.ref C_Filled) (.ref C_Answer) = some true)
    (kt_Filled_Cheapest : PySem.W.kitOne K (.ref C_Filled) (.ref C_Cheapest) = some false)
    (kt_Uneven_Filled : PySem.W.kitOne K (.ref C_Uneven) (.ref C_Filled) = some false)
    (kt_Uneven_Uneven : PySem.W.kitOne K (.ref C_Uneven) (.ref C_Uneven) = some true)
    (kt_Uneven_Early : PySem.W.kitOne K (.ref C_Uneven) (.ref C_Early) = some false)
    (kt_Uneven_Late : PySem.W.kitOne K (.ref C_Uneven) (.ref C_Late) = some false)
    (kt_Uneven_Answer : PySem.W.kitOne K (.ref C_Uneven) (.ref C_Answer) = some true)
    (kt_Uneven_Cheapest : PySem.W.kitOne K (.ref C_Uneven) (.ref C_Cheapest) = some false)
    (kt_Early_Filled : PySem.W.kitOne K (.ref C_Early) (.ref C_Filled) = some false)
    (kt_Early_Uneven : PySem.W.kitOne K (.ref C_Early) (.ref C_Uneven) = some false)
    (kt_Early_Early : PySem.W.kitOne K (.ref C_Early) (.ref C_Early) = some true)
    (kt_Early_Late : PySem.W.kitOne K (.ref C_Early) (.ref C_Late) = some false)
    (kt_Early_Answer : PySem.W.kitOne K (.ref C_Early) (.ref C_Answer) = some true)
    (kt_Early_Cheapest : PySem.W.kitOne K (.ref C_Early) (.ref C_Cheapest) = some false)
    (kt_Late_Filled : PySem.W.kitOne K (.ref C_Late) (.ref C_Filled) = some false)
    (kt_Late_Uneven : PySem.W.kitOne K (.ref C_Late) (.ref C_Uneven) = some false)
    (kt_Late_Early : PySem.W.kitOne K (.ref C_Late) (.ref C_Early) = some false)
    (kt_Late_Late : PySem.W.kitOne K (.ref C_Late) (.ref C_Late) = some true)
    (kt_Late_Answer : PySem.W.kitOne K (.ref C_Late) (.ref C_Answer) = some true)
    (kt_Late_Cheapest : PySem.W.kitOne K (.ref C_Late) (.ref C_Cheapest) = some false)
    (z_isinstance : PySem.W.nsIn K mainGlobals "isinstance" = some none)
    (z_str : PySem.W.nsIn K mainGlobals "str" = some none)
    (z_all : PySem.W.nsIn K mainGlobals "all" = some none)
    (z_any : PySem.W.nsIn K mainGlobals "any" = some none)
    (z_min : PySem.W.nsIn K mainGlobals "min" = some none)
    (z_max : PySem.W.nsIn K mainGlobals "max" = some none)
    (z_len : PySem.W.nsIn K mainGlobals "len" = some none)
    (z_enumerate : PySem.W.nsIn K mainGlobals "enumerate" = some none)
    (z_sum : PySem.W.nsIn K mainGlobals "sum" = some none)
    (z_range : PySem.W.nsIn K mainGlobals "range" = some none)
    (z_list : PySem.W.nsIn K mainGlobals "list" = some none)
    (z_bool : PySem.W.nsIn K mainGlobals "bool" = some none)
    (z_int : PySem.W.nsIn K mainGlobals "int" = some none)
    (z_tuple : PySem.W.nsIn K mainGlobals "tuple" = some none)
    (z_zip : PySem.W.nsIn K mainGlobals "zip" = some none)
    (z_set : PySem.W.nsIn K mainGlobals "set" = some none)
    (z_sorted : PySem.W.nsIn K mainGlobals "sorted" = some none)
    (z_ValueError : PySem.W.nsIn K mainGlobals "ValueError" = some none)
    : ∃ fd : FuncData, (∀ (s : Shared) (v : Value), BindsTo s fd ⟨[v], []⟩ [("_law_script", v)]) ∧ ∀ base : Heap, K.In base → base.Ns mainGlobals mg → FnOk l.prog w K mg base CX0 5 fa fd ["_law_script"] (sp_law K) := by
  have e := hfa.symm.trans (PySem.W.mg_of X G a_law)
  cases e
  have D_is_row : Def K mg "is_row" s_is_row f_is_row ["value"] := ⟨⟨_, fun_mk (st := s_is_row) l_is_row c_is_row k_is_row, (fun_mk (st := s_is_row) l_is_row c_is_row k_is_row).binds (ps := ["value"]) fun _ _ _ _ _ _ us hl => by obtain ⟨u0, rfl⟩ := us1 hl; rfl⟩, PySem.W.mg_of X G a_is_row⟩
  have D_check_row : Def K mg "check_row" s_check_row f_check_row ["row"] := ⟨⟨_, fun_mk (st := s_check_row) l_check_row c_check_row k_check_row, (fun_mk (st := s_check_row) l_check_row c_check_row k_check_row).binds (ps := ["row"]) fun _ _ _ _ _ _ us hl => by obtain ⟨u0, rfl⟩ := us1 hl; rfl⟩, PySem.W.mg_of X G a_check_row⟩
  have D_running_depths : Def K mg "running_depths" s_running_depths f_running_depths ["text"] := ⟨⟨_, fun_mk (st := s_running_depths) l_running_depths c_running_depths k_running_depths, (fun_mk (st := s_running_depths) l_running_depths c_running_depths k_running_depths).binds (ps := ["text"]) fun _ _ _ _ _ _ us hl => by obtain ⟨u0, rfl⟩ := us1 hl; rfl⟩, PySem.W.mg_of X G a_running_depths⟩
  have D_is_closed : Def K mg "is_closed" s_is_closed f_is_closed ["row"] := ⟨⟨_, fun_mk (st := s_is_closed) l_is_closed c_is_closed k_is_closed, (fun_mk (st := s_is_closed) l_is_closed c_is_closed k_is_closed).binds (ps := ["row"]) fun _ _ _ _ _ _ us hl => by obtain ⟨u0, rfl⟩ := us1 hl; rfl⟩, PySem.W.mg_of X G a_is_closed⟩
  have D_is_filling : Def K mg "is_filling" s_is_filling f_is_filling ["row", "text"] := ⟨⟨_, fun_mk (st := s_is_filling) l_is_filling c_is_filling k_is_filling, (fun_mk (st := s_is_filling) l_is_filling c_is_filling k_is_filling).binds (ps := ["row", "text"]) fun _ _ _ _ _ _ us hl => by obtain ⟨u0, u1, rfl⟩ := us2 hl; rfl⟩, PySem.W.mg_of X G a_is_filling⟩
  have D_overfull : Def K mg "overfull" s_overfull f_overfull ["row", "sign"] := ⟨⟨_, fun_mk (st := s_overfull) l_overfull c_overfull k_overfull, (fun_mk (st := s_overfull) l_overfull c_overfull k_overfull).binds (ps := ["row", "sign"]) fun _ _ _ _ _ _ us hl => by obtain ⟨u0, u1, rfl⟩ := us2 hl; rfl⟩, PySem.W.mg_of X G a_overfull⟩
  have D_what_bars : Def K mg "what_bars" s_what_bars f_what_bars ["row"] := ⟨⟨_, fun_mk (st := s_what_bars) l_what_bars c_what_bars k_what_bars, (fun_mk (st := s_what_bars) l_what_bars c_what_bars k_what_bars).binds (ps := ["row"]) fun _ _ _ _ _ _ us hl => by obtain ⟨u0, rfl⟩ := us1 hl; rfl⟩, PySem.W.mg_of X G a_what_bars⟩
  have D_opened_early : Def K mg "opened_early" s_opened_early f_opened_early ["row"] := ⟨⟨_, fun_mk (st := s_opened_early) l_opened_early c_opened_early k_opened_early, (fun_mk (st := s_opened_early) l_opened_early c_opened_early k_opened_early).binds (ps := ["row"]) fun _ _ _ _ _ _ us hl => by obtain ⟨u0, rfl⟩ := us1 hl; rfl⟩, PySem.W.mg_of X G a_opened_early⟩
  have D_filled : Def K mg "filled" s_filled f_filled ["row"] := ⟨⟨_, fun_mk (st := s_filled) l_filled c_filled k_filled, (fun_mk (st := s_filled) l_filled c_filled k_filled).binds (ps := ["row"]) fun _ _ _ _ _ _ us hl => by obtain ⟨u0, rfl⟩ := us1 hl; rfl⟩, PySem.W.mg_of X G a_filled⟩
  have D__law_row : Def K mg "_law_row" s__law_row f__law_row ["_law_script"] := ⟨⟨_, fun_mk (st := s__law_row) l__law_row c__law_row k__law_row, (fun_mk (st := s__law_row) l__law_row c__law_row k__law_row).binds (ps := ["_law_script"]) fun _ _ _ _ _ _ us hl => by obtain ⟨u0, rfl⟩ := us1 hl; rfl⟩, PySem.W.mg_of X G a__law_row⟩
  have D__law_closed : Def K mg "_law_closed" s__law_closed f__law_closed ["_law_text"] := ⟨⟨_, fun_mk (st := s__law_closed) l__law_closed c__law_closed k__law_closed, (fun_mk (st := s__law_closed) l__law_closed c__law_closed k__law_closed).binds (ps := ["_law_text"]) fun _ _ _ _ _ _ us hl => by obtain ⟨u0, rfl⟩ := us1 hl; rfl⟩, PySem.W.mg_of X G a__law_closed⟩
  have D__law_filling : Def K mg "_law_filling" s__law_filling f__law_filling ["_law_row_here", "_law_text"] := ⟨⟨_, fun_mk (st := s__law_filling) l__law_filling c__law_filling k__law_filling, (fun_mk (st := s__law_filling) l__law_filling c__law_filling k__law_filling).binds (ps := ["_law_row_here", "_law_text"]) fun _ _ _ _ _ _ us hl => by obtain ⟨u0, u1, rfl⟩ := us2 hl; rfl⟩, PySem.W.mg_of X G a__law_filling⟩
  have D__law_due : Def K mg "_law_due" s__law_due f__law_due ["_law_row_here", "_law_found"] := ⟨⟨_, fun_mk (st := s__law_due) l__law_due c__law_due k__law_due, (fun_mk (st := s__law_due) l__law_due c__law_due k__law_due).binds (ps := ["_law_row_here", "_law_found"]) fun _ _ _ _ _ _ us hl => by obtain ⟨u0, u1, rfl⟩ := us2 hl; rfl⟩, PySem.W.mg_of X G a__law_due⟩
  have F_law := fun_mk (st := s_law) l_law c_law k_law
  have D_Filled___init__ : DefM K C_Filled "__init__" "Filled.__init__" s_Filled___init__ ["self", "text"] := ⟨f_Filled___init__, _, fun_mk (st := s_Filled___init__) l_Filled___init__ c_Filled___init__ k_Filled___init__, (fun_mk (st := s_Filled___init__) l_Filled___init__ c_Filled___init__ k_Filled___init__).binds (ps := ["self", "text"]) fun _ _ _ _ _ _ us hl => by obtain ⟨u0, u1, rfl⟩ := us2 hl; rfl, a_Filled___init__, i_Filled___init__⟩
  have D_Early___init__ : DefM K C_Early "__init__" "Early.__init__" s_Early___init__ ["self", "many"] := ⟨f_Early___init__, _, fun_mk (st := s_Early___init__) l_Early___init__ c_Early___init__ k_Early___init__, (fun_mk (st := s_Early___init__) l_Early___init__ c_Early___init__ k_Early___init__).binds (ps := ["self", "many"]) fun _ _ _ _ _ _ us hl => by obtain ⟨u0, u1, rfl⟩ := us2 hl; rfl, a_Early___init__, i_Early___init__⟩
  have D_Late___init__ : DefM K C_Late "__init__" "Late.__init__" s_Late___init__ ["self", "many"] := ⟨f_Late___init__, _, fun_mk (st := s_Late___init__) l_Late___init__ c_Late___init__ k_Late___init__, (fun_mk (st := s_Late___init__) l_Late___init__ c_Late___init__ k_Late___init__).binds (ps := ["self", "many"]) fun _ _ _ _ _ _ us hl => by obtain ⟨u0, u1, rfl⟩ := us2 hl; rfl, a_Late___init__, i_Late___init__⟩
  have D_Filled_shows : DefM K C_Filled "shows" "Filled.shows" s_Filled_shows ["self", "row"] := ⟨f_Filled_shows, _, fun_mk (st := s_Filled_shows) l_Filled_shows c_Filled_shows k_Filled_shows, (fun_mk (st := s_Filled_shows) l_Filled_shows c_Filled_shows k_Filled_shows).binds (ps := ["self", "row"]) fun _ _ _ _ _ _ us hl => by obtain ⟨u0, u1, rfl⟩ := us2 hl; rfl, a_Filled_shows, i_Filled_shows⟩
  have D_Uneven_shows : DefM K C_Uneven "shows" "Uneven.shows" s_Uneven_shows ["self", "row"] := ⟨f_Uneven_shows, _, fun_mk (st := s_Uneven_shows) l_Uneven_shows c_Uneven_shows k_Uneven_shows, (fun_mk (st := s_Uneven_shows) l_Uneven_shows c_Uneven_shows k_Uneven_shows).binds (ps := ["self", "row"]) fun _ _ _ _ _ _ us hl => by obtain ⟨u0, u1, rfl⟩ := us2 hl; rfl, a_Uneven_shows, i_Uneven_shows⟩
  have D_Early_shows : DefM K C_Early "shows" "Early.shows" s_Early_shows ["self", "row"] := ⟨f_Early_shows, _, fun_mk (st := s_Early_shows) l_Early_shows c_Early_shows k_Early_shows, (fun_mk (st := s_Early_shows) l_Early_shows c_Early_shows k_Early_shows).binds (ps := ["self", "row"]) fun _ _ _ _ _ _ us hl => by obtain ⟨u0, u1, rfl⟩ := us2 hl; rfl, a_Early_shows, i_Early_shows⟩
  have D_Late_shows : DefM K C_Late "shows" "Late.shows" s_Late_shows ["self", "row"] := ⟨f_Late_shows, _, fun_mk (st := s_Late_shows) l_Late_shows c_Late_shows k_Late_shows, (fun_mk (st := s_Late_shows) l_Late_shows c_Late_shows k_Late_shows).binds (ps := ["self", "row"]) fun _ _ _ _ _ _ us hl => by obtain ⟨u0, u1, rfl⟩ := us2 hl; rfl, a_Late_shows, i_Late_shows⟩
  have O_Answer : ObjC K mg "Answer" C_Answer := ⟨⟨⟨pg_Answer, hd_Answer, po_Answer, sa_Answer⟩, ca_Answer, oc_gt, oc_tk, mo_Answer⟩, PySem.W.mg_of X G n_Answer, no_Answer_text, no_Answer_many, no_Answer_levels⟩
  have O_Filled : ObjC K mg "Filled" C_Filled := ⟨⟨⟨pg_Filled, hd_Filled, po_Filled, sa_Filled⟩, ca_Filled, oc_gt, oc_tk, mo_Filled⟩, PySem.W.mg_of X G n_Filled, no_Filled_text, no_Filled_many, no_Filled_levels⟩
  have O_Uneven : ObjC K mg "Uneven" C_Uneven := ⟨⟨⟨pg_Uneven, hd_Uneven, po_Uneven, sa_Uneven⟩, ca_Uneven, oc_gt, oc_tk, mo_Uneven⟩, PySem.W.mg_of X G n_Uneven, no_Uneven_text, no_Uneven_many, no_Uneven_levels⟩
  have O_Early : ObjC K mg "Early" C_Early := ⟨⟨⟨pg_Early, hd_Early, po_Early, sa_Early⟩, ca_Early, oc_gt, oc_tk, mo_Early⟩, PySem.W.mg_of X G n_Early, no_Early_text, no_Early_many, no_Early_levels⟩
  have O_Late : ObjC K mg "Late" C_Late := ⟨⟨⟨pg_Late, hd_Late, po_Late, sa_Late⟩, ca_Late, oc_gt, oc_tk, mo_Late⟩, PySem.W.mg_of X G n_Late, no_Late_text, no_Late_many, no_Late_levels⟩
  have O_Cheapest : ObjC K mg "Cheapest" C_Cheapest := ⟨⟨⟨pg_Cheapest, hd_Cheapest, po_Cheapest, sa_Cheapest⟩, ca_Cheapest, oc_gt, oc_tk, mo_Cheapest⟩, PySem.W.mg_of X G n_Cheapest, no_Cheapest_text, no_Cheapest_many, no_Cheapest_levels⟩
  have M_Uneven : Mk0 K C_Uneven := ⟨mk_Uneven, in_Uneven, mo_Uneven, kp_Uneven⟩
  have X_BadRow : ExcC K mg "BadRow" C_BadRow := ⟨x_BadRow, PySem.W.mg_of X G n_BadRow⟩
  have m_BadRow := PySem.W.mg_of X G n_BadRow
  have B : Bl mg := ⟨PySem.W.mg_none_of X G z_isinstance, PySem.W.mg_none_of X G z_str, PySem.W.mg_none_of X G z_all, PySem.W.mg_none_of X G z_any, PySem.W.mg_none_of X G z_min, PySem.W.mg_none_of X G z_max, PySem.W.mg_none_of X G z_len, PySem.W.mg_none_of X G z_enumerate, PySem.W.mg_none_of X G z_sum, PySem.W.mg_none_of X G z_range, PySem.W.mg_none_of X G z_list, PySem.W.mg_none_of X G z_bool, PySem.W.mg_none_of X G z_int, PySem.W.mg_none_of X G z_tuple, PySem.W.mg_none_of X G z_zip, PySem.W.mg_none_of X G z_set, PySem.W.mg_none_of X G z_sorted, PySem.W.mg_none_of X G z_ValueError⟩
  refine ⟨PySem.W.fnOf "law" "law" (defArgs s_law) (defBody s_law) (defScope s_law) .none kV_law dc_law pm_law an_law cd_law ct_law, fun s v => .of_eq rfl, fun base _ _ => ?_⟩
  have KA : KitA K C_Filled C_Uneven C_Early C_Late C_Answer C_Cheapest := ⟨kt_Filled_Filled, kt_Filled_Uneven, kt_Filled_Early, kt_Filled_Late, kt_Filled_Answer, kt_Filled_Cheapest, kt_Uneven_Filled, kt_Uneven_Uneven, kt_Uneven_Early, kt_Uneven_Late, kt_Uneven_Answer, kt_Uneven_Cheapest, kt_Early_Filled, kt_Early_Uneven, kt_Early_Early, kt_Early_Late, kt_Early_Answer, kt_Early_Cheapest, kt_Late_Filled, kt_Late_Uneven, kt_Late_Early, kt_Late_Late, kt_Late_Answer, kt_Late_Cheapest⟩
  have G_is_row := ok_is_row (P := l.prog) (w := w) (base := base) D_is_row B
  have G_check_row := ok_check_row D_check_row X_BadRow G_is_row
  have G_running_depths := ok_running_depths (P := l.prog) (w := w) (base := base) D_running_depths
  have G_is_closed := ok_is_closed D_is_closed B G_running_depths
  have G_is_filling := ok_is_filling D_is_filling B G_is_row G_is_closed
  have I_Filled := ok_Filled_init (P := l.prog) (w := w) (base := base) D_Filled___init__ O_Filled mk_Filled kp_Filled
  have I_Early := ok_Early_init (P := l.prog) (w := w) (base := base) D_Early___init__ O_Early mk_Early kp_Early
  have I_Late := ok_Late_init (P := l.prog) (w := w) (base := base) D_Late___init__ O_Late mk_Late kp_Late
  have G_overfull := ok_overfull (P := l.prog) (w := w) (base := base) D_overfull B
  have G_what_bars := ok_what_bars D_what_bars B O_Uneven M_Uneven I_Early I_Late G_overfull
  have G_opened_early := ok_opened_early (P := l.prog) (w := w) (base := base) D_opened_early B
  have G_filled := ok_filled D_filled B G_check_row G_what_bars.ok G_opened_early I_Filled
  have CM_Filled := ok_Filled_shows D_Filled_shows O_Filled G_is_filling
  have CM_Uneven := ok_Uneven_shows (P := l.prog) (w := w) (base := base) D_Uneven_shows B O_Uneven
  have CM_Early := ok_Early_shows (P := l.prog) (w := w) (base := base) D_Early_shows B O_Early
  have CM_Late := ok_Late_shows (P := l.prog) (w := w) (base := base) D_Late_shows B O_Late
  have G__law_row := ok__law_row (P := l.prog) (w := w) (base := base) D__law_row B
  have G__law_closed := ok__law_closed (P := l.prog) (w := w) (base := base) D__law_closed B
  have G__law_filling := ok__law_filling D__law_filling B G__law_closed
  have G__law_due := ok__law_due D__law_due B O_Filled O_Uneven O_Early O_Late KA G__law_filling
  exact ok_law F_law B O_Filled O_Uneven O_Early O_Late O_Answer O_Cheapest KA CM_Filled CM_Uneven CM_Early CM_Late G__law_row G__law_due G_filled
theorem walk {l : PySem.W.OpenLaw} {q : Program} {loose : List Str} {XP : (Str → Option Value) → Heap → Prop} {YP : World → Heap → Prop} {d : DefRec} {K : Params → PySem.W.Frag} (hn : l.most = some 63) (hdf : d.params.defaults = [])
    (hY : ∀ (w : World) (h : Heap), YP w h → (K w.params).In h)
    (F : ∀ (w : World) (mg : Str → Option Value) (fa : Addr) (h : Heap), (K w.params).In h → h.Ns mainGlobals mg → mg d.name = some (.ref fa) →
      ∃ fd : FuncData, (∀ (s : Shared) (u : Value), BindsTo s fd ⟨[u], []⟩ [("_law_script", u)]) ∧ ∀ base : Heap, (K w.params).In base → base.Ns mainGlobals mg → FnOk l.prog w (K w.params) mg base CX0 5 fa fd ["_law_script"] (sp_law (K w.params))) :
    PySem.W.WalkO q loose XP YP l.row.toRowW d [] (fun f vs => PySem.call f vs) :=
  L2.walk_of (n := 63) (k := 5) (x := "_law_script") (CX := fun _ => CX0) (sp := fun w => sp_law (K w.params)) hn (by decide) hdf ⟨rfl, by decide, by decide⟩ hY F (fun _ _ a ns hl _ hS => ⟨a, ns, rfl, hS, hl, fun _ => rfl⟩) fun _ _ _ _ _ z => z
end HF
set_option maxRecDepth 100000 in
set_option maxHeartbeats 0 in
theorem HZ.walked : HZ.cap.2.1 := by
  delta HZ.cap; dsimp only
  k_fill
  refine HF.walk (l := PySem.Challenge.rw_halftold_k01_whole_filled) rfl rfl (fun w h Y => PySem.W.kIn_of Y) ?F
  case F =>
    intro w mg fa h KX G hmg
    refine' HF.all_mk KX G hmg ?n_Answer ?n_Filled ?n_Uneven ?n_Early ?n_Late ?n_Cheapest ?n_BadRow ?a_is_row ?l_is_row ?c_is_row ?k_is_row ?a_check_row ?l_check_row ?c_check_row ?k_check_row ?a_running_depths ?l_running_depths ?c_running_depths ?k_running_depths ?a_is_closed ?l_is_closed ?c_is_closed ?k_is_closed ?a_is_filling ?l_is_filling ?c_is_filling ?k_is_filling ?a_overfull ?l_overfull ?c_overfull ?k_overfull ?a_what_bars ?l_what_bars ?c_what_bars ?k_what_bars ?a_opened_early ?l_opened_early ?c_opened_early ?k_opened_early ?a_filled ?l_filled ?c_filled ?k_filled ?a__law_row ?l__law_row ?c__law_row ?k__law_row ?a__law_closed ?l__law_closed ?c__law_closed ?k__law_closed ?a__law_filling ?l__law_filling ?c__law_filling ?k__law_filling ?a__law_due ?l__law_due ?c__law_due ?k__law_due ?a_law ?l_law ?c_law ?k_law ?a_Filled___init__ ?l_Filled___init__ ?c_Filled___init__ ?k_Filled___init__ ?i_Filled___init__ ?a_Early___init__ ?l_Early___init__ ?c_Early___init__ ?k_Early___init__ ?i_Early___init__ ?a_Late___init__ ?l_Late___init__ ?c_Late___init__ ?k_Late___init__ ?i_Late___init__ ?a_Filled_shows ?l_Filled_shows ?c_Filled_shows ?k_Filled_shows ?i_Filled_shows ?a_Uneven_shows ?l_Uneven_shows ?c_Uneven_shows ?k_Uneven_shows ?i_Uneven_shows ?a_Early_shows ?l_Early_shows ?c_Early_shows ?k_Early_shows ?i_Early_shows ?a_Late_shows ?l_Late_shows ?c_Late_shows ?k_Late_shows ?i_Late_shows ?oc_gt ?oc_tk ?pg_Answer ?hd_Answer ?po_Answer ?sa_Answer ?ca_Answer ?mo_Answer ?no_Answer_text ?no_Answer_many ?no_Answer_levels ?pg_Filled ?hd_Filled ?po_Filled ?sa_Filled ?ca_Filled ?mo_Filled ?no_Filled_text ?no_Filled_many ?no_Filled_levels ?pg_Uneven ?hd_Uneven ?po_Uneven ?sa_Uneven ?ca_Uneven ?mo_Uneven ?no_Uneven_text ?no_Uneven_many ?no_Uneven_levels ?pg_Early ?hd_Early ?po_Early ?sa_Early ?ca_Early ?mo_Early ?no_Early_text ?no_Early_many ?no_Early_levels ?pg_Late ?hd_Late ?po_Late ?sa_Late ?ca_Late ?mo_Late ?no_Late_text ?no_Late_many ?no_Late_levels ?pg_Cheapest ?hd_Cheapest ?po_Cheapest ?sa_Cheapest ?ca_Cheapest ?mo_Cheapest ?no_Cheapest_text ?no_Cheapest_many ?no_Cheapest_levels ?mk_Filled ?kp_Filled ?mk_Early ?kp_Early ?mk_Late ?kp_Late ?mk_Uneven ?kp_Uneven ?in_Uneven ?x_BadRow ?kt_Filled_Filled ?kt_Filled_Uneven ?kt_Filled_Early ?kt_Filled_Late ?kt_Filled_Answer ?kt_Filled_Cheapest ?kt_Uneven_Filled ?kt_Uneven_Uneven ?kt_Uneven_Early ?kt_Uneven_Late ?kt_Uneven_Answer ?kt_Uneven_Cheapest ?kt_Early_Filled ?kt_Early_Uneven ?kt_Early_Early ?kt_Early_Late ?kt_Early_Answer ?kt_Early_Cheapest ?kt_Late_Filled ?kt_Late_Uneven ?kt_Late_Early ?kt_Late_Late ?kt_Late_Answer ?kt_Late_Cheapest ?z_isinstance ?z_str ?z_all ?z_any ?z_min ?z_max ?z_len ?z_enumerate ?z_sum ?z_range ?z_list ?z_bool ?z_int ?z_tuple ?z_zip ?z_set ?z_sorted ?z_ValueError
    (case n_Answer => k_is)
    (case n_Filled => k_is)
    (case n_Uneven => k_is)
    (case n_Early => k_is)
    (case n_Late => k_is)
    (case n_Cheapest => k_is)
    (case n_BadRow => k_is)
    (case a_is_row => k_is)
    (case l_is_row => k_is)
    (case c_is_row => k_is)
    (case k_is_row => k_is)
    (case a_check_row => k_is)
    (case l_check_row => k_is)
    (case c_check_row => k_is)
    (case k_check_row => k_is)
    (case a_running_depths => k_is)
    (case l_running_depths => k_is)
    (case c_running_depths => k_is)
    (case k_running_depths => k_is)
    (case a_is_closed => k_is)
    (case l_is_closed => k_is)
    (case c_is_closed => k_is)
    (case k_is_closed => k_is)
    (case a_is_filling => k_is)
    (case l_is_filling => k_is)
    (case c_is_filling => k_is)
    (case k_is_filling => k_is)
    (case a_overfull => k_is)
    (case l_overfull => k_is)
    (case c_overfull => k_is)
    (case k_overfull => k_is)
    (case a_what_bars => k_is)
    (case l_what_bars => k_is)
    (case c_what_bars => k_is)
    (case k_what_bars => k_is)
    (case a_opened_early => k_is)
    (case l_opened_early => k_is)
    (case c_opened_early => k_is)
    (case k_opened_early => k_is)
    (case a_filled => k_is)
    (case l_filled => k_is)
    (case c_filled => k_is)
    (case k_filled => k_is)
    (case a__law_row => k_is)
    (case l__law_row => k_is)
    (case c__law_row => k_is)
    (case k__law_row => k_is)
    (case a__law_closed => k_is)
    (case l__law_closed => k_is)
    (case c__law_closed => k_is)
    (case k__law_closed => k_is)
    (case a__law_filling => k_is)
    (case l__law_filling => k_is)
    (case c__law_filling => k_is)
    (case k__law_filling => k_is)
    (case a__law_due => k_is)
    (case l__law_due => k_is)
    (case c__law_due => k_is)
    (case k__law_due => k_is)
    (case a_law => k_is)
    (case l_law => k_is)
    (case c_law => k_is)
    (case k_law => k_is)
    (case a_Filled___init__ => k_is)
    (case l_Filled___init__ => k_is)
    (case c_Filled___init__ => k_is)
    (case k_Filled___init__ => k_is)
    (case i_Filled___init__ => k_is)
    (case a_Early___init__ => k_is)
    (case l_Early___init__ => k_is)
    (case c_Early___init__ => k_is)
    (case k_Early___init__ => k_is)
    (case i_Early___init__ => k_is)
    (case a_Late___init__ => k_is)
    (case l_Late___init__ => k_is)
    (case c_Late___init__ => k_is)
    (case k_Late___init__ => k_is)
    (case i_Late___init__ => k_is)
    (case a_Filled_shows => k_is)
    (case l_Filled_shows => k_is)
    (case c_Filled_shows => k_is)
    (case k_Filled_shows => k_is)
    (case i_Filled_shows => k_is)
    (case a_Uneven_shows => k_is)
    (case l_Uneven_shows => k_is)
    (case c_Uneven_shows => k_is)
    (case k_Uneven_shows => k_is)
    (case i_Uneven_shows => k_is)
    (case a_Early_shows => k_is)
    (case l_Early_shows => k_is)
    (case c_Early_shows => k_is)
    (case k_Early_shows => k_is)
    (case i_Early_shows => k_is)
    (case a_Late_shows => k_is)
    (case l_Late_shows => k_is)
    (case c_Late_shows => k_is)
    (case k_Late_shows => k_is)
    (case i_Late_shows => k_is)
    (case oc_gt => k_is)
    (case oc_tk => k_is)
    (case pg_Answer => k_is)
    (case hd_Answer => k_is)
    (case po_Answer => k_is)
    (case sa_Answer => k_is)
    (case ca_Answer => k_is)
    (case mo_Answer => k_is)
    (case no_Answer_text => k_is)
    (case no_Answer_many => k_is)
    (case no_Answer_levels => k_is)
    (case pg_Filled => k_is)
    (case hd_Filled => k_is)
    (case po_Filled => k_is)
    (case sa_Filled => k_is)
    (case ca_Filled => k_is)
    (case mo_Filled => k_is)
    (case no_Filled_text => k_is)
    (case no_Filled_many => k_is)
    (case no_Filled_levels => k_is)
    (case pg_Uneven => k_is)
    (case hd_Uneven => k_is)
    (case po_Uneven => k_is)
    (case sa_Uneven => k_is)
    (case ca_Uneven => k_is)
    (case mo_Uneven => k_is)
    (case no_Uneven_text => k_is)
    (case no_Uneven_many => k_is)
    (case no_Uneven_levels => k_is)
    (case pg_Early => k_is)
    (case hd_Early => k_is)
    (case po_Early => k_is)
    (case sa_Early => k_is)
    (case ca_Early => k_is)
    (case mo_Early => k_is)
    (case no_Early_text => k_is)
    (case no_Early_many => k_is)
    (case no_Early_levels => k_is)
    (case pg_Late => k_is)
    (case hd_Late => k_is)
    (case po_Late => k_is)
    (case sa_Late => k_is)
    (case ca_Late => k_is)
    (case mo_Late => k_is)
    (case no_Late_text => k_is)
    (case no_Late_many => k_is)
    (case no_Late_levels => k_is)
    (case pg_Cheapest => k_is)
    (case hd_Cheapest => k_is)
    (case po_Cheapest => k_is)
    (case sa_Cheapest => k_is)
    (case ca_Cheapest => k_is)
    (case mo_Cheapest => k_is)
    (case no_Cheapest_text => k_is)
    (case no_Cheapest_many => k_is)
    (case no_Cheapest_levels => k_is)
    (case mk_Filled => k_is)
    (case kp_Filled => k_is)
    (case mk_Early => k_is)
    (case kp_Early => k_is)
    (case mk_Late => k_is)
    (case kp_Late => k_is)
    (case mk_Uneven => k_is)
    (case kp_Uneven => k_is)
    (case in_Uneven => k_is)
    (case x_BadRow => (unfold L2.XC; k_exc))
    (case kt_Filled_Filled => kernel_rfl)
    (case kt_Filled_Uneven => kernel_rfl)
    (case kt_Filled_Early => kernel_rfl)
    (case kt_Filled_Late => kernel_rfl)
    (case kt_Filled_Answer => kernel_rfl)
    (case kt_Filled_Cheapest => kernel_rfl)
    (case kt_Uneven_Filled => kernel_rfl)
    (case kt_Uneven_Uneven => kernel_rfl)
    (case kt_Uneven_Early => kernel_rfl)
    (case kt_Uneven_Late => kernel_rfl)
    (case kt_Uneven_Answer => kernel_rfl)
    (case kt_Uneven_Cheapest => kernel_rfl)
    (case kt_Early_Filled => kernel_rfl)
    (case kt_Early_Uneven => kernel_rfl)
    (case kt_Early_Early => kernel_rfl)
    (case kt_Early_Late => kernel_rfl)
    (case kt_Early_Answer => kernel_rfl)
    (case kt_Early_Cheapest => kernel_rfl)
    (case kt_Late_Filled => kernel_rfl)
    (case kt_Late_Uneven => kernel_rfl)
    (case kt_Late_Early => kernel_rfl)
    (case kt_Late_Late => kernel_rfl)
    (case kt_Late_Answer => kernel_rfl)
    (case kt_Late_Cheapest => kernel_rfl)
    (case z_isinstance => k_is)
    (case z_str => k_is)
    (case z_all => k_is)
    (case z_any => k_is)
    (case z_min => k_is)
    (case z_max => k_is)
    (case z_len => k_is)
    (case z_enumerate => k_is)
    (case z_sum => k_is)
    (case z_range => k_is)
    (case z_list => k_is)
    (case z_bool => k_is)
    (case z_int => k_is)
    (case z_tuple => k_is)
    (case z_zip => k_is)
    (case z_set => k_is)
    (case z_sorted => k_is)
    (case z_ValueError => k_is)
theorem PySem.Challenge.cw_halftold_k01_whole_filled_holds : PySem.Challenge.rw_halftold_k01_whole_filled.Holds :=
  HZ.cap.2.2 HZ.left HZ.walked

