import PyProof.Rows.All
import Wide.All
import OpenK.AllK
import Wide.FinOn
import HandS.ForMost
import HandS.Wide
import HandS.Style
import HandS.IsInst
import HandS.SortInts
import HandS.Deep
import HandS.RaiseMore
import PySem.Challenge.RW_standinparts_k01_words_and_dates
set_option Elab.async false
set_option linter.all false
set_option maxRecDepth 100000
/-! EL: a small pure reading of the program's text. A value is a tree, an object a place in a list; each rule says that a piece of text does what a plain function does. -/
namespace EL
open PySem PySem.Spec L2
open PyProof.Rows hiding St

inductive W where
  | non | bl (b : Bool) | int (i : Int) | str (x : Str) | ref (i : Nat) | tup (xs : List W) | rol (xs : List W)
inductive O where
  | lst (xs : List W)
  | ins (C : Str) (fs : List (Str × W))
  | dK (kvs : List (Key × W))
abbrev Hw := List O
inductive R (α : Type) where
  | ok (a : α) (h : Hw)
  | ex (c : Str) (v : W) (h : Hw)
  | no
abbrev M (α : Type) := Hw → R α
def bnd {α β : Type} (m : M α) (f : α → M β) : M β := fun h => match m h with
  | .ok a h' => f a h'
  | .ex c v h' => .ex c v h'
  | .no => .no
def rtn {α : Type} (a : α) : M α := fun h => .ok a h
def bad {α : Type} : M α := fun _ => .no
theorem bnd_ok {α β : Type} {m : M α} {f : α → M β} {h h' : Hw} {b : β} (e : bnd m f h = .ok b h') : ∃ a h1, m h = .ok a h1 ∧ f a h1 = .ok b h' := by
  unfold bnd at e
  split at e
  · exact ⟨_, _, by assumption, e⟩
  · cases e
  · cases e
abbrev SW := List (Option W)
abbrev ME := SW → M W
abbrev MT := SW → M Bool
abbrev MA := SW → M (List W)
inductive Fl where
  | nx (s : SW) | rt (w : W) | bk (s : SW) | ct (s : SW)
abbrev MS := SW → M Fl
abbrev MG := W → SW → M SW

mutual
def W.beq : W → W → Bool
  | .non, .non => true
  | .bl a, .bl b => a == b
  | .int a, .int b => a == b
  | .str a, .str b => a == b
  | .ref a, .ref b => a == b
  | .tup a, .tup b => W.beqL a b
  | .rol a, .rol b => W.beqL a b
  | _, _ => false
def W.beqL : List W → List W → Bool
  | [], [] => true
  | x :: xs, y :: ys => W.beq x y && W.beqL xs ys
  | _, _ => false
end
mutual
theorem W.beq_eq : ∀ {a b : W}, W.beq a b = true → a = b
  | .non, b, h => by cases b <;> first | rfl | (simp [W.beq] at h)
  | .bl a, b, h => by cases b <;> simp [W.beq] at h; simp [h]
  | .int a, b, h => by cases b <;> simp [W.beq] at h; simp [h]
  | .str a, b, h => by cases b <;> simp [W.beq] at h; simp [h]
  | .ref a, b, h => by cases b <;> simp [W.beq] at h; simp [h]
  | .tup a, b, h => by
    cases b <;> simp [W.beq] at h
    rw [W.beqL_eq h]
  | .rol a, b, h => by
    cases b <;> simp [W.beq] at h
    rw [W.beqL_eq h]
theorem W.beqL_eq : ∀ {a b : List W}, W.beqL a b = true → a = b
  | [], b, h => by cases b <;> first | rfl | (simp [W.beqL] at h)
  | x :: xs, b, h => by
    cases b with
    | nil => simp [W.beqL] at h
    | cons y ys =>
      simp only [W.beqL, Bool.and_eq_true] at h
      rw [W.beq_eq h.1, W.beqL_eq h.2]
end
mutual
theorem W.beq_refl : ∀ a : W, W.beq a a = true
  | .non => rfl
  | .bl a => by simp [W.beq]
  | .int a => by simp [W.beq]
  | .str a => by simp [W.beq]
  | .ref a => by simp [W.beq]
  | .tup a => by simp only [W.beq]; exact W.beqL_refl a
  | .rol a => by simp only [W.beq]; exact W.beqL_refl a
theorem W.beqL_refl : ∀ a : List W, W.beqL a a = true
  | [] => rfl
  | x :: xs => by simp only [W.beqL, W.beq_refl x, W.beqL_refl xs, Bool.and_self]
end

/-! ### how a tree lies in the heap -/
/-- a list that never changes: frozen or written -/
def SqP (K : PySem.W.Frag) (H : Hp) (a : Addr) (xs : List V) : Prop :=
  (∃ o, H a = some (.frz o (.lst xs))) ∨
    ∃ (o : Obj) (its : Array Value) (n : Nat), K.lookup a = some o ∧ o.cls = .type "list" ∧ o.dict = none ∧ o.data = .seq its n ∧ its.size ≤ sizeLine ∧ Vals xs its.toList
theorem SqP.sq {K : PySem.W.Frag} {H : Hp} {a : Addr} {xs : List V} (h : SqP K H a xs) : SqL K H a xs := by
  rcases h with h | h
  · exact .inl (.inr h)
  · exact .inr h
mutual
inductive Rel (K : PySem.W.Frag) (ρ : List Addr) (H : Hp) : W → V → Prop where
  | non : Rel K ρ H .non .non
  | bl (b : Bool) : Rel K ρ H (.bl b) (.bl b)
  | int (i : Int) : Rel K ρ H (.int i) (.int i)
  | str (x : Str) : Rel K ρ H (.str x) (.str x)
  | ref {i : Nat} {a : Addr} (h : ρ[i]? = some a) : Rel K ρ H (.ref i) (.ref a)
  | tup {ws : List W} {vs : List V} {a : Addr} (h : SqT K H a vs) (r : Rels K ρ H ws vs) : Rel K ρ H (.tup ws) (.ref a)
  | rol {ws : List W} {vs : List V} {a : Addr} (h : SqP K H a vs) (r : Rels K ρ H ws vs) : Rel K ρ H (.rol ws) (.ref a)
inductive Rels (K : PySem.W.Frag) (ρ : List Addr) (H : Hp) : List W → List V → Prop where
  | nil : Rels K ρ H [] []
  | cons {w : W} {v : V} {ws : List W} {vs : List V} (r : Rel K ρ H w v) (t : Rels K ρ H ws vs) : Rels K ρ H (w :: ws) (v :: vs)
end
structure Le (K : PySem.W.Frag) (ρ : List Addr) (H : Hp) (ρ' : List Addr) (H' : Hp) : Prop where
  pre : ρ <+: ρ'
  sq : ∀ a vs, SqT K H a vs → SqT K H' a vs
  sl : ∀ a vs, SqP K H a vs → SqP K H' a vs
theorem pre_get {ρ ρ' : List Addr} (h : ρ <+: ρ') {i : Nat} {a : Addr} (e : ρ[i]? = some a) : ρ'[i]? = some a := by
  obtain ⟨t, rfl⟩ := h
  obtain ⟨hi, _⟩ := List.getElem?_eq_some_iff.mp e
  rw [List.getElem?_append_left hi]
  exact e
section
variable {K : PySem.W.Frag} {ρ ρ' ρ'' : List Addr} {H H' H'' : Hp}
theorem Le.refl : Le K ρ H ρ H := ⟨List.prefix_refl _, fun _ _ h => h, fun _ _ h => h⟩
theorem Le.trans (a : Le K ρ H ρ' H') (b : Le K ρ' H' ρ'' H'') : Le K ρ H ρ'' H'' :=
  ⟨a.pre.trans b.pre, fun x vs h => b.sq x vs (a.sq x vs h), fun x vs h => b.sl x vs (a.sl x vs h)⟩
mutual
theorem Rel.mono (l : Le K ρ H ρ' H') : ∀ {w : W} {v : V}, Rel K ρ H w v → Rel K ρ' H' w v
  | _, _, .non => .non
  | _, _, .bl b => .bl b
  | _, _, .int i => .int i
  | _, _, .str x => .str x
  | _, _, .ref h => .ref (pre_get l.pre h)
  | _, _, .tup h r => .tup (l.sq _ _ h) (Rels.mono l r)
  | _, _, .rol h r => .rol (l.sl _ _ h) (Rels.mono l r)
theorem Rels.mono (l : Le K ρ H ρ' H') : ∀ {ws : List W} {vs : List V}, Rels K ρ H ws vs → Rels K ρ' H' ws vs
  | _, _, .nil => .nil
  | _, _, .cons r t => .cons (Rel.mono l r) (Rels.mono l t)
end
theorem Rels.length : ∀ {ws : List W} {vs : List V}, Rels K ρ H ws vs → ws.length = vs.length
  | _, _, .nil => rfl
  | _, _, .cons _ t => by rw [List.length_cons, List.length_cons, Rels.length t]
theorem Rels.get : ∀ {ws : List W} {vs : List V} {i : Nat} {w : W}, Rels K ρ H ws vs → ws[i]? = some w → ∃ v, vs[i]? = some v ∧ Rel K ρ H w v
  | _, _, _, _, .nil, e => by simp at e
  | _, _, 0, _, .cons r _, e => by
    simp only [List.getElem?_cons_zero, Option.some.injEq] at e
    subst e
    exact ⟨_, rfl, r⟩
  | _, _, i + 1, w, .cons _ t, e => by
    obtain ⟨v, h1, h2⟩ := Rels.get (i := i) (w := w) t (by simpa using e)
    exact ⟨v, by simpa using h1, h2⟩
theorem Rels.append : ∀ {ws us : List W} {vs ts : List V}, Rels K ρ H ws vs → Rels K ρ H us ts → Rels K ρ H (ws ++ us) (vs ++ ts)
  | _, _, _, _, .nil, s => s
  | _, _, _, _, .cons r t, s => .cons r (Rels.append t s)
theorem Rels.take (n : Nat) : ∀ {ws : List W} {vs : List V}, Rels K ρ H ws vs → Rels K ρ H (ws.take n) (vs.take n) := by
  intro ws vs r
  induction n generalizing ws vs with
  | zero => exact .nil
  | succ n ih =>
    cases r with
    | nil => exact .nil
    | cons r t => exact .cons r (ih t)
theorem Rels.drop (n : Nat) : ∀ {ws : List W} {vs : List V}, Rels K ρ H ws vs → Rels K ρ H (ws.drop n) (vs.drop n) := by
  intro ws vs r
  induction n generalizing ws vs with
  | zero => exact r
  | succ n ih =>
    cases r with
    | nil => exact .nil
    | cons r t => exact ih t
theorem Rels.set {w : W} {v : V} (q : Rel K ρ H w v) : ∀ {ws : List W} {vs : List V} (i : Nat), Rels K ρ H ws vs → Rels K ρ H (ws.set i w) (vs.set i v)
  | _, _, _, .nil => .nil
  | _, _, 0, .cons _ t => .cons q t
  | _, _, i + 1, .cons r t => .cons r (Rels.set q i t)
theorem Rels.ints : ∀ (ns : List Int), Rels K ρ H (ns.map W.int) (ns.map V.int)
  | [] => .nil
  | n :: r => .cons (.int n) (Rels.ints r)
theorem Rels.of_ints : ∀ {ns : List Int} {vs : List V}, Rels K ρ H (ns.map W.int) vs → vs = ns.map V.int
  | [], _, .nil => rfl
  | n :: r, _, .cons q t => by
    cases q
    rw [Rels.of_ints t]
    rfl
theorem Rels.of_strs : ∀ {ns : List Str} {vs : List V}, Rels K ρ H (ns.map W.str) vs → vs = ns.map V.str
  | [], _, .nil => rfl
  | n :: r, _, .cons q t => by
    cases q
    rw [Rels.of_strs t]
    rfl
theorem Rels.of_bls : ∀ {ns : List Bool} {vs : List V}, Rels K ρ H (ns.map W.bl) vs → vs = ns.map V.bl
  | [], _, .nil => rfl
  | n :: r, _, .cons q t => by
    cases q
    rw [Rels.of_bls t]
    rfl
end
def RelO (K : PySem.W.Frag) (cm : Str → Addr) (ρ : List Addr) (H : Hp) (a : Addr) : O → Prop
  | .lst xs => ∃ vs, H a = some (.lst vs) ∧ Rels K ρ H xs vs
  | .ins C fs => ∃ dx fv, H a = some (.ins (cm C) dx fv) ∧ fv.map (·.1) = fs.map (·.1) ∧ Rels K ρ H (fs.map (·.2)) (fv.map (·.2))
  | .dK kvs => ∃ kv, H a = some (.dK kv) ∧ kv.map (·.1) = kvs.map (·.1) ∧ Rels K ρ H (kvs.map (·.2)) (kv.map (·.2))
structure RelH (K : PySem.W.Frag) (cm : Str → Addr) (ρ : List Addr) (h : Hw) (H : Hp) : Prop where
  len : ρ.length = h.length
  nd : ρ.Nodup
  obj : ∀ (i : Nat) (o : O) (a : Addr), h[i]? = some o → ρ[i]? = some a → RelO K cm ρ H a o
def RelS (K : PySem.W.Frag) (ρ : List Addr) (H : Hp) (sw : SW) (σ : St) : Prop :=
  sw.length = σ.length ∧ ∀ (i : Nat) (w : W), sw[i]? = some (some w) → ∃ v, σ[i]? = some (some v) ∧ Rel K ρ H w v
section
variable {K : PySem.W.Frag} {cm : Str → Addr} {ρ ρ' ρ'' : List Addr} {h h' : Hw} {H H' H'' : Hp} {sw : SW} {σ : St} {a : Addr} {i : Nat}
theorem RelS.mono (l : Le K ρ H ρ' H') (r : RelS K ρ H sw σ) : RelS K ρ' H' sw σ := ⟨r.1, fun i w e =>
  let ⟨v, h1, h2⟩ := r.2 i w e
  ⟨v, h1, h2.mono l⟩⟩
theorem RelS.set {w : W} {v : V} (r : RelS K ρ H sw σ) (q : Rel K ρ H w v) (i : Nat) : RelS K ρ H (sw.set i (some w)) (σ.set i (some v)) := by
  refine ⟨by rw [List.length_set, List.length_set]; exact r.1, fun j w' e => ?_⟩
  by_cases hj : i = j
  · subst hj
    rw [List.getElem?_set] at e
    rw [if_pos rfl] at e
    split at e
    · cases e
      refine ⟨v, ?_, q⟩
      rw [List.getElem?_set, if_pos rfl, if_pos (by rw [← r.1]; assumption)]
    · cases e
  · rw [List.getElem?_set_ne hj] at e
    rw [List.getElem?_set_ne hj]
    exact r.2 j w' e
/-- each place is known to the heap -/
theorem RelO.some {o : O} (r : RelO K cm ρ H a o) : ∃ u, H a = some u ∧ Mut (some u) := by
  cases o with
  | lst xs => obtain ⟨vs, e, _⟩ := r; exact ⟨_, e, trivial⟩
  | ins C fs => obtain ⟨dx, fv, e, _⟩ := r; exact ⟨_, e, trivial⟩
  | dK kvs => obtain ⟨kv, e, _⟩ := r; exact ⟨_, e, trivial⟩
theorem RelH.at (r : RelH K cm ρ h H) {w : W} (hi : ρ[i]? = some a) : ∃ o, h[i]? = some o ∧ RelO K cm ρ H a o := by
  obtain ⟨hl, _⟩ := List.getElem?_eq_some_iff.mp hi
  have hl' : i < h.length := by rw [← r.len]; exact hl
  exact ⟨h[i], List.getElem?_eq_getElem hl', r.obj i _ a (List.getElem?_eq_getElem hl') hi⟩
theorem RelH.mem (r : RelH K cm ρ h H) (hm : a ∈ ρ) : ∃ u, H a = some u ∧ Mut (some u) := by
  obtain ⟨i, hl, e⟩ := List.mem_iff_getElem.mp hm
  obtain ⟨o, _, ho⟩ := r.at (w := .non) (List.getElem?_eq_some_iff.mpr ⟨hl, e⟩)
  exact ho.some
theorem mut_tup {u : HO} (m : Mut (some u)) : (∀ xs, u ≠ .tup xs) ∧ ∀ o v, u ≠ .frz o v :=
  ⟨fun xs e => by subst e; exact m, fun o v e => by subst e; exact m⟩
/-- a changed object that is neither a tuple nor frozen: what stands fast stands -/
theorem le_mut {o u : HO} (e : H a = some u) (m : Mut (some u)) : Le K ρ H ρ (upd H a o) := by
  have k : ∀ b x, H b = some x → (∀ q, Mut (some q) → x ≠ q) → upd H a o b = some x := fun b x hb hx => by
    rw [upd_ne (fun z => hx u m (Option.some.inj (hb.symm.trans ((congrArg H z).trans e))))]
    exact hb
  refine ⟨List.prefix_refl _, fun b vs q => ?_, fun b vs q => ?_⟩
  · rcases q with (q | ⟨ob, q⟩) | q
    · exact .inl (.inl (k b _ q fun z mz y => by rw [← y] at mz; exact mz))
    · exact .inl (.inr ⟨ob, k b _ q fun z mz y => by rw [← y] at mz; exact mz⟩)
    · exact .inr q
  · rcases q with ⟨ob, q⟩ | q
    · exact .inl ⟨ob, k b _ q fun z mz y => by rw [← y] at mz; exact mz⟩
    · exact .inr q
/-- a new object -/
theorem le_new {o : HO} (hn : H a = none) : Le K ρ H ρ (upd H a o) := by
  have k : ∀ b x, H b = some x → upd H a o b = some x := fun b x hb => by
    rw [upd_ne (ne_of_none hb hn)]
    exact hb
  refine ⟨List.prefix_refl _, fun b vs q => ?_, fun b vs q => ?_⟩
  · rcases q with (q | ⟨ob, q⟩) | q
    · exact .inl (.inl (k b _ q))
    · exact .inl (.inr ⟨ob, k b _ q⟩)
    · exact .inr q
  · rcases q with ⟨ob, q⟩ | q
    · exact .inl ⟨ob, k b _ q⟩
    · exact .inr q
theorem le_app (b : Addr) : Le K ρ H (ρ ++ [b]) H := ⟨List.prefix_append _ _, fun _ _ q => q, fun _ _ q => q⟩
theorem RelO.mono {o : O} (l : Le K ρ H ρ' H') (e : H' a = H a) (r : RelO K cm ρ H a o) : RelO K cm ρ' H' a o := by
  cases o with
  | lst xs => obtain ⟨vs, e1, q⟩ := r; exact ⟨vs, e.trans e1, q.mono l⟩
  | ins C fs => obtain ⟨dx, fv, e1, e2, q⟩ := r; exact ⟨dx, fv, e.trans e1, e2, q.mono l⟩
  | dK kvs => obtain ⟨kv, e1, e2, q⟩ := r; exact ⟨kv, e.trans e1, e2, q.mono l⟩
/-- what is written at a place -/
theorem RelH.set (r : RelH K cm ρ h H) (hi : ρ[i]? = some a) {u : HO} {o : O} (n : RelO K cm ρ (upd H a u) a o) : RelH K cm ρ (h.set i o) (upd H a u) := by
  obtain ⟨o0, _, q0⟩ := r.at (w := .non) hi
  obtain ⟨u0, e0, m0⟩ := q0.some
  refine ⟨by rw [List.length_set]; exact r.len, r.nd, fun j o1 b hj hb => ?_⟩
  by_cases hji : i = j
  · subst hji
    rw [hi] at hb
    cases hb
    rw [List.getElem?_set, if_pos rfl] at hj
    split at hj
    · cases hj
      exact n
    · cases hj
  · rw [List.getElem?_set_ne hji] at hj
    have ne : b ≠ a := fun z => by
      subst z
      exact hji (nd_ix r.nd hi hb)
    exact (r.obj j o1 b hj hb).mono (le_mut e0 m0) (upd_ne ne)
/-- a new object that is no place: a tuple -/
theorem RelH.new (r : RelH K cm ρ h H) (hn : H a = none) {u : HO} : RelH K cm ρ h (upd H a u) :=
  ⟨r.len, r.nd, fun j o b hj hb => (r.obj j o b hj hb).mono (le_new hn) (by
    obtain ⟨x, e, _⟩ := (r.obj j o b hj hb).some
    exact upd_ne (ne_of_none e hn))⟩
/-- a new place -/
theorem RelH.push (r : RelH K cm ρ h H) (hn : H a = none) {u : HO} {o : O} (n : RelO K cm (ρ ++ [a]) (upd H a u) a o) : RelH K cm (ρ ++ [a]) (h ++ [o]) (upd H a u) := by
  refine ⟨by rw [List.length_append, List.length_append, r.len]; rfl, ?_, fun j o1 b hj hb => ?_⟩
  · refine List.nodup_append.mpr ⟨r.nd, by simp, fun x hx y hy z => ?_⟩
    have hy' : y = a := by simpa using hy
    subst hy' z
    obtain ⟨u1, e1, _⟩ := r.mem hx
    rw [hn] at e1
    cases e1
  · by_cases hl : j < h.length
    · rw [List.getElem?_append_left hl] at hj
      rw [List.getElem?_append_left (by rw [r.len]; exact hl)] at hb
      have q := r.obj j o1 b hj hb
      obtain ⟨x, e, _⟩ := q.some
      exact q.mono ((le_new (o := u) hn).trans (le_app a)) (upd_ne (ne_of_none e hn))
    · rw [List.getElem?_append_right (by omega)] at hj
      rw [List.getElem?_append_right (by rw [r.len]; omega), r.len] at hb
      have hz : j - h.length = 0 := by
        have := (List.getElem?_eq_some_iff.mp hj).1
        simp at this
        omega
      rw [hz] at hj hb
      cases hj
      cases hb
      exact n
theorem push_at (r : RelH K cm ρ h H) : (ρ ++ [a])[h.length]? = some a := by
  rw [← r.len]
  simp
end

/-! ### the judgements -/
/-- what follows, once the value has come -/
abbrev KE (K : PySem.W.Frag) (cm : Str → Addr) (ρ : List Addr) (H : Hp) (w : W) (h' : Hw) (Q : VK) : Prop :=
  ∀ ρ' H' v, Le K ρ H ρ' H' → RelH K cm ρ' h' H' → Rel K ρ' H' w v → Q v H'
def tE (K : PySem.W.Frag) (cm : Str → Addr) (m : ME) : TE := fun σ H Q => ∃ ρ h sw w h', RelH K cm ρ h H ∧ RelS K ρ H sw σ ∧ m sw h = .ok w h' ∧ KE K cm ρ H w h' Q
def tT (K : PySem.W.Frag) (cm : Str → Addr) (m : MT) : TT := fun σ H Q => ∃ ρ h sw b h', RelH K cm ρ h H ∧ RelS K ρ H sw σ ∧ m sw h = .ok b h' ∧ ∀ ρ' H', Le K ρ H ρ' H' → RelH K cm ρ' h' H' → Q b H'
def tA (K : PySem.W.Frag) (cm : Str → Addr) (m : MA) : TA := fun σ H Q => ∃ ρ h sw ws h', RelH K cm ρ h H ∧ RelS K ρ H sw σ ∧ m sw h = .ok ws h' ∧ ∀ ρ' H' vs, Le K ρ H ρ' H' → RelH K cm ρ' h' H' → Rels K ρ' H' ws vs → Q vs H'
def FlK (K : PySem.W.Frag) (cm : Str → Addr) (ρ : List Addr) (H : Hp) (f : Fl) (h' : Hw) (D : Ends) : Prop :=
  match f with
  | .nx s => ∀ ρ' H' σ', Le K ρ H ρ' H' → RelH K cm ρ' h' H' → RelS K ρ' H' s σ' → D.nx σ' H'
  | .bk s => ∀ ρ' H' σ', Le K ρ H ρ' H' → RelH K cm ρ' h' H' → RelS K ρ' H' s σ' → D.bk σ' H'
  | .ct s => ∀ ρ' H' σ', Le K ρ H ρ' H' → RelH K cm ρ' h' H' → RelS K ρ' H' s σ' → D.ct σ' H'
  | .rt w => KE K cm ρ H w h' D.rt
theorem FlK.le {K : PySem.W.Frag} {cm : Str → Addr} {ρ ρ' : List Addr} {H H' : Hp} {f : Fl} {h' : Hw} {D : Ends} (l : Le K ρ H ρ' H') (q : FlK K cm ρ H f h' D) : FlK K cm ρ' H' f h' D := by
  cases f with
  | nx s => exact fun ρ2 H2 σ2 l2 => q ρ2 H2 σ2 (l.trans l2)
  | bk s => exact fun ρ2 H2 σ2 l2 => q ρ2 H2 σ2 (l.trans l2)
  | ct s => exact fun ρ2 H2 σ2 l2 => q ρ2 H2 σ2 (l.trans l2)
  | rt w => exact fun ρ2 H2 v l2 => q ρ2 H2 v (l.trans l2)
def tS (K : PySem.W.Frag) (cm : Str → Addr) (m : MS) : TS := fun D σ H => ∃ ρ h sw f h', RelH K cm ρ h H ∧ RelS K ρ H sw σ ∧ m sw h = .ok f h' ∧ FlK K cm ρ H f h' D
/-- alike but at some places -/
def But (vs : List Nat) (σ σ' : St) : Prop := σ'.length = σ.length ∧ ∀ j : Nat, j ∉ vs → σ'[j]? = σ[j]?
theorem But.refl {vs : List Nat} {σ : St} : But vs σ σ := ⟨rfl, fun _ _ => rfl⟩
theorem But.trans {vs : List Nat} {σ σ' σ'' : St} (a : But vs σ σ') (b : But vs σ' σ'') : But vs σ σ'' := ⟨b.1.trans a.1, fun j hj => (b.2 j hj).trans (a.2 j hj)⟩
theorem But.set {vs : List Nat} {σ : St} {i : Nat} {x : Option V} (h : i ∈ vs) : But vs σ (σ.set i x) := ⟨List.length_set .., fun j hj => List.getElem?_set_ne (fun (z : i = j) => hj (by rw [← z]; exact h))⟩
def tG (K : PySem.W.Frag) (cm : Str → Addr) (vs : List Nat) (m : MG) : TG := fun v σ H Q => ∃ ρ h sw w s h', RelH K cm ρ h H ∧ RelS K ρ H sw σ ∧ Rel K ρ H w v ∧ m w sw h = .ok s h' ∧ ∀ ρ' H' σ', But vs σ σ' → Le K ρ H ρ' H' → RelH K cm ρ' h' H' → RelS K ρ' H' s σ' → Q σ' H'
abbrev RE (X : Cx) (cm : Str → Addr) (e : Expr) (m : ME) : Prop := PE X e (tE X.K cm m)
abbrev RT (X : Cx) (cm : Str → Addr) (e : Expr) (m : MT) : Prop := PT X e (tT X.K cm m)
abbrev RW (X : Cx) (cm : Str → Addr) (e : Expr) (m : MT) : Prop := PW X e (tT X.K cm m)
abbrev RA (X : Cx) (cm : Str → Addr) (es : List Expr) (m : MA) : Prop := PA X es (tA X.K cm m)
abbrev RS (X : Cx) (cm : Str → Addr) (st : Stmt) (m : MS) : Prop := PS X st (tS X.K cm m)
abbrev RSs (X : Cx) (cm : Str → Addr) (st : List Stmt) (m : MS) : Prop := PSs X st (tS X.K cm m)
abbrev RG (X : Cx) (cm : Str → Addr) (vs : List Nat) (tg : Expr) (m : MG) : Prop := PG X tg (tG X.K cm vs m)
theorem peM {X : Cx} {e : Expr} {t t' : TE} (p : PE X e t) (f : ∀ σ H Q, t' σ H Q → t σ H Q) : PE X e t' := ⟨fun pins s σ H Q I q => p.run pins s σ H Q I (f σ H Q q)⟩
theorem ptM {X : Cx} {e : Expr} {t t' : TT} (p : PT X e t) (f : ∀ σ H Q, t' σ H Q → t σ H Q) : PT X e t' := ⟨fun pins s σ H Q I q => p.run pins s σ H Q I (f σ H Q q)⟩
theorem pwM {X : Cx} {e : Expr} {t t' : TT} (p : PW X e t) (f : ∀ σ H Q, t' σ H Q → t σ H Q) : PW X e t' := ⟨fun wh pins s σ H Q I q => p.run wh pins s σ H Q I (f σ H Q q)⟩
theorem paM {X : Cx} {e : List Expr} {t t' : TA} (p : PA X e t) (f : ∀ σ H Q, t' σ H Q → t σ H Q) : PA X e t' := ⟨fun pos pins s σ H Q I q => p.run pos pins s σ H Q I (f σ H Q q)⟩
theorem psM {X : Cx} {e : Stmt} {t t' : TS} (p : PS X e t) (f : ∀ D σ H, t' D σ H → t D σ H) : PS X e t' := ⟨fun pins s σ H D I q => p.run pins s σ H D I (f D σ H q)⟩
theorem pssM {X : Cx} {e : List Stmt} {t t' : TS} (p : PSs X e t) (f : ∀ D σ H, t' D σ H → t D σ H) : PSs X e t' := ⟨fun pins s σ H D I q => p.run pins s σ H D I (f D σ H q)⟩
theorem pgM {X : Cx} {e : Expr} {t t' : TG} (p : PG X e t) (f : ∀ v σ H Q, t' v σ H Q → t v σ H Q) : PG X e t' := ⟨fun pins s σ H v u Q I r q => p.run pins s σ H v u Q I r (f v σ H Q q)⟩
end EL
namespace EL
open PySem PySem.Spec L2
open PyProof.Rows hiding St
def lim : Nat := 16777216
theorem lim_eq : lim = sizeLine := sizeLine_eq.symm

/-! ### the plain functions -/
def mVar (i : Nat) : ME := fun sw h => match sw[i]? with
  | some (some w) => .ok w h
  | _ => .no
def mC (w : W) : ME := fun _ h => .ok w h
def mBin (f : W → W → M W) (a b : ME) : ME := fun sw => bnd (a sw) fun x => bnd (b sw) fun y => f x y
def mUn (f : W → M W) (a : ME) : ME := fun sw => bnd (a sw) f
def aNil : MA := fun _ => rtn []
def aCons (a : ME) (r : MA) : MA := fun sw => bnd (a sw) fun x => bnd (r sw) fun xs => rtn (x :: xs)
def mTup (a : MA) : ME := fun sw => bnd (a sw) fun xs => if xs.length ≤ lim then rtn (.tup xs) else bad
def alloc (o : O) : M W := fun h => .ok (.ref h.length) (h ++ [o])
def mLst (a : MA) : ME := fun sw => bnd (a sw) fun xs => if xs.length ≤ lim then alloc (.lst xs) else bad
def mCall (f : List W → M W) (a : MA) : ME := fun sw => bnd (a sw) f
def tVal (a : ME) : MT := fun sw => bnd (a sw) fun x => match x with
  | .bl b => rtn b
  | _ => bad
def tAnd (a b : MT) : MT := fun sw => bnd (a sw) fun x => if x = true then b sw else rtn false
def tOr (a b : MT) : MT := fun sw => bnd (a sw) fun x => if x = true then rtn true else b sw
def tNot (a : MT) : MT := fun sw => bnd (a sw) fun x => rtn (!x)
def mAnd (a b : ME) : ME := fun sw => bnd (a sw) fun x => match x with
  | .bl true => b sw
  | .bl false => rtn (.bl false)
  | _ => bad
def mOr (a b : ME) : ME := fun sw => bnd (a sw) fun x => match x with
  | .bl true => rtn (.bl true)
  | .bl false => b sw
  | _ => bad
def mNot (a : ME) : ME := fun sw => bnd (a sw) fun x => match x with
  | .bl b => rtn (.bl (!b))
  | _ => bad
def mIf (c : MT) (a b : ME) : ME := fun sw => bnd (c sw) fun x => if x = true then a sw else b sw
def sNil : MS := fun sw => rtn (.nx sw)
def sSeq (a b : MS) : MS := fun sw => bnd (a sw) fun f => match f with
  | .nx s => b s
  | .rt w => rtn (.rt w)
  | .bk s => rtn (.bk s)
  | .ct s => rtn (.ct s)
def sIf (c : MT) (a b : MS) : MS := fun sw => bnd (c sw) fun x => if x = true then a sw else b sw
def sRet (a : ME) : MS := fun sw => bnd (a sw) fun x => rtn (.rt x)
def sExp (a : ME) : MS := fun sw => bnd (a sw) fun _ => rtn (.nx sw)
def sAsg (g : MG) (a : ME) : MS := fun sw => bnd (a sw) fun x => bnd (g x sw) fun s => rtn (.nx s)
def gNm (i : Nat) : MG := fun w sw => rtn (sw.set i (some w))
def sBrk : MS := fun sw => rtn (.bk sw)
def sCnt : MS := fun sw => rtn (.ct sw)

/-! ### soundness: expressions -/
section
variable {X : Cx} {cm : Str → Addr} {e a b c : Expr} {es rest : List Expr} {ma mb mc : ME} {mta mtb : MT} {pos : Pos}
theorem re_var (i : Nat) {x : Str} {pos : Pos} (hN : X.N[i]? = some x := by rfl) (hv : Vis X.env.scope x := by first | exact Or.inl rfl | exact Or.inr (Or.inl rfl) | exact Or.inr (Or.inr rfl)) (hd : (x == ("__debug__" : Str)) = false := by decide)
    (hcd : (x == ("__classdict__" : Str)) = false := by decide) : RE X cm (.Name x pos) (mVar i) := by
  refine peM (pe_var (i := i) hN hv hd hcd) fun σ H Q q => ?_
  obtain ⟨ρ, h, sw, w, h', rh, rs, e, k⟩ := q
  unfold mVar at e
  split at e
  · cases e
    obtain ⟨v, h1, h2⟩ := rs.2 i _ (by assumption)
    exact ⟨v, h1, k ρ H v .refl rh h2⟩
  · cases e
theorem re_tC {v : V} {w : W} (p : PE X e (tC v)) (r : ∀ ρ H, Rel X.K ρ H w v) : RE X cm e (mC w) := by
  refine peM p fun σ H Q q => ?_
  obtain ⟨ρ, h, sw, w, h', rh, rs, e, k⟩ := q
  cases e
  exact k ρ H v .refl rh (r ρ H)
theorem re_int {i : Int} {j pos} : RE X cm (.Constant (.int i) j pos) (mC (.int i)) := re_tC pe_int fun _ _ => .int i
theorem re_str {i : Str} {j pos} : RE X cm (.Constant (.str i) j pos) (mC (.str i)) := re_tC pe_str fun _ _ => .str i
theorem re_bl {i : Bool} {j pos} : RE X cm (.Constant (.bool i) j pos) (mC (.bl i)) := re_tC pe_bl fun _ _ => .bl i
theorem re_non {j pos} : RE X cm (.Constant .none j pos) (mC .non) := re_tC pe_non fun _ _ => .non
theorem re_gint {x : Str} {i : Int} {t : Tok} {pos : Pos} (hm : X.mg x = some (.int i t)) (hg : Gl X x := by rfl) (hd : (x == ("__debug__" : Str)) = false := by decide) : RE X cm (.Name x pos) (mC (.int i)) := re_tC (pe_glob (v := .int i) hg hm ⟨t, rfl⟩ hd) fun _ _ => .int i
theorem re_gstr {x : Str} {i : Str} {t : Tok} {pos : Pos} (hm : X.mg x = some (.str i t)) (hg : Gl X x := by rfl) (hd : (x == ("__debug__" : Str)) = false := by decide) : RE X cm (.Name x pos) (mC (.str i)) := re_tC (pe_glob (v := .str i) hg hm ⟨t, rfl⟩ hd) fun _ _ => .str i

/-- a two-place operation by values -/
def OpW (K : PySem.W.Frag) (cm : Str → Addr) (r : R2) (f : W → W → M W) : Prop :=
  ∀ ρ h H x y x' y' z h' Q, RelH K cm ρ h H → Rel K ρ H x x' → Rel K ρ H y y' → f x y h = .ok z h' → KE K cm ρ H z h' Q → r x' y' H Q
theorem op_tE {r : R2} {f : W → W → M W} (ow : OpW X.K cm r f) {σ : St} {H : Hp} {Q : VK} (q : tE X.K cm (mBin f ma mb) σ H Q) : tOp r (tE X.K cm ma) (tE X.K cm mb) σ H Q := by
  obtain ⟨ρ, h, sw, w, h', rh, rs, e, k⟩ := q
  obtain ⟨x, h1, e1, e2⟩ := bnd_ok e
  obtain ⟨y, h2, e3, e4⟩ := bnd_ok e2
  refine ⟨ρ, h, sw, x, h1, rh, rs, e1, fun ρ1 H1 x' l1 rh1 rx => ?_⟩
  refine ⟨ρ1, h1, sw, y, h2, rh1, rs.mono l1, e3, fun ρ2 H2 y' l2 rh2 ry => ?_⟩
  exact ow ρ2 h2 H2 x y x' y' w h' Q rh2 (rx.mono l2) ry e4 fun ρ3 H3 v l3 => k ρ3 H3 v (l1.trans (l2.trans l3))
theorem re_op {op : Operator} {r : R2} {f : W → W → M W} (ho : OpR X (binaryOp op) r) (ow : OpW X.K cm r f) (ha : RE X cm a ma) (hb : RE X cm b mb) : RE X cm (.BinOp a op b pos) (mBin f ma mb) :=
  peM (pe_op ho ha hb) fun _ _ _ => op_tE ow
theorem re_cmp {op : CmpOp} {r : R2} {f : W → W → M W} (ho : OpR X (compareOp op) r) (ow : OpW X.K cm r f) (ha : RE X cm a ma) (hb : RE X cm b mb) (hm : behindInMarks op b = false := by first | exact nomark _ | rfl) : RE X cm (.Compare a [op] [b] pos) (mBin f ma mb) :=
  peM (pe_cmpR ho ha hb hm) fun _ _ _ => op_tE ow
theorem test_of {t : TE} {m : ME} {σ : St} {H : Hp} {Q : Bool → Hp → Prop} (f : ∀ Q', tE X.K cm m σ H Q' → t σ H Q') (q : tT X.K cm (tVal m) σ H Q) : tTest t σ H Q := by
  obtain ⟨ρ, h, sw, w, h', rh, rs, e, k⟩ := q
  obtain ⟨x, h1, e1, e2⟩ := bnd_ok e
  refine f _ ⟨ρ, h, sw, x, h1, rh, rs, e1, fun ρ1 H1 x' l1 rh1 rx => ?_⟩
  cases x with
  | bl b =>
    cases rx
    cases e2
    exact ⟨_, rfl, k ρ1 H1 l1 rh1⟩
  | _ => cases e2
theorem rt_cmp {op : CmpOp} {r : R2} {f : W → W → M W} (ho : OpR X (compareOp op) r) (ow : OpW X.K cm r f) (ha : RE X cm a ma) (hb : RE X cm b mb) (hm : behindInMarks op b = false := by first | exact nomark _ | rfl) : RT X cm (.Compare a [op] [b] pos) (tVal (mBin f ma mb)) :=
  ptM (pt_cmpR ho ha hb hm) fun σ H Q q => test_of (fun Q' => op_tE ow) q
/-- a value's truth -/
def tru (x : W) : M Bool := fun h => match x with
  | .non => .ok false h
  | .bl b => .ok b h
  | .int i => .ok (i != 0) h
  | .str y => if y.length ≤ lim then .ok ((y.length : Int) != 0) h else .no
  | .tup xs => .ok (!xs.isEmpty) h
  | .rol xs => .ok (!xs.isEmpty) h
  | .ref i => match h[i]? with
    | some (.lst xs) => .ok (!xs.isEmpty) h
    | some (.dK kvs) => .ok (!kvs.isEmpty) h
    | _ => .no
def tTru (a : ME) : MT := fun sw => bnd (a sw) tru
theorem emp_of {K : PySem.W.Frag} {ρ : List Addr} {H : Hp} {ws : List W} {vs : List V} (r : Rels K ρ H ws vs) : ws.isEmpty = vs.isEmpty := by
  cases r <;> rfl
theorem tru_of {K : PySem.W.Frag} {ρ : List Addr} {h h' : Hw} {H : Hp} {x : W} {v : V} {k : Bool} (rh : RelH K cm ρ h H) (r : Rel K ρ H x v) (e : tru x h = .ok k h') : TruV K v H k ∧ h' = h := by
  cases r with
  | non => cases e; exact ⟨rfl, rfl⟩
  | bl b => cases e; exact ⟨rfl, rfl⟩
  | int i => cases e; exact ⟨rfl, rfl⟩
  | str y =>
    have e' : (if y.length ≤ lim then R.ok ((y.length : Int) != 0) h else R.no) = .ok k h' := e
    split at e'
    · cases e'
      exact ⟨⟨by rw [← lim_eq]; assumption, rfl⟩, rfl⟩
    · cases e'
  | tup hq r => cases e; exact ⟨.inr (.inl ⟨_, hq, by rw [emp_of r]⟩), rfl⟩
  | rol hq r => cases e; exact ⟨.inl ⟨_, hq.sq, by rw [emp_of r]⟩, rfl⟩
  | @ref i a hi =>
    obtain ⟨o, ho, ro⟩ := rh.at (w := .non) hi
    have e' : (match h[i]? with
      | some (.lst xs) => R.ok (!xs.isEmpty) h
      | some (.dK kvs) => R.ok (!kvs.isEmpty) h
      | _ => R.no) = .ok k h' := e
    rw [ho] at e'
    cases o with
    | lst xs =>
      obtain ⟨vs, e1, q⟩ := ro
      cases e'
      exact ⟨.inl ⟨vs, .of e1, by rw [emp_of q]⟩, rfl⟩
    | dK kvs =>
      obtain ⟨kv, e1, e2, q⟩ := ro
      cases e'
      refine ⟨.inr (.inr ⟨kv, e1, ?_⟩), rfl⟩
      cases kvs <;> cases kv <;> first | rfl | cases e2
    | ins C fs => cases e'
theorem rt_tru (ha : RE X cm a ma) (he : ∀ whole, isTrue a X.env whole = (do let v ← whole; standAt a.pos; holding [v] (truthy v)) := by intro _; rfl) : RT X cm a (tTru ma) := by
  refine ptM (pt_truth ha he) fun σ H Q q => ?_
  obtain ⟨ρ, h, sw, w, h', rh, rs, e, k⟩ := q
  obtain ⟨x, h1, e1, e2⟩ := bnd_ok e
  refine ⟨ρ, h, sw, x, h1, rh, rs, e1, fun ρ1 H1 x' l1 rh1 rx => ?_⟩
  obtain ⟨t, eh⟩ := tru_of rh1 rx e2
  subst eh
  exact ⟨_, t, k ρ1 H1 l1 rh1⟩
theorem rt_and1 (ha : RT X cm a mta) : RW X cm (.BoolOp .And [a] pos) mta := pw_and1 ha
theorem rt_or1 (ha : RT X cm a mta) : RW X cm (.BoolOp .Or [a] pos) mta := pw_or1 ha
theorem rt_and (ha : RT X cm a mta) (hb : RW X cm (.BoolOp .And (b :: rest) pos) mtb) : RW X cm (.BoolOp .And (a :: b :: rest) pos) (tAnd mta mtb) := by
  refine pwM (pw_and ha hb) fun σ H Q q => ?_
  obtain ⟨ρ, h, sw, w, h', rh, rs, e, k⟩ := q
  obtain ⟨x, h1, e1, e2⟩ := bnd_ok e
  refine ⟨ρ, h, sw, x, h1, rh, rs, e1, fun ρ1 H1 l1 rh1 => ?_⟩
  cases x with
  | true => exact iteT ⟨ρ1, h1, sw, w, h', rh1, rs.mono l1, e2, fun ρ2 H2 l2 => k ρ2 H2 (l1.trans l2)⟩
  | false =>
    cases e2
    exact iteF (k ρ1 H1 l1 rh1)
theorem rt_or (ha : RT X cm a mta) (hb : RW X cm (.BoolOp .Or (b :: rest) pos) mtb) : RW X cm (.BoolOp .Or (a :: b :: rest) pos) (tOr mta mtb) := by
  refine pwM (pw_or ha hb) fun σ H Q q => ?_
  obtain ⟨ρ, h, sw, w, h', rh, rs, e, k⟩ := q
  obtain ⟨x, h1, e1, e2⟩ := bnd_ok e
  refine ⟨ρ, h, sw, x, h1, rh, rs, e1, fun ρ1 H1 l1 rh1 => ?_⟩
  cases x with
  | false => exact iteF ⟨ρ1, h1, sw, w, h', rh1, rs.mono l1, e2, fun ρ2 H2 l2 => k ρ2 H2 (l1.trans l2)⟩
  | true =>
    cases e2
    exact iteT (k ρ1 H1 l1 rh1)
theorem rt_not (ha : RT X cm a mta) : RT X cm (.UnaryOp .Not a pos) (tNot mta) := by
  refine ptM (pt_not ha) fun σ H Q q => ?_
  obtain ⟨ρ, h, sw, w, h', rh, rs, e, k⟩ := q
  obtain ⟨x, h1, e1, e2⟩ := bnd_ok e
  cases e2
  exact ⟨ρ, h, sw, x, h', rh, rs, e1, fun ρ1 H1 l1 rh1 => k ρ1 H1 l1 rh1⟩
theorem rw_t (h : RW X cm e mta) : RT X cm e mta := PW.pt h
theorem re_one {op} (h : RE X cm a ma) : RE X cm (.BoolOp op [a] pos) ma := pe_one h
theorem re_and (ha : RE X cm a ma) (hb : RE X cm (.BoolOp .And (b :: rest) pos) mb) : RE X cm (.BoolOp .And (a :: b :: rest) pos) (mAnd ma mb) := by
  refine peM (pe_and ha hb) fun σ H Q q => ?_
  obtain ⟨ρ, h, sw, w, h', rh, rs, e, k⟩ := q
  obtain ⟨x, h1, e1, e2⟩ := bnd_ok e
  refine ⟨ρ, h, sw, x, h1, rh, rs, e1, fun ρ1 H1 x' l1 rh1 rx => ?_⟩
  cases x with
  | bl y =>
    cases rx
    cases y with
    | true => exact ⟨true, rfl, iteT ⟨ρ1, h1, sw, w, h', rh1, rs.mono l1, e2, fun ρ2 H2 v l2 => k ρ2 H2 v (l1.trans l2)⟩⟩
    | false =>
      cases e2
      exact ⟨false, rfl, iteF (k ρ1 H1 _ l1 rh1 (.bl false))⟩
  | _ => cases e2
theorem re_or (ha : RE X cm a ma) (hb : RE X cm (.BoolOp .Or (b :: rest) pos) mb) : RE X cm (.BoolOp .Or (a :: b :: rest) pos) (mOr ma mb) := by
  refine peM (pe_or ha hb) fun σ H Q q => ?_
  obtain ⟨ρ, h, sw, w, h', rh, rs, e, k⟩ := q
  obtain ⟨x, h1, e1, e2⟩ := bnd_ok e
  refine ⟨ρ, h, sw, x, h1, rh, rs, e1, fun ρ1 H1 x' l1 rh1 rx => ?_⟩
  cases x with
  | bl y =>
    cases rx
    cases y with
    | false => exact ⟨false, rfl, iteF ⟨ρ1, h1, sw, w, h', rh1, rs.mono l1, e2, fun ρ2 H2 v l2 => k ρ2 H2 v (l1.trans l2)⟩⟩
    | true =>
      cases e2
      exact ⟨true, rfl, iteT (k ρ1 H1 _ l1 rh1 (.bl true))⟩
  | _ => cases e2
theorem re_not (ha : RE X cm a ma) : RE X cm (.UnaryOp .Not a pos) (mNot ma) := by
  refine peM (pe_not ha) fun σ H Q q => ?_
  obtain ⟨ρ, h, sw, w, h', rh, rs, e, k⟩ := q
  obtain ⟨x, h1, e1, e2⟩ := bnd_ok e
  refine ⟨ρ, h, sw, x, h1, rh, rs, e1, fun ρ1 H1 x' l1 rh1 rx => ?_⟩
  cases x with
  | bl y =>
    cases rx
    cases e2
    exact ⟨y, rfl, k ρ1 H1 _ l1 rh1 (.bl _)⟩
  | _ => cases e2
theorem re_if (hc : RT X cm c mta) (ha : RE X cm a ma) (hb : RE X cm b mb) : RE X cm (.IfExp c a b pos) (mIf mta ma mb) := by
  refine peM (pe_ifExp hc ha hb) fun σ H Q q => ?_
  obtain ⟨ρ, h, sw, w, h', rh, rs, e, k⟩ := q
  obtain ⟨x, h1, e1, e2⟩ := bnd_ok e
  refine ⟨ρ, h, sw, x, h1, rh, rs, e1, fun ρ1 H1 l1 rh1 => ?_⟩
  cases x with
  | true => exact iteT ⟨ρ1, h1, sw, w, h', rh1, rs.mono l1, e2, fun ρ2 H2 v l2 => k ρ2 H2 v (l1.trans l2)⟩
  | false => exact iteF ⟨ρ1, h1, sw, w, h', rh1, rs.mono l1, e2, fun ρ2 H2 v l2 => k ρ2 H2 v (l1.trans l2)⟩
theorem ra_nil : RA X cm [] aNil := by
  refine paM pa_nil fun σ H Q q => ?_
  obtain ⟨ρ, h, sw, w, h', rh, rs, e, k⟩ := q
  cases e
  exact k ρ H [] .refl rh .nil
theorem ra_cons {mr : MA} (ha : RE X cm e ma) (hr : RA X cm es mr) (hs : starEach (e :: es) X.env = (false, eval e X.env) :: starEach es X.env := by rfl) : RA X cm (e :: es) (aCons ma mr) := by
  refine paM (pa_cons ha hr hs) fun σ H Q q => ?_
  obtain ⟨ρ, h, sw, w, h', rh, rs, e, k⟩ := q
  obtain ⟨x, h1, e1, e2⟩ := bnd_ok e
  obtain ⟨y, h2, e3, e4⟩ := bnd_ok e2
  cases e4
  refine ⟨ρ, h, sw, x, h1, rh, rs, e1, fun ρ1 H1 x' l1 rh1 rx => ?_⟩
  refine ⟨ρ1, h1, sw, y, h', rh1, rs.mono l1, e3, fun ρ2 H2 y' l2 rh2 ry => ?_⟩
  exact k ρ2 H2 _ (l1.trans l2) rh2 (.cons (rx.mono l2) ry)
/-- a new tuple -/
theorem new_tup {K : PySem.W.Frag} {ρ : List Addr} {h : Hw} {H : Hp} {ws : List W} {vs : List V} {Q : VK} {p : Addr} (rh : RelH K cm ρ h H) (r : Rels K ρ H ws vs) (hp : H p = none) (k : KE K cm ρ H (.tup ws) h Q) : Q (.ref p) (upd H p (.tup vs)) :=
  k ρ _ _ (le_new hp) (rh.new hp) (.tup (.of upd_same) (r.mono (le_new hp)))
/-- a new list -/
theorem new_lst {K : PySem.W.Frag} {ρ : List Addr} {h : Hw} {H : Hp} {ws : List W} {vs : List V} {Q : VK} {p : Addr} (rh : RelH K cm ρ h H) (r : Rels K ρ H ws vs) (hp : H p = none) (k : KE K cm ρ H (.ref h.length) (h ++ [.lst ws]) Q) : Q (.ref p) (upd H p (.lst vs)) :=
  k (ρ ++ [p]) _ _ ((le_new hp).trans (le_app p)) (rh.push hp ⟨vs, upd_same, r.mono ((le_new hp).trans (le_app p))⟩) (.ref (push_at rh))
theorem re_tup {mr : MA} {x1} (ha : RA X cm es mr) : RE X cm (.Tuple es x1 pos) (mTup mr) := by
  refine peM (pe_tup ha) fun σ H Q q => ?_
  obtain ⟨ρ, h, sw, w, h', rh, rs, e, k⟩ := q
  obtain ⟨x, h1, e1, e2⟩ := bnd_ok e
  refine ⟨ρ, h, sw, x, h1, rh, rs, e1, fun ρ1 H1 x' l1 rh1 rx => ?_⟩
  split at e2
  · cases e2
    exact ⟨by rw [← rx.length, ← lim_eq]; assumption, fun p hp => new_tup rh1 rx hp fun ρ2 H2 v l2 => k ρ2 H2 v (l1.trans l2)⟩
  · cases e2
theorem re_lst {mr : MA} (ha : RA X cm es mr) : RE X cm (.List es pos) (mLst mr) := by
  refine peM (pe_lst ha) fun σ H Q q => ?_
  obtain ⟨ρ, h, sw, w, h', rh, rs, e, k⟩ := q
  obtain ⟨x, h1, e1, e2⟩ := bnd_ok e
  refine ⟨ρ, h, sw, x, h1, rh, rs, e1, fun ρ1 H1 x' l1 rh1 rx => ?_⟩
  split at e2
  · cases e2
    exact ⟨by rw [← rx.length, ← lim_eq]; assumption, fun p hp => new_lst rh1 rx hp fun ρ2 H2 v l2 => k ρ2 H2 v (l1.trans l2)⟩
  · cases e2
end

/-! ### calls -/
/-- what a def promises: it does what m does -/
def spM (K : PySem.W.Frag) (cm : Str → Addr) (m : List W → M W) : Sp := fun vs H Q _ => ∃ ρ h ws w h', RelH K cm ρ h H ∧ Rels K ρ H ws vs ∧ m ws h = .ok w h' ∧ KE K cm ρ H w h' Q
section
variable {X : Cx} {cm : Str → Addr} {e a b c : Expr} {es rest : List Expr} {ma mb mc : ME} {mr : MA} {mta mtb : MT} {pos p : Pos} {k : Nat} {f : Addr} {fd : FuncData} {ps : List Str} {x : Str} {m : List W → M W} {n : Nat}
theorem re_call (F : FnOk X.prog X.w X.K X.mg X.base CX0 k f fd ps (spM X.K cm m)) (hr : Room k X.A) (hm : X.mg x = some (.ref f)) (hk : PySem.W.keepIn X.K (.ref f) = true) (hb : Binds X.K fd ps []) (ha : RA X cm (e :: es) mr) (hg : Gl X x := by rfl)
    (hdb : (x == ("__debug__" : Str)) = false := by decide) (he : starEach (e :: es) X.env = (false, eval e X.env) :: starEach es X.env := by rfl) (hpl : (backTo pos (starEach es X.env)).any (·.1) = false := by rfl) : RE X cm (.Call (.Name x p) (e :: es) [] pos) (mCall m mr) := by
  refine peM (pe_call F hr hg hm hk hb .nil pass0 ha hdb he hpl) fun σ H Q q => ?_
  obtain ⟨ρ, h, sw, w, h', rh, rs, e, k⟩ := q
  obtain ⟨ws, h1, e1, e2⟩ := bnd_ok e
  refine ⟨ρ, h, sw, ws, h1, rh, rs, e1, fun ρ1 H1 vs l1 rh1 rx => ?_⟩
  refine ⟨ρ1, h1, ws, w, h', rh1, by rw [List.append_nil]; exact rx, e2, fun ρ2 H2 v l2 => k ρ2 H2 v (l1.trans l2)⟩
/-- a built-in by values -/
def CallW (K : PySem.W.Frag) (cm : Str → Addr) (r : List V → Hp → VK → Prop) (f : List W → M W) : Prop :=
  ∀ ρ h H ws vs z h' Q, RelH K cm ρ h H → Rels K ρ H ws vs → f ws h = .ok z h' → KE K cm ρ H z h' Q → r vs H Q
theorem cb_tE {r : List V → Hp → VK → Prop} {f : List W → M W} (cw : CallW X.K cm r f) {σ : St} {H : Hp} {Q : VK} (q : tE X.K cm (mCall f mr) σ H Q) : tCB r (tA X.K cm mr) σ H Q := by
  obtain ⟨ρ, h, sw, w, h', rh, rs, e, k⟩ := q
  obtain ⟨ws, h1, e1, e2⟩ := bnd_ok e
  refine ⟨ρ, h, sw, ws, h1, rh, rs, e1, fun ρ1 H1 vs l1 rh1 rx => ?_⟩
  exact cw ρ1 h1 H1 ws vs w h' Q rh1 rx e2 fun ρ2 H2 v l2 => k ρ2 H2 v (l1.trans l2)
theorem re_callB {id : String} {r : List V → Hp → VK → Prop} {f : List W → M W} (hc : CallR X (.builtin id) r) (cw : CallW X.K cm r f) (hm : X.mg x = none) (ha : RA X cm (e :: es) mr) (hv : bootBuiltins x = some (.builtin id) := by decide +kernel) (hg : Gl X x := by rfl) (hn : x ≠ "__name__" := by decide) (hdb : (x == ("__debug__" : Str)) = false := by decide)
    (he : starEach (e :: es) X.env = (false, eval e X.env) :: starEach es X.env := by rfl) (hpl : (backTo pos (starEach es X.env)).any (·.1) = false := by rfl) : RE X cm (.Call (.Name x p) (e :: es) [] pos) (mCall f mr) :=
  peM (pe_callB hc hg hm hv ha hn hdb he hpl) fun _ _ _ => cb_tE cw
theorem re_callTy {T : String} {r : List V → Hp → VK → Prop} {f : List W → M W} (hc : CallR X (.type T) r) (cw : CallW X.K cm r f) (hm : X.mg x = none) (ha : RA X cm (e :: es) mr) (hv : bootBuiltins x = some (.type T) := by decide +kernel) (hg : Gl X x := by rfl) (hn : x ≠ "__name__" := by decide) (hdb : (x == ("__debug__" : Str)) = false := by decide)
    (he : starEach (e :: es) X.env = (false, eval e X.env) :: starEach es X.env := by rfl) (hpl : (backTo pos (starEach es X.env)).any (·.1) = false := by rfl) : RE X cm (.Call (.Name x p) (e :: es) [] pos) (mCall f mr) :=
  peM (pe_callTy hc hg hm hv ha hn hdb he hpl) fun _ _ _ => cb_tE cw
end
end EL
namespace EL
open PySem PySem.Spec L2
open PyProof.Rows hiding St

/-! ### statements -/
section
variable {X : Cx} {cm : Str → Addr} {e a b c tg : Expr} {st : Stmt} {sts sts' : List Stmt} {ma mb mc : ME} {mr : MA} {mt : MT} {m m1 m2 : MS} {g : MG} {pos : Pos} {vs : List Nat}
theorem rss_nil : RSs X cm [] sNil := by
  refine pssM pss_nil fun D σ H q => ?_
  obtain ⟨ρ, h, sw, f, h', rh, rs, e, k⟩ := q
  cases e
  exact k ρ H σ .refl rh rs
theorem rss_cons (h1 : RS X cm st m1) (h2 : RSs X cm sts m2) : RSs X cm (st :: sts) (sSeq m1 m2) := by
  refine pssM (pss_cons h1 h2) fun D σ H q => ?_
  obtain ⟨ρ, h, sw, f, h', rh, rs, e, k⟩ := q
  obtain ⟨f1, h1, e1, e2⟩ := bnd_ok e
  refine ⟨ρ, h, sw, f1, h1, rh, rs, e1, ?_⟩
  cases f1 with
  | nx s => exact fun ρ1 H1 σ1 l1 rh1 rs1 => ⟨ρ1, h1, s, f, h', rh1, rs1, e2, k.le l1⟩
  | rt w => cases e2; exact k
  | bk s => cases e2; exact k
  | ct s => cases e2; exact k
theorem rss_one (h1 : RS X cm st m1) : RSs X cm [st] m1 := pss_one h1
theorem rs_if (hc : RT X cm c mt) (ha : RSs X cm sts m1) (hb : RSs X cm sts' m2) : RS X cm (.If c sts sts' pos) (sIf mt m1 m2) := by
  refine psM (ps_if hc ha hb) fun D σ H q => ?_
  obtain ⟨ρ, h, sw, f, h', rh, rs, e, k⟩ := q
  obtain ⟨x, h1, e1, e2⟩ := bnd_ok e
  refine ⟨ρ, h, sw, x, h1, rh, rs, e1, fun ρ1 H1 l1 rh1 => ?_⟩
  cases x with
  | true => exact iteT ⟨ρ1, h1, sw, f, h', rh1, rs.mono l1, e2, k.le l1⟩
  | false => exact iteF ⟨ρ1, h1, sw, f, h', rh1, rs.mono l1, e2, k.le l1⟩
theorem rs_ret (ha : RE X cm e ma) : RS X cm (.Return (some e) pos) (sRet ma) := by
  refine psM (ps_ret ha) fun D σ H q => ?_
  obtain ⟨ρ, h, sw, f, h', rh, rs, e, k⟩ := q
  obtain ⟨x, h1, e1, e2⟩ := bnd_ok e
  cases e2
  exact ⟨ρ, h, sw, x, h', rh, rs, e1, k⟩
def sRetN : MS := fun _ => rtn (.rt .non)
theorem rs_retN : RS X cm (.Return none pos) sRetN := by
  refine psM ps_retN fun D σ H q => ?_
  obtain ⟨ρ, h, sw, f, h', rh, rs, e, k⟩ := q
  cases e
  exact k ρ H .non .refl rh .non
theorem rs_expr (ha : RE X cm e ma) (hs : swapsWith e none pos.line X.env = pure false := by rfl) : RS X cm (.Expr e pos) (sExp ma) := by
  refine psM (ps_expr ha hs) fun D σ H q => ?_
  obtain ⟨ρ, h, sw, f, h', rh, rs, e, k⟩ := q
  obtain ⟨x, h1, e1, e2⟩ := bnd_ok e
  cases e2
  exact ⟨ρ, h, sw, x, h', rh, rs, e1, fun ρ1 H1 v l1 rh1 _ => k ρ1 H1 σ l1 rh1 (rs.mono l1)⟩
theorem rs_pass : RS X cm (.Pass pos) sNil := by
  refine psM ps_pass fun D σ H q => ?_
  obtain ⟨ρ, h, sw, f, h', rh, rs, e, k⟩ := q
  cases e
  exact k ρ H σ .refl rh rs
theorem rs_brk : RS X cm (.Break pos) sBrk := by
  refine psM ps_break fun D σ H q => ?_
  obtain ⟨ρ, h, sw, f, h', rh, rs, e, k⟩ := q
  cases e
  exact k ρ H σ .refl rh rs
theorem rs_cnt : RS X cm (.Continue pos) sCnt := by
  refine psM ps_continue fun D σ H q => ?_
  obtain ⟨ρ, h, sw, f, h', rh, rs, e, k⟩ := q
  cases e
  exact k ρ H σ .refl rh rs
/-- what is never reached -/
theorem rs_bad : RS X cm st (fun _ => bad) := by
  refine psM ps_never fun D σ H q => ?_
  obtain ⟨ρ, h, sw, f, h', rh, rs, e, k⟩ := q
  cases e
theorem rg_name (i : Nat) {x : Str} (hN : X.N.Nodup) (hv : i ∈ vs := by decide) (hi : X.N[i]? = some x := by rfl) (hx : Loc X.env.scope x := by first | exact Or.inl rfl | exact Or.inr rfl) (hf : X.fn x = true ∨ X.env.scope.names.lookup x = some .local := by first | exact .inl rfl | exact .inr rfl | assumption) : RG X cm vs (.Name x pos) (gNm i) := by
  refine pgM (pg_name (i := i) hN hi hx hf) fun v σ H Q q => ?_
  obtain ⟨ρ, h, sw, w, s, h', rh, rs, rw', e, k⟩ := q
  cases e
  exact k ρ H _ (.set hv) .refl rh (rs.set rw' i)
/-- targets one after another -/
def gsNil : List W → SW → M SW := fun ws sw => if ws.isEmpty then rtn sw else bad
def gsCons (g : MG) (r : List W → SW → M SW) : List W → SW → M SW := fun ws sw => match ws with
  | w :: ws => bnd (g w sw) fun s => r ws s
  | [] => bad
def tGs (K : PySem.W.Frag) (cm : Str → Addr) (ps : List Nat) (m : List W → SW → M SW) : TGs := fun vs σ H Q => ∃ ρ h sw ws s h', RelH K cm ρ h H ∧ RelS K ρ H sw σ ∧ Rels K ρ H ws vs ∧ m ws sw h = .ok s h' ∧ ∀ ρ' H' σ', But ps σ σ' → Le K ρ H ρ' H' → RelH K cm ρ' h' H' → RelS K ρ' H' s σ' → Q σ' H'
abbrev RGs (X : Cx) (cm : Str → Addr) (vs : List Nat) (tg : List Expr) (m : List W → SW → M SW) : Prop := PGs X tg (tGs X.K cm vs m)
theorem rgs_nil : RGs X cm vs [] gsNil := ⟨fun pins s σ H xs us Q I r q => by
  refine pgs_nil.run pins s σ H xs us Q I r ?_
  obtain ⟨ρ, h, sw, ws, s, h', rh, rs, rw', e, k⟩ := q
  cases rw' with
  | nil =>
    cases e
    exact ⟨rfl, k ρ H σ .refl .refl rh rs⟩
  | cons _ _ => cases e⟩
theorem rgs_cons {es : List Expr} {g : MG} {r : List W → SW → M SW} (h1 : RG X cm vs e g) (h2 : RGs X cm vs es r) (hs : (assignEach (e :: es) X.env).map (·.2) = assign e X.env :: (assignEach es X.env).map (·.2) := by rfl) : RGs X cm vs (e :: es) (gsCons g r) := ⟨fun pins s σ H xs us Q I r q => by
  refine (pgs_cons h1 h2 hs).run pins s σ H xs us Q I r ?_
  obtain ⟨ρ, h, sw, ws, s, h', rh, rs, rw', e, k⟩ := q
  cases rw' with
  | nil => cases e
  | cons q1 q2 =>
    obtain ⟨s1, h1, e1, e2⟩ := bnd_ok e
    refine ⟨_, _, rfl, ρ, h, sw, _, s1, h1, rh, rs, q1, e1, fun ρ1 H1 σ1 b1 l1 rh1 rs1 => ?_⟩
    exact ⟨ρ1, h1, s1, _, s, h', rh1, rs1, q2.mono l1, e2, fun ρ2 H2 σ2 b2 l2 => k ρ2 H2 σ2 (b1.trans b2) (l1.trans l2)⟩⟩
def gTu (n : Nat) (r : List W → SW → M SW) : MG := fun w sw => match w with
  | .tup ws => if ws.length = n then r ws sw else bad
  | _ => bad
theorem rg_tup {es : List Expr} {r : List W → SW → M SW} {k0 : Nat} {n : Nat} (hc : X.calm = true) (h : RGs X cm vs es r) (hn : (assignEach es X.env).length = n := by rfl) (hst : (assignEach es X.env).findIdx? (·.1) = none := by rfl) : RG X cm vs (.Tuple es k0 pos) (gTu n r) := by
  refine pgM (pg_tup hc h hn hst) fun v σ H Q q => ?_
  obtain ⟨ρ, h, sw, w, s, h', rh, rs, rw', e, k⟩ := q
  cases rw' with
  | tup hq r =>
    have e' : (if _ then _ else bad) h = R.ok s h' := e
    split at e'
    · rename_i hl
      exact ⟨_, _, rfl, hq, by rw [← r.length]; exact hl, ρ, h, sw, _, s, h', rh, rs, r, e', k⟩
    · cases e'
  | _ => cases e
theorem rs_asg (he : RE X cm e ma) (hg : RG X cm vs tg g) (hs : swapsWithSole [tg] e pos.line X.env = pure false := by rfl) (hw : swappedStores [tg] e X.env = pure none := by rfl)
    (h1 : (assignEach [tg] X.env).map (·.2) = [assign tg X.env] := by rfl) : RS X cm (.Assign [tg] e pos) (sAsg g ma) := by
  refine psM (ps_asg he hg hs hw h1) fun D σ H q => ?_
  obtain ⟨ρ, h, sw, f, h', rh, rs, e, k⟩ := q
  obtain ⟨x, h1, e1, e2⟩ := bnd_ok e
  obtain ⟨s, h2, e3, e4⟩ := bnd_ok e2
  cases e4
  refine ⟨ρ, h, sw, x, h1, rh, rs, e1, fun ρ1 H1 v l1 rh1 rv => ?_⟩
  exact ⟨ρ1, h1, sw, x, s, h', rh1, rs.mono l1, rv, e3, fun ρ2 H2 σ2 _ l2 => k ρ2 H2 σ2 (l1.trans l2)⟩
/-- name op= e -/
def sAug (i : Nat) (f : W → W → M W) (ma : ME) : MS := fun sw => bnd (mVar i sw) fun x => bnd (ma sw) fun y => bnd (f x y) fun z => rtn (.nx (sw.set i (some z)))
def IpW (K : PySem.W.Frag) (cm : Str → Addr) (r : TIp) (f : W → W → M W) : Prop :=
  ∀ ρ h H x y x' y' z h' Q, RelH K cm ρ h H → Rel K ρ H x x' → Rel K ρ H y y' → f x y h = .ok z h' → KE K cm ρ H z h' Q → r x' y' H Q
theorem rs_aug (i : Nat) {x : Str} {op : Operator} {ti : TIp} {f : W → W → M W} {pos' : Pos} (hN : X.N.Nodup) (he : RE X cm e ma) (ho : PIp X op ti) (ow : IpW X.K cm ti f) (hi : X.N[i]? = some x := by rfl) (hx : Loc X.env.scope x := by first | exact Or.inl rfl | exact Or.inr rfl)
    (hf : X.fn x = true ∨ X.env.scope.names.lookup x = some .local := by first | exact .inl rfl | exact .inr rfl | assumption) : RS X cm (.AugAssign (.Name x pos') op e pos) (sAug i f ma) := by
  refine psM (ps_aug (i := i) hN hi hx he ho hf) fun D σ H q => ?_
  obtain ⟨ρ, h, sw, fl, h', rh, rs, e, k⟩ := q
  obtain ⟨x0, h0, e0, e⟩ := bnd_ok e
  obtain ⟨y, h1, e1, e2⟩ := bnd_ok e
  obtain ⟨z, h2, e3, e4⟩ := bnd_ok e2
  cases e4
  unfold mVar at e0
  split at e0
  · cases e0
    obtain ⟨v, hv, rv⟩ := rs.2 i _ (by assumption)
    refine ⟨v, hv, ρ, h, sw, y, h1, rh, rs, e1, fun ρ1 H1 y' l1 rh1 ry => ?_⟩
    refine ow ρ1 h1 H1 _ _ _ _ _ _ _ rh1 (rv.mono l1) ry e3 fun ρ2 H2 z' l2 rh2 rz => ?_
    exact k ρ2 H2 _ (l1.trans l2) rh2 ((rs.mono (l1.trans l2)).set rz i)
  · cases e0
/-- o[i] = e, o[i] of a list -/
def wSet (o i v : W) : M Unit := fun h => match o, i with
  | .ref p, .int k => match h[p]? with
    | some (.lst xs) => match ixN xs.length k with
      | some j => .ok () (h.set p (.lst (xs.set j v)))
      | none => .no
    | _ => .no
  | _, _ => .no
def gSubL (mo mi : ME) : MG := fun w sw => bnd (mo sw) fun o => bnd (mi sw) fun i => bnd (wSet o i w) fun _ => rtn sw
theorem rg_sub {o i : Expr} {mo mi : ME} (ho : RE X cm o mo) (hi : RE X cm i mi)
    (ha : ∀ v, assign (.Subscript o i pos) X.env v = (do
      let ov ← holding [v] (eval o X.env)
      let iv ← holding [v, ov] (eval i X.env)
      standAt pos
      holding [v, ov, iv] (setItem ov iv v)
      release [v, ov, iv] []) := by intro _; rfl) : RG X cm vs (.Subscript o i pos) (gSubL mo mi) := by
  refine pgM (pg_sub ho hi set_list ha) fun v σ H Q q => ?_
  obtain ⟨ρ, h, sw, w, s, h', rh, rs, rw', e, k⟩ := q
  obtain ⟨x, h1, e1, e2⟩ := bnd_ok e
  obtain ⟨y, h2, e3, e4⟩ := bnd_ok e2
  obtain ⟨u, h3, e5, e6⟩ := bnd_ok e4
  cases e6
  refine ⟨ρ, h, sw, x, h1, rh, rs, e1, fun ρ1 H1 x' l1 rh1 rx => ?_⟩
  refine ⟨ρ1, h1, sw, y, h2, rh1, rs.mono l1, e3, fun ρ2 H2 y' l2 rh2 ry => ?_⟩
  cases rx with
  | @ref p a hp =>
    cases ry with
    | int j =>
      have e5' : (match h2[p]? with
        | some (.lst xs) => (match ixN xs.length j with
          | some j => R.ok () (h2.set p (.lst (xs.set j w)))
          | none => R.no)
        | _ => R.no) = .ok u h' := e5
      obtain ⟨o, ho, ro⟩ := rh2.at (w := .non) (pre_get l2.pre hp)
      rw [ho] at e5'
      cases o with
      | lst xs =>
        obtain ⟨ys, ea, rxs⟩ := ro
        simp only at e5'
        split at e5'
        · rename_i jj hj
          cases e5'
          have lu : Le X.K ρ2 H2 ρ2 (upd H2 a (.lst (ys.set jj v))) := le_mut ea trivial
          refine ⟨a, ys, j, jj, rfl, rfl, ea, by rw [← rxs.length]; exact hj, ?_⟩
          refine k ρ2 _ σ .refl (l1.trans (l2.trans lu)) (rh2.set (pre_get l2.pre hp) ⟨_, upd_same, ?_⟩) (rs.mono (l1.trans (l2.trans lu)))
          exact (rxs.set (rw'.mono (l1.trans l2)) jj).mono lu
        · cases e5'
      | _ => cases e5'
    | _ => cases e5
  | _ => cases ry <;> cases e5
end

/-! ### while -/
def sWhile (c : MT) (b : MS) : Nat → MS
  | 0 => fun _ => bad
  | n + 1 => fun sw => bnd (c sw) fun x => if x = true then bnd (b sw) fun f => match f with
      | .nx s => sWhile c b n s
      | .ct s => sWhile c b n s
      | .bk s => rtn (.nx s)
      | .rt w => rtn (.rt w)
    else rtn (.nx sw)
section
variable {X : Cx} {cm : Str → Addr} {c : Expr} {body : List Stmt} {mt : MT} {m : MS} {pos : Pos}
theorem rs_while (N : Nat) (hp : PassesOwn (model X.prog X.w) X.A X.env X.xe) (hc : RT X cm c mt) (hb : RSs X cm body m) : RS X cm (.While c body [] pos) (sWhile mt m N) := by
  refine psM (ps_while hp hc hb) fun D σ H q => ?_
  obtain ⟨ρ, h, sw, f, h', rh, rs, e, k⟩ := q
  refine ⟨fun n σ1 H1 => ∃ ρ1 h1 sw1, Le X.K ρ H ρ1 H1 ∧ RelH X.K cm ρ1 h1 H1 ∧ RelS X.K ρ1 H1 sw1 σ1 ∧ sWhile mt m n sw1 h1 = .ok f h', ⟨N, ρ, h, sw, .refl, rh, rs, e⟩, fun n σ1 H1 w => ?_⟩
  obtain ⟨ρ1, h1, sw1, l1, rh1, rs1, e1⟩ := w
  cases n with
  | zero => cases e1
  | succ n =>
    obtain ⟨x, h2, e2, e3⟩ := bnd_ok e1
    refine ⟨ρ1, h1, sw1, x, h2, rh1, rs1, e2, fun ρ2 H2 l2 rh2 => ?_⟩
    cases x with
    | false =>
      cases e3
      exact iteF (k ρ2 H2 σ1 (l1.trans l2) rh2 (rs1.mono l2))
    | true =>
      obtain ⟨f1, h3, e4, e5⟩ := bnd_ok e3
      refine iteT ⟨fun σ3 H3 => ∃ ρ3 h3 sw3, Le X.K ρ H ρ3 H3 ∧ RelH X.K cm ρ3 h3 H3 ∧ RelS X.K ρ3 H3 sw3 σ3 ∧ sWhile mt m n sw3 h3 = .ok f h', fun σ3 H3 z => ⟨n, Nat.lt_succ_self n, z⟩, ?_⟩
      refine ⟨ρ2, h2, sw1, f1, h3, rh2, rs1.mono l2, e4, ?_⟩
      cases f1 with
      | nx s => exact fun ρ3 H3 σ3 l3 rh3 rs3 => ⟨ρ3, h3, s, l1.trans (l2.trans l3), rh3, rs3, e5⟩
      | ct s => exact fun ρ3 H3 σ3 l3 rh3 rs3 => ⟨ρ3, h3, s, l1.trans (l2.trans l3), rh3, rs3, e5⟩
      | bk s =>
        cases e5
        exact fun ρ3 H3 σ3 l3 rh3 rs3 => k ρ3 H3 σ3 (l1.trans (l2.trans l3)) rh3 rs3
      | rt w =>
        cases e5
        exact fun ρ3 H3 v l3 rh3 rv => k ρ3 H3 v (l1.trans (l2.trans l3)) rh3 rv
end

/-! ### for -/
/-- what is walked: the items, and what must stand still meanwhile -/
inductive Src where
  | lst (p : Nat) | tup (xs : List W) | rol (xs : List W) | rng (lo : Int) (n : Nat) | str (x : Str)
/-- the item at a turn; none: the end -/
def Src.item (s : Src) (i : Nat) (h : Hw) : Option (Option W) := match s with
  | .lst p => match h[p]? with
    | some (.lst xs) => some xs[i]?
    | _ => none
  | .tup xs => some xs[i]?
  | .rol xs => some xs[i]?
  | .rng lo n => some (if i < n then some (.int (lo + i)) else none)
  | .str x => some (x.cps[i]?.map fun c => .str ⟨#[c]⟩)
def sFor (src : Src) (g : MG) (b : MS) : Nat → Nat → MS
  | _, 0 => fun _ => bad
  | i, n + 1 => fun sw h => match src.item i h with
    | none => .no
    | some none => .ok (.nx sw) h
    | some (some x) => bnd (g x sw) (fun s => bnd (b s) fun f => match f with
      | .nx s => sFor src g b (i + 1) n s
      | .ct s => sFor src g b (i + 1) n s
      | .bk s => rtn (.nx s)
      | .rt w => rtn (.rt w)) h
/-- how a source lies: its iterator -/
def SrcR (K : PySem.W.Frag) (ρ : List Addr) (H : Hp) (src : Src) (J : It) : Prop := match src with
  | .lst p => ∃ a, ρ[p]? = some a ∧ J = Itl K a
  | .tup xs => ∃ a vs, SqT K H a vs ∧ Rels K ρ H xs vs ∧ J = Itt K a
  | .rol xs => ∃ a vs, SqP K H a vs ∧ Rels K ρ H xs vs ∧ J = Itl K a
  | .rng lo n => J = Itr lo n
  | .str x => J = Its x
theorem SrcR.mono {K : PySem.W.Frag} {ρ ρ' : List Addr} {H H' : Hp} {src : Src} {J : It} (l : Le K ρ H ρ' H') (r : SrcR K ρ H src J) : SrcR K ρ' H' src J := by
  cases src with
  | lst p => obtain ⟨a, h1, h2⟩ := r; exact ⟨a, pre_get l.pre h1, h2⟩
  | tup xs => obtain ⟨a, vs, h1, h2, h3⟩ := r; exact ⟨a, vs, l.sq _ _ h1, h2.mono l, h3⟩
  | rol xs => obtain ⟨a, vs, h1, h2, h3⟩ := r; exact ⟨a, vs, l.sl _ _ h1, h2.mono l, h3⟩
  | rng lo n => exact r
  | str x => exact r
theorem get_none {K : PySem.W.Frag} {ρ : List Addr} {H : Hp} {ws : List W} {vs : List V} {i : Nat} (r : Rels K ρ H ws vs) (e : ws[i]? = none) : vs.length ≤ i := by
  rw [← r.length]
  exact List.getElem?_eq_none_iff.mp e
theorem SqT.one {K : PySem.W.Frag} {H : Hp} {a : Addr} {xs ys : List V} (h : SqT K H a xs) (h' : SqT K H a ys) : True := trivial
/-- a turn of the iterator -/
theorem src_go {K : PySem.W.Frag} {cm : Str → Addr} {ρ : List Addr} {h : Hw} {H : Hp} {src : Src} {J : It} {i : Nat} {x : W} (rh : RelH K cm ρ h H) (r : SrcR K ρ H src J) (e : src.item i h = some (some x)) :
    J.go i H ∧ ∀ v H', J.yld i H v H' → H' = H ∧ Rel K ρ H x v := by
  cases src with
  | lst p =>
    obtain ⟨a, hp, rfl⟩ := r
    obtain ⟨o, ho, ro⟩ := rh.at (w := .non) hp
    have e' : (match h[p]? with
      | some (.lst xs) => some xs[i]?
      | _ => none) = some (some x) := e
    rw [ho] at e'
    cases o with
    | lst xs =>
      obtain ⟨vs, ea, rx⟩ := ro
      have e2 : xs[i]? = some x := Option.some.inj e'
      obtain ⟨v, hv, rv⟩ := rx.get e2
      refine ⟨⟨vs, v, .of ea, hv⟩, fun v' H' y => ⟨y.1, ?_⟩⟩
      have := y.2 vs (.of ea)
      rw [hv] at this
      cases this
      exact rv
    | _ => cases e'
  | tup xs =>
    obtain ⟨a, vs, hq, rx, rfl⟩ := r
    have e2 : xs[i]? = some x := Option.some.inj e
    obtain ⟨v, hv, rv⟩ := rx.get e2
    refine ⟨⟨vs, v, hq, hv⟩, fun v' H' y => ⟨y.1, ?_⟩⟩
    have := y.2 vs hq
    rw [hv] at this
    cases this
    exact rv
  | rol xs =>
    obtain ⟨a, vs, hq, rx, rfl⟩ := r
    have e2 : xs[i]? = some x := Option.some.inj e
    obtain ⟨v, hv, rv⟩ := rx.get e2
    refine ⟨⟨vs, v, hq.sq, hv⟩, fun v' H' y => ⟨y.1, ?_⟩⟩
    have := y.2 vs hq.sq
    rw [hv] at this
    cases this
    exact rv
  | rng lo n =>
    have r' : J = Itr lo n := r
    subst r'
    have e2 : (if i < n then some (W.int (lo + i)) else none) = some x := Option.some.inj e
    split at e2
    · cases e2
      refine ⟨by assumption, fun v H' y => ⟨y.1, ?_⟩⟩
      rw [y.2]
      exact .int _
    · cases e2
  | str z =>
    have r' : J = Its z := r
    subst r'
    have e2 : (z.cps[i]?.map fun c => W.str ⟨#[c]⟩) = some x := Option.some.inj e
    cases q : z.cps[i]? with
    | none => rw [q] at e2; cases e2
    | some c =>
      rw [q] at e2
      cases e2
      refine ⟨(Array.getElem?_eq_some_iff.mp q).1, fun v H' y => ⟨y.1, ?_⟩⟩
      obtain ⟨c', h1, h2⟩ := y.2
      rw [q] at h1
      cases h1
      rw [h2]
      exact .str _
theorem src_stop {K : PySem.W.Frag} {cm : Str → Addr} {ρ : List Addr} {h : Hw} {H : Hp} {src : Src} {J : It} {i : Nat} (rh : RelH K cm ρ h H) (r : SrcR K ρ H src J) (e : src.item i h = some none) : J.stop i H := by
  cases src with
  | lst p =>
    obtain ⟨a, hp, rfl⟩ := r
    obtain ⟨o, ho, ro⟩ := rh.at (w := .non) hp
    have e' : (match h[p]? with
      | some (.lst xs) => some xs[i]?
      | _ => none) = some none := e
    rw [ho] at e'
    cases o with
    | lst xs =>
      obtain ⟨vs, ea, rx⟩ := ro
      exact ⟨vs, .of ea, get_none rx (Option.some.inj e')⟩
    | _ => cases e'
  | tup xs =>
    obtain ⟨a, vs, hq, rx, rfl⟩ := r
    exact ⟨vs, hq, get_none rx (Option.some.inj e)⟩
  | rol xs =>
    obtain ⟨a, vs, hq, rx, rfl⟩ := r
    exact ⟨vs, hq.sq, get_none rx (Option.some.inj e)⟩
  | rng lo n =>
    have r' : J = Itr lo n := r
    subst r'
    have e2 : (if i < n then some (W.int (lo + i)) else none) = none := Option.some.inj e
    split at e2
    · cases e2
    · exact Nat.le_of_not_lt (by assumption)
  | str z =>
    have r' : J = Its z := r
    subst r'
    have e2 : (z.cps[i]?.map fun c => W.str ⟨#[c]⟩) = none := Option.some.inj e
    cases q : z.cps[i]? with
    | none => exact Array.getElem?_eq_none_iff.mp q
    | some c => rw [q] at e2; cases e2
/-- a walk's start: the source, and how many turns it has at most -/
abbrev MI := SW → M (Src × Nat)
def tI (K : PySem.W.Frag) (cm : Str → Addr) (m : MI) : TI := fun σ H R => ∃ ρ h sw src h', RelH K cm ρ h H ∧ RelS K ρ H sw σ ∧ m sw h = .ok src h' ∧ ∀ ρ' H' J, Le K ρ H ρ' H' → RelH K cm ρ' h' H' → SrcR K ρ' H' src.1 J → R J H'
abbrev RI (X : Cx) (cm : Str → Addr) (tg it : Expr) (m : MI) : Prop := PI X tg it (tI X.K cm m)
theorem piM {X : Cx} {tg it : Expr} {t t' : TI} (p : PI X tg it t) (f : ∀ σ H R, t' σ H R → t σ H R) : PI X tg it t' := ⟨fun pins s σ H R I q => p.run pins s σ H R I (f σ H R q)⟩
def sForI (mi : MI) (g : MG) (b : MS) : MS := fun sw => bnd (mi sw) fun src => sFor src.1 g b 0 (src.2 + 1) sw
section
variable {X : Cx} {cm : Str → Addr} {tg it : Expr} {body : List Stmt} {mi : MI} {g : MG} {m : MS} {pos : Pos} {vs : List Nat}
theorem rs_for (hp : PassesOwn (model X.prog X.w) X.A X.env X.xe) (hc : X.calm = true) (hi : RI X cm tg it mi) (hg : RG X cm vs tg g) (hb : RSs X cm body m) (hs : ∀ x, foldedSetIterable it X.env x = pure x := by intro _; rfl) : RS X cm (.For tg it body [] pos) (sForI mi g m) := by
  refine psM (ps_for hp hc hi hg hb hs) fun D σ H q => ?_
  obtain ⟨ρ, h, sw, f, h', rh, rs, e, k⟩ := q
  obtain ⟨src, h0, e0, e⟩ := bnd_ok e
  refine ⟨ρ, h, sw, src, h0, rh, rs, e0, fun ρ0 H0 J l0 rh0 rj => ?_⟩
  refine ⟨fun i n σ1 H1 => ∃ ρ1 h1 sw1, Le X.K ρ H ρ1 H1 ∧ RelH X.K cm ρ1 h1 H1 ∧ RelS X.K ρ1 H1 sw1 σ1 ∧ SrcR X.K ρ1 H1 src.1 J ∧ sFor src.1 g m i n sw1 h1 = .ok f h', ⟨_, ρ0, h0, sw, l0, rh0, rs.mono l0, rj, e⟩, fun i n σ1 H1 w => ?_⟩
  obtain ⟨ρ1, h1, sw1, l1, rh1, rs1, rj1, e1⟩ := w
  cases n with
  | zero => cases e1
  | succ n =>
    have e1' : (match src.1.item i h1 with
      | none => (EL.R.no : EL.R Fl)
      | some none => .ok (Fl.nx sw1) h1
      | some (some x) => bnd (g x sw1) (fun s => bnd (m s) fun f => match f with
        | .nx s => sFor src.1 g m (i + 1) n s
        | .ct s => sFor src.1 g m (i + 1) n s
        | .bk s => rtn (.nx s)
        | .rt w => rtn (.rt w)) h1) = .ok f h' := e1
    split at e1'
    · cases e1'
    · rename_i he
      cases e1'
      exact .inl ⟨src_stop rh1 rj1 he, k ρ1 H1 σ1 l1 rh1 rs1⟩
    · rename_i x he
      obtain ⟨s2, h2, e2, e3⟩ := bnd_ok e1'
      obtain ⟨f1, h3, e4, e5⟩ := bnd_ok e3
      obtain ⟨go, yl⟩ := src_go rh1 rj1 he
      refine .inr ⟨go, fun σ3 H3 => ∃ ρ3 h3 sw3, Le X.K ρ H ρ3 H3 ∧ RelH X.K cm ρ3 h3 H3 ∧ RelS X.K ρ3 H3 sw3 σ3 ∧ SrcR X.K ρ3 H3 src.1 J ∧ sFor src.1 g m (i + 1) n sw3 h3 = .ok f h', fun σ3 H3 z => ⟨n, Nat.lt_succ_self n, z⟩, fun v H' y => ?_⟩
      obtain ⟨eh, rv⟩ := yl v H' y
      subst eh
      refine ⟨ρ1, h1, sw1, x, s2, h2, rh1, rs1, rv, e2, fun ρ2 H2 σ2 _ l2 rh2 rs2 => ?_⟩
      refine ⟨ρ2, h2, s2, f1, h3, rh2, rs2, e4, ?_⟩
      cases f1 with
      | nx s => exact fun ρ3 H3 σ3 l3 rh3 rs3 => ⟨ρ3, h3, s, l1.trans (l2.trans l3), rh3, rs3, (rj1.mono l2).mono l3, e5⟩
      | ct s => exact fun ρ3 H3 σ3 l3 rh3 rs3 => ⟨ρ3, h3, s, l1.trans (l2.trans l3), rh3, rs3, (rj1.mono l2).mono l3, e5⟩
      | bk s =>
        cases e5
        exact fun ρ3 H3 σ3 l3 rh3 rs3 => k ρ3 H3 σ3 (l1.trans (l2.trans l3)) rh3 rs3
      | rt w =>
        cases e5
        exact fun ρ3 H3 v l3 rh3 rv => k ρ3 H3 v (l1.trans (l2.trans l3)) rh3 rv
/-- over a list -/
def iSeq (a : ME) : MI := fun sw => bnd (a sw) fun x h => match x with
  | .ref p => match h[p]? with
    | some (.lst xs) => .ok (.lst p, xs.length) h
    | _ => .no
  | .rol xs => .ok (.rol xs, xs.length) h
  | _ => .no
theorem ri_lst {ma : ME} (ha : RE X cm it ma) : RI X cm tg it (iSeq ma) := by
  refine piM (pi_list ha) fun σ H R q => ?_
  obtain ⟨ρ, h, sw, src, h', rh, rs, e, k⟩ := q
  obtain ⟨x, h1, e1, e2⟩ := bnd_ok e
  refine ⟨ρ, h, sw, x, h1, rh, rs, e1, fun ρ1 H1 v l1 rh1 rx => ?_⟩
  cases rx with
  | @ref p a hp =>
    obtain ⟨o, ho, ro⟩ := rh1.at (w := .non) hp
    simp only at e2
    rw [ho] at e2
    cases o with
    | lst xs =>
      obtain ⟨vs, ea, rx⟩ := ro
      cases e2
      exact ⟨a, rfl, ⟨vs, .of ea⟩, k ρ1 H1 _ l1 rh1 ⟨a, hp, rfl⟩⟩
    | _ => cases e2
  | rol hq r =>
    cases e2
    exact ⟨_, rfl, ⟨_, hq.sq⟩, k ρ1 H1 _ l1 rh1 ⟨_, _, hq, r, rfl⟩⟩
  | _ => cases e2
def iTu (a : ME) : MI := fun sw => bnd (a sw) fun x h => match x with
  | .tup xs => .ok (.tup xs, xs.length) h
  | _ => .no
theorem ri_tup {ma : ME} (ha : RE X cm it ma) : RI X cm tg it (iTu ma) := by
  refine piM (pi_tup ha) fun σ H R q => ?_
  obtain ⟨ρ, h, sw, src, h', rh, rs, e, k⟩ := q
  obtain ⟨x, h1, e1, e2⟩ := bnd_ok e
  refine ⟨ρ, h, sw, x, h1, rh, rs, e1, fun ρ1 H1 v l1 rh1 rx => ?_⟩
  cases rx with
  | tup hq r =>
    cases e2
    exact ⟨_, rfl, ⟨_, hq⟩, k ρ1 H1 _ l1 rh1 ⟨_, _, hq, r, rfl⟩⟩
  | _ => cases e2
/-- over whatever it is: a list, a tuple, a text -/
def itAny (K : PySem.W.Frag) (tl : TE) : TI := fun σ H R => tl σ H fun x H1 =>
  (∃ a, x = .ref a ∧ (∃ xs, SqL K H1 a xs) ∧ R (Itl K a) H1) ∨ (∃ a, x = .ref a ∧ (∃ xs, SqT K H1 a xs) ∧ R (Itt K a) H1) ∨ ∃ z, x = .str z ∧ R (Its z) H1
theorem pi_any {l : Expr} {tl : TE} (hl : PE X l tl) : PI X tg l (itAny X.K tl) := by
  refine ⟨fun pins s σ H R I q => thn (hl.run pins s σ H _ I q) fun v s1 z => ?_⟩
  obtain ⟨x, H1, I1, r1, z⟩ := z
  rcases z with ⟨a, rfl, ⟨xs, hx⟩, z⟩ | ⟨a, rfl, ⟨xs, hx⟩, z⟩ | ⟨y, rfl, z⟩
  · cases r1
    obtain ⟨its, _, pl, _⟩ := I1.list hx
    exact wpAny_pyIter_list pl.isList (pi_one (tk := s1.toks) I1 _ (turn_list a _) ⟨_, Heap.get?_push_size _ rfl, rfl, rfl⟩ z)
  · cases r1
    obtain ⟨its, _, pl, _⟩ := I1.tuple hx
    exact wpAny_pyIter_tuple pl (pi_one (tk := s1.toks) I1 _ (turn_tuple a _) ⟨_, Heap.get?_push_size _ rfl, rfl, rfl⟩ z)
  · obtain ⟨t, rfl⟩ := r1
    cases hw : y.cps.all (· < 128) with
    | true => exact wpAny_pyIter_ascii hw (pi_one (tk := s1.toks) I1 _ (turn_str _ y t _ (.inl rfl)) ⟨_, Heap.get?_push_size _ rfl, rfl, rfl⟩ z)
    | false => exact wpAny_pyIter_wide hw (pi_one (tk := s1.toks) I1 _ (turn_str _ y t _ (.inr rfl)) ⟨_, Heap.get?_push_size _ rfl, rfl, rfl⟩ z)
def iAny (a : ME) : MI := fun sw => bnd (a sw) fun x h => match x with
  | .ref p => match h[p]? with
    | some (.lst xs) => .ok (.lst p, xs.length) h
    | _ => .no
  | .rol xs => .ok (.rol xs, xs.length) h
  | .tup xs => .ok (.tup xs, xs.length) h
  | .str x => .ok (.str x, x.cps.size) h
  | _ => .no
theorem ri_any {ma : ME} (ha : RE X cm it ma) : RI X cm tg it (iAny ma) := by
  refine piM (pi_any ha) fun σ H R q => ?_
  obtain ⟨ρ, h, sw, src, h', rh, rs, e, k⟩ := q
  obtain ⟨x, h1, e1, e2⟩ := bnd_ok e
  refine ⟨ρ, h, sw, x, h1, rh, rs, e1, fun ρ1 H1 v l1 rh1 rx => ?_⟩
  cases rx with
  | @ref p a hp =>
    obtain ⟨o, ho, ro⟩ := rh1.at (w := .non) hp
    simp only at e2
    rw [ho] at e2
    cases o with
    | lst xs =>
      obtain ⟨vs, ea, rx⟩ := ro
      cases e2
      exact .inl ⟨a, rfl, ⟨vs, .of ea⟩, k ρ1 H1 _ l1 rh1 ⟨a, hp, rfl⟩⟩
    | _ => cases e2
  | rol hq r =>
    cases e2
    exact .inl ⟨_, rfl, ⟨_, hq.sq⟩, k ρ1 H1 _ l1 rh1 ⟨_, _, hq, r, rfl⟩⟩
  | tup hq r =>
    cases e2
    exact .inr (.inl ⟨_, rfl, ⟨_, hq⟩, k ρ1 H1 _ l1 rh1 ⟨_, _, hq, r, rfl⟩⟩)
  | str z =>
    cases e2
    exact .inr (.inr ⟨z, rfl, k ρ1 H1 _ l1 rh1 rfl⟩)
  | _ => cases e2
def big : Int := 4611686018427387904
def iRg1 (a : ME) : MI := fun sw => bnd (a sw) fun x h => match x with
  | .int j => if -big ≤ j ∧ j < big then .ok (.rng 0 j.toNat, j.toNat) h else .no
  | _ => .no
theorem ri_rng1 {a : Expr} {ma : ME} {p : Pos} (hm : X.mg "range" = none) (ha : RE X cm a ma) (hg : Gl X "range" := by rfl) (hs : starEach [a] X.env = [(false, eval a X.env)] := by rfl) (hs' : starEach (a :: []) X.env = (false, eval a X.env) :: starEach [] X.env := by rfl) : RI X cm tg (.Call (.Name "range" p) [a] [] pos) (iRg1 ma) := by
  refine piM (pi_range1 hg hm (ra_cons ha ra_nil hs') hs) fun σ H R q => ?_
  obtain ⟨ρ, h, sw, src, h', rh, rs, e, k⟩ := q
  obtain ⟨x, h1, e1, e2⟩ := bnd_ok e
  refine ⟨ρ, h, sw, [x], h1, rh, rs, ?_, fun ρ1 H1 vs l1 rh1 rx => ?_⟩
  · show bnd (ma sw) _ h = _
    unfold bnd
    rw [e1]
    rfl
  · cases x with
    | int j =>
      cases rx with
      | cons r t =>
        cases r
        cases t
        have e2' : (if -big ≤ j ∧ j < big then EL.R.ok (Src.rng 0 j.toNat, j.toNat) h1 else EL.R.no) = EL.R.ok src h' := e2
        split at e2'
        · rename_i hj
          cases e2'
          exact ⟨j, rfl, hj.1, hj.2, k ρ1 H1 _ l1 rh1 rfl⟩
        · cases e2'
    | _ => cases e2
def iRg2 (a b : ME) : MI := fun sw => bnd (a sw) fun x => bnd (b sw) fun y h => match x, y with
  | .int i, .int j => if (-big ≤ i ∧ i < big) ∧ -big ≤ j ∧ j < big then .ok (.rng i (j - i).toNat, (j - i).toNat) h else .no
  | _, _ => .no
theorem ri_rng2 {a b : Expr} {ma mb : ME} {p : Pos} (hm : X.mg "range" = none) (ha : RE X cm a ma) (hb : RE X cm b mb) (hg : Gl X "range" := by rfl) (hs : starEach [a, b] X.env = [(false, eval a X.env), (false, eval b X.env)] := by rfl) (hs2 : starEach [b] X.env = [(false, eval b X.env)] := by rfl)
    (hs' : starEach (a :: [b]) X.env = (false, eval a X.env) :: starEach [b] X.env := by rfl) (hs'' : starEach (b :: []) X.env = (false, eval b X.env) :: starEach [] X.env := by rfl) : RI X cm tg (.Call (.Name "range" p) [a, b] [] pos) (iRg2 ma mb) := by
  refine piM (pi_range2 hg hm (ra_cons ha (ra_cons hb ra_nil hs'') hs') hs hs2) fun σ H R q => ?_
  obtain ⟨ρ, h, sw, src, h', rh, rs, e, k⟩ := q
  obtain ⟨x, h1, e1, e2⟩ := bnd_ok e
  obtain ⟨y, h2, e3, e4⟩ := bnd_ok e2
  refine ⟨ρ, h, sw, [x, y], h2, rh, rs, ?_, fun ρ1 H1 vs l1 rh1 rx => ?_⟩
  · show bnd (ma sw) (fun x => bnd (bnd (mb sw) _) _) h = _
    simp only [bnd, e1, e3]
    rfl
  · cases x with
    | int i =>
      cases y with
      | int j =>
        cases rx with
        | cons r t =>
          cases r
          cases t with
          | cons r t =>
            cases r
            cases t
            have e2' : (if (-big ≤ i ∧ i < big) ∧ -big ≤ j ∧ j < big then EL.R.ok (Src.rng i (j - i).toNat, (j - i).toNat) h2 else EL.R.no) = EL.R.ok src h' := e4
            split at e2'
            · rename_i hj
              cases e2'
              exact ⟨i, j, rfl, ⟨hj.1.1, hj.1.2, hj.2.1, hj.2.2⟩, k ρ1 H1 _ l1 rh1 rfl⟩
            · cases e2'
      | _ => cases e4
    | _ => cases e4
end
end EL
namespace EL
open PySem PySem.Spec L2
open PyProof.Rows hiding St

/-! ### a def -/
def finF (f : Fl) : M W := match f with
  | .rt w => rtn w
  | .nx _ => rtn .non
  | _ => bad
def mFn (n N : Nat) (m : MS) : List W → M W := fun ws => if ws.length = n then bnd (m (ws.map some ++ List.replicate (N - n) none)) finF else bad
theorem relS_start {K : PySem.W.Frag} {ρ : List Addr} {H : Hp} {ws : List W} {vs : List V} {N : List Str} (r : Rels K ρ H ws vs) : RelS K ρ H (ws.map some ++ List.replicate (N.length - ws.length) none) (L2.start N vs) := by
  unfold L2.start
  rw [← r.length]
  refine ⟨by simp [r.length], fun i w e => ?_⟩
  by_cases hi : i < ws.length
  · rw [List.getElem?_append_left (by simpa using hi), List.getElem?_map] at e
    cases hw : ws[i]? with
    | none => rw [hw] at e; cases e
    | some w' =>
      rw [hw] at e
      cases e
      obtain ⟨v, hv, rv⟩ := r.get hw
      refine ⟨v, ?_, rv⟩
      rw [List.getElem?_append_left (by rw [List.length_map, ← r.length]; exact hi), List.getElem?_map, hv]
      rfl
  · rw [List.getElem?_append_right (by simpa using hi)] at e
    rw [List.getElem?_replicate] at e
    split at e <;> cases e
section
variable {P : Program} {w : World} {K : PySem.W.Frag} {mg : Str → Option Value} {base : Heap}
theorem efn {x qual : Str} {st : Stmt} {f : Addr} {fd : FuncData} {N ps : List Str} {k : Nat} {cm : Str → Addr} {m : MS} (F : Fun K x qual st f fd) (S : FnScope N ps (defScope st))
    (hb : ∀ (cdv : Value) (A : Around) (outer : List Env) (s : Shared) (H : Hp) (E : XK), Room k (A.deeper (envOfC qual (defScope st) s.heap.objs.size f cdv)) → RSs (cxOf CX0 P w K mg base N qual (defScope st) f cdv A outer s H E).nox cm (defBody st) m) :
    FnOk P w K mg base CX0 (k + 1) f fd ps (spM K cm (mFn ps.length N.length m)) := by
  refine F.ok S (fun vs H Q E h => ?_) (fun cdv A outer s H vs Q E hr h => ?_)
  · obtain ⟨ρ, h, ws, w, h', rh, rs, e, k⟩ := h
    unfold mFn at e
    split at e
    · rw [← rs.length]
      assumption
    · cases e
  · refine ⟨_, hb cdv A outer s H E hr, ?_⟩
    obtain ⟨ρ, h, ws, w, h', rh, rs, e, k⟩ := h
    unfold mFn at e
    split at e
    · rename_i hl
      obtain ⟨fl, h1, e1, e2⟩ := bnd_ok e
      refine ⟨ρ, h, _, fl, h1, rh, ?_, e1, ?_⟩
      · have q := relS_start (N := N) rs
        rw [hl] at q
        exact q
      · cases fl with
        | rt w =>
          cases e2
          exact k
        | nx s =>
          cases e2
          exact fun ρ' H' σ' l rh' _ => k ρ' H' .non l rh' .non
        | bk s => cases e2
        | ct s => cases e2
    · cases e
end

/-! ### a comprehension -/
def wipeW (σ : SW) : List Nat → SW
  | [] => σ
  | v :: vs => (wipeW σ vs).set v none
theorem wipeW_get {sw : SW} {i : Nat} {w : W} : ∀ {vs : List Nat}, (wipeW sw vs)[i]? = some (some w) → sw[i]? = some (some w) ∧ i ∉ vs
  | [], h => ⟨h, by simp⟩
  | v :: vs, h => by
    unfold wipeW at h
    by_cases e : v = i
    · subst e
      rw [List.getElem?_set] at h
      rw [if_pos rfl] at h
      split at h <;> cases h
    · rw [List.getElem?_set_ne e] at h
      obtain ⟨h1, h2⟩ := wipeW_get h
      refine ⟨h1, fun z => ?_⟩
      rcases List.mem_cons.mp z with z | z
      · exact e z.symm
      · exact h2 z
theorem wipeW_len (sw : SW) : ∀ vs : List Nat, (wipeW sw vs).length = sw.length
  | [] => rfl
  | v :: vs => by
    unfold wipeW
    rw [List.length_set]
    exact wipeW_len sw vs
theorem relS_wipe {K : PySem.W.Frag} {ρ : List Addr} {H : Hp} {sw : SW} {σ : St} (r : RelS K ρ H sw σ) (vs : List Nat) : RelS K ρ H (wipeW sw vs) (wipe σ vs) := by
  refine ⟨by rw [wipeW_len, wipe_length]; exact r.1, fun i w e => ?_⟩
  obtain ⟨h1, h2⟩ := wipeW_get e
  obtain ⟨v, hv, rv⟩ := r.2 i w h1
  exact ⟨v, by rw [wipe_out h2]; exact hv, rv⟩
theorem wipe_in {σ : St} {i : Nat} (hi : i < σ.length) : ∀ {vs : List Nat}, i ∈ vs → (wipe σ vs)[i]? = some none
  | [], h => by cases h
  | v :: vs, h => by
    unfold wipe
    by_cases e : v = i
    · subst e
      rw [List.getElem?_set, if_pos rfl, if_pos (by rw [wipe_length]; exact hi)]
    · rw [List.getElem?_set_ne e]
      refine wipe_in hi ?_
      rcases List.mem_cons.mp h with z | z
      · exact absurd z.symm e
      · exact z
theorem wipe_ext {σ σ' : St} {vs : List Nat} (b : But vs (wipe σ vs) σ') : wipe σ' vs = wipe σ vs := by
  have hl : σ'.length = σ.length := b.1.trans (wipe_length σ vs)
  refine List.ext_getElem? fun i => ?_
  by_cases hi : i ∈ vs
  · by_cases hlt : i < σ.length
    · rw [wipe_in (by rw [hl]; exact hlt) hi, wipe_in hlt hi]
    · rw [List.getElem?_eq_none (by rw [wipe_length, hl]; omega), List.getElem?_eq_none (by rw [wipe_length]; omega)]
  · rw [wipe_out hi, b.2 i hi]
def app (d y : W) : M Unit := fun h => match d with
  | .ref p => match h[p]? with
    | some (.lst acc) => if acc.length < lim then .ok () (h.set p (.lst (acc ++ [y]))) else .no
    | _ => .no
  | _ => .no
def lcGo (src : Src) (g : MG) (t : MT) (e : ME) (vs : List Nat) (d : W) (sw : SW) : Nat → Nat → M Unit
  | _, 0 => bad
  | i, n + 1 => fun h => match src.item i h with
    | none => .no
    | some none => .ok () h
    | some (some x) => bnd (g x (wipeW sw vs)) (fun s => bnd (t s) fun b => if b = true then bnd (e s) (fun y => bnd (app d y) fun _ => lcGo src g t e vs d sw (i + 1) n) else lcGo src g t e vs d sw (i + 1) n) h
def mLc (mi : MI) (g : MG) (t : MT) (e : ME) (vs : List Nat) : ME := fun sw => bnd (mi sw) fun src => bnd (alloc (.lst [])) fun d => bnd (lcGo src.1 g t e vs d sw 0 (src.2 + 1)) fun _ => rtn d
def tYs : MT := fun _ => rtn true
theorem app_ok {K : PySem.W.Frag} {cm : Str → Addr} {ρ : List Addr} {h h' : Hw} {H : Hp} {p : Nat} {D : Addr} {y : W} {v : V} (rh : RelH K cm ρ h H) (hp : ρ[p]? = some D) (rv : Rel K ρ H y v) (e : app (.ref p) y h = .ok () h') :
    ∃ acc, H D = some (.lst acc) ∧ acc.length < sizeLine ∧ RelH K cm ρ h' (upd H D (.lst (acc ++ [v]))) ∧ Le K ρ H ρ (upd H D (.lst (acc ++ [v]))) := by
  have e' : (match h[p]? with
    | some (.lst acc) => if acc.length < lim then EL.R.ok () (h.set p (.lst (acc ++ [y]))) else EL.R.no
    | _ => .no) = .ok () h' := e
  obtain ⟨o, ho, ro⟩ := rh.at (w := .non) hp
  rw [ho] at e'
  cases o with
  | lst xs =>
    obtain ⟨vs, ea, rx⟩ := ro
    simp only at e'
    split at e'
    · rename_i hl
      cases e'
      have lu : Le K ρ H ρ (upd H D (.lst (vs ++ [v]))) := le_mut ea trivial
      refine ⟨vs, ea, by rw [← rx.length, ← lim_eq]; exact hl, rh.set hp ⟨_, upd_same, ?_⟩, lu⟩
      exact (rx.append (.cons rv .nil)).mono lu
    · cases e'
  | _ => cases e'
section
variable {X : Cx} {cm : Str → Addr} {elt tg it : Expr} {ifs : List Expr} {scope : Scope} {own : List (Str × Nat)} {pos spos : Pos} {mi : MI} {g : MG} {t : MT} {me : ME}
theorem lc_tE {σ : St} {H : Hp} {Q : VK} {vs : List Nat} {G : TG} {T : TT} {E : TE} (q : tE X.K cm (mLc mi g t me vs) σ H Q)
    (hG : ∀ v σ H Q, tG X.K cm vs g v σ H Q → G v σ H Q) (hT : ∀ σ H Q, tT X.K cm t σ H Q → T σ H Q) (hE : ∀ σ H Q, tE X.K cm me σ H Q → E σ H Q) : tLc (tI X.K cm mi) G T E vs σ H Q := by
  obtain ⟨ρ, h, sw, w, h', rh, rs, e, k⟩ := q
  obtain ⟨src, h1, e1, e2⟩ := bnd_ok e
  obtain ⟨d, h2, e3, e4⟩ := bnd_ok e2
  obtain ⟨u, h3, e5, e6⟩ := bnd_ok e4
  cases e6
  cases e3
  refine ⟨ρ, h, sw, src, h1, rh, rs, e1, fun ρ1 H1 J l1 rh1 rj => ?_⟩
  intro D hD
  have l2 : Le X.K ρ1 H1 (ρ1 ++ [D]) (upd H1 D (.lst [])) := (le_new hD).trans (le_app D)
  have rh2 : RelH X.K cm (ρ1 ++ [D]) (h1 ++ [.lst []]) (upd H1 D (.lst [])) := rh1.push hD ⟨[], upd_same, .nil⟩
  refine ⟨fun i n H3 => ∃ ρ3 h3, Le X.K ρ H ρ3 H3 ∧ Le X.K (ρ1 ++ [D]) (upd H1 D (.lst [])) ρ3 H3 ∧ RelH X.K cm ρ3 h3 H3 ∧ SrcR X.K ρ3 H3 src.1 J ∧ lcGo src.1 g t me vs (.ref h1.length) sw i n h3 = .ok u h', ⟨_, ρ1 ++ [D], _, l1.trans l2, .refl, rh2, rj.mono l2, e5⟩, fun i n H3 w => ?_⟩
  obtain ⟨ρ3, h3, l3, m3, rh3, rj3, e7⟩ := w
  have hp : ρ3[h1.length]? = some D := pre_get m3.pre (push_at rh1)
  cases n with
  | zero => cases e7
  | succ n =>
    have e7' : (match src.1.item i h3 with
      | none => (EL.R.no : EL.R Unit)
      | some none => .ok () h3
      | some (some x) => bnd (g x (wipeW sw vs)) (fun s => bnd (t s) fun b => if b = true then bnd (me s) (fun y => bnd (app (.ref h1.length) y) fun _ => lcGo src.1 g t me vs (.ref h1.length) sw (i + 1) n) else lcGo src.1 g t me vs (.ref h1.length) sw (i + 1) n) h3) = .ok u h' := e7
    split at e7'
    · cases e7'
    · rename_i he
      cases e7'
      exact .inl ⟨src_stop rh3 rj3 he, k ρ3 H3 _ l3 rh3 (.ref hp)⟩
    · rename_i x he
      obtain ⟨s2, h4, e8, e9⟩ := bnd_ok e7'
      obtain ⟨b, h5, e10, e11⟩ := bnd_ok e9
      obtain ⟨go, yl⟩ := src_go rh3 rj3 he
      refine .inr ⟨go, fun H6 => ∃ ρ6 h6, Le X.K ρ H ρ6 H6 ∧ Le X.K (ρ1 ++ [D]) (upd H1 D (.lst [])) ρ6 H6 ∧ RelH X.K cm ρ6 h6 H6 ∧ SrcR X.K ρ6 H6 src.1 J ∧ lcGo src.1 g t me vs (.ref h1.length) sw (i + 1) n h6 = .ok u h', fun H6 z => ⟨n, Nat.lt_succ_self n, z⟩, fun v H6 y => ?_⟩
      obtain ⟨eh, rv⟩ := yl v H6 y
      subst eh
      refine hG _ _ _ _ ⟨ρ3, h3, _, x, s2, h4, rh3, relS_wipe (rs.mono l3) vs, rv, e8, fun ρ4 H4 σ4 b4 l4 rh4 rs4 => ⟨wipe_ext b4, ?_⟩⟩
      refine hT _ _ _ ⟨ρ4, h4, s2, b, h5, rh4, rs4, e10, fun ρ5 H5 l5 rh5 => ?_⟩
      have l45 := l4.trans l5
      cases b with
      | false => exact iteF ⟨ρ5, h5, l3.trans l45, m3.trans l45, rh5, rj3.mono l45, e11⟩
      | true =>
        obtain ⟨yw, h6, e12, e13⟩ := bnd_ok e11
        obtain ⟨u2, h7, e14, e15⟩ := bnd_ok e13
        refine iteT (hE _ _ _ ⟨ρ5, h5, s2, yw, h6, rh5, rs4.mono l5, e12, fun ρ6 H6 v6 l6 rh6 rv6 => ?_⟩)
        have l46 := l45.trans l6
        obtain ⟨acc, ea, hl, rh7, l7⟩ := app_ok rh6 (pre_get l46.pre hp) rv6 e14
        have l47 := l46.trans l7
        exact ⟨acc, ea, hl, ρ6, h7, l3.trans l47, m3.trans l47, rh7, rj3.mono l47, e15⟩
theorem re_lc (own : List (Str × Nat)) (hc : X.calm = true) (hN : X.N.Nodup) (hi : RI X cm tg it mi) {N0 : List Str} {sc0 : Scope} (ok : blkC N0 sc0 scope own = true)
    (hg : ∀ (s : Shared) (H : Hp) (C : Addr) (cl : List (Str × Addr)) (fp : List Addr), RG (X.blk s H scope (compEnvC scope cl C X.env) fp) cm (own.map (·.2)) tg g)
    (he : ∀ (s : Shared) (H : Hp) (C : Addr) (cl : List (Str × Addr)) (fp : List Addr), RE (X.blk s H scope (compEnvC scope cl C X.env) fp) cm elt me) (hs : ∀ x, foldedSetIterable it X.env x = pure x := by intro _; rfl) (eN : N0 = X.N := by rfl) (eS : sc0 = X.env.scope := by rfl) :
    RE X cm (.ListComp elt [⟨tg, it, [], 0⟩] scope pos) (mLc mi g tYs me (own.map (·.2))) :=
  peM (pe_lc (own := own) hc hN hi (by rw [← eN, ← eS]; exact blkOk_by ok) hg (fun _ _ _ _ _ => pts_nil) he hs) fun σ H Q q => lc_tE q (fun _ _ _ _ z => z) (fun _ _ _ z => by
    obtain ⟨ρ, h, sw, b, h', rh, rs, e, k⟩ := z
    cases e
    exact k ρ _ .refl rh) (fun _ _ _ z => z)
theorem re_lc1 {c : Expr} (own : List (Str × Nat)) (hc : X.calm = true) (hN : X.N.Nodup) (hi : RI X cm tg it mi) {N0 : List Str} {sc0 : Scope} (ok : blkC N0 sc0 scope own = true)
    (hg : ∀ (s : Shared) (H : Hp) (C : Addr) (cl : List (Str × Addr)) (fp : List Addr), RG (X.blk s H scope (compEnvC scope cl C X.env) fp) cm (own.map (·.2)) tg g)
    (ht : ∀ (s : Shared) (H : Hp) (C : Addr) (cl : List (Str × Addr)) (fp : List Addr), RT (X.blk s H scope (compEnvC scope cl C X.env) fp) cm c t)
    (he : ∀ (s : Shared) (H : Hp) (C : Addr) (cl : List (Str × Addr)) (fp : List Addr), RE (X.blk s H scope (compEnvC scope cl C X.env) fp) cm elt me) (hs : ∀ x, foldedSetIterable it X.env x = pure x := by intro _; rfl) (eN : N0 = X.N := by rfl) (eS : sc0 = X.env.scope := by rfl) :
    RE X cm (.ListComp elt [⟨tg, it, [c], 0⟩] scope pos) (mLc mi g t me (own.map (·.2))) :=
  peM (pe_lc (own := own) hc hN hi (by rw [← eN, ← eS]; exact blkOk_by ok) hg (fun _ _ _ _ _ => pts_one (ht _ _ _ _ _)) he hs) fun σ H Q q => lc_tE q (fun _ _ _ _ z => z) (fun _ _ _ z => z) (fun _ _ _ z => z)
/-- name = [..] -/
theorem rs_setLc {i : Nat} {y : Str} {py : Pos} (own : List (Str × Nat)) (hc : X.calm = true) (hN : X.N.Nodup) (hi : RI X cm tg it mi) {N0 : List Str} {sc0 : Scope} (ok : blkC N0 sc0 scope own = true)
    (hg : ∀ (s : Shared) (H : Hp) (C : Addr) (cl : List (Str × Addr)) (fp : List Addr), RG (X.blk s H scope (compEnvC scope cl C X.env) fp) cm (own.map (·.2)) tg g)
    (he : ∀ (s : Shared) (H : Hp) (C : Addr) (cl : List (Str × Addr)) (fp : List Addr), RE (X.blk s H scope (compEnvC scope cl C X.env) fp) cm elt me)
    (hy : X.N[i]? = some y := by rfl) (hyl : X.env.scope.names.lookup y = some .local := by rfl) (hsw : swapsWith (.ListComp elt [⟨tg, it, [], 0⟩] scope pos) (some (.Name y py)) spos.line X.env = pure true := by exact sw_true rfl rfl rfl (by decide +kernel)) (hs : ∀ x, foldedSetIterable it X.env x = pure x := by intro _; rfl) (eN : N0 = X.N := by rfl) (eS : sc0 = X.env.scope := by rfl) :
    RS X cm (.Assign [.Name y py] (.ListComp elt [⟨tg, it, [], 0⟩] scope pos) spos) (sAsg (gNm i) (mLc mi g tYs me (own.map (·.2)))) := by
  refine psM (ps_setLc (own := own) (te := tE X.K cm me) (g := tG X.K cm (own.map (·.2)) g) hc hN hy hyl hsw hi (by rw [← eN, ← eS]; exact blkOk_by ok) hg (fun _ _ _ _ _ => pts_nil) he hs) fun D σ H q => ?_
  obtain ⟨ρ, h, sw, f, h', rh, rs, e, k⟩ := q
  obtain ⟨x, h1, e1, e2⟩ := bnd_ok e
  obtain ⟨s, h2, e3, e4⟩ := bnd_ok e2
  cases e4
  cases e3
  refine lc_tE (g := g) (t := tYs) (me := me) ⟨ρ, h, sw, x, h', rh, rs, e1, fun ρ1 H1 v l1 rh1 rv => ?_⟩ (fun _ _ _ _ z => z) (fun _ _ _ z => by
    obtain ⟨ρ, h, sw, b, h', rh, rs, e, k⟩ := z
    cases e
    exact k ρ _ .refl rh) (fun _ _ _ z => z)
  exact k ρ1 H1 _ l1 rh1 ((rs.mono l1).set rv i)
theorem rs_setLc1 {c : Expr} {i : Nat} {y : Str} {py : Pos} (own : List (Str × Nat)) (hc : X.calm = true) (hN : X.N.Nodup) (hi : RI X cm tg it mi) {N0 : List Str} {sc0 : Scope} (ok : blkC N0 sc0 scope own = true)
    (hg : ∀ (s : Shared) (H : Hp) (C : Addr) (cl : List (Str × Addr)) (fp : List Addr), RG (X.blk s H scope (compEnvC scope cl C X.env) fp) cm (own.map (·.2)) tg g)
    (ht : ∀ (s : Shared) (H : Hp) (C : Addr) (cl : List (Str × Addr)) (fp : List Addr), RT (X.blk s H scope (compEnvC scope cl C X.env) fp) cm c t)
    (he : ∀ (s : Shared) (H : Hp) (C : Addr) (cl : List (Str × Addr)) (fp : List Addr), RE (X.blk s H scope (compEnvC scope cl C X.env) fp) cm elt me)
    (hy : X.N[i]? = some y := by rfl) (hyl : X.env.scope.names.lookup y = some .local := by rfl) (hsw : swapsWith (.ListComp elt [⟨tg, it, [c], 0⟩] scope pos) (some (.Name y py)) spos.line X.env = pure true := by exact sw_true rfl rfl rfl (by decide +kernel)) (hs : ∀ x, foldedSetIterable it X.env x = pure x := by intro _; rfl) (eN : N0 = X.N := by rfl) (eS : sc0 = X.env.scope := by rfl) :
    RS X cm (.Assign [.Name y py] (.ListComp elt [⟨tg, it, [c], 0⟩] scope pos) spos) (sAsg (gNm i) (mLc mi g t me (own.map (·.2)))) := by
  refine psM (ps_setLc (own := own) (te := tE X.K cm me) (g := tG X.K cm (own.map (·.2)) g) (tt := tT X.K cm t) hc hN hy hyl hsw hi (by rw [← eN, ← eS]; exact blkOk_by ok) hg (fun _ _ _ _ _ => pts_one (ht _ _ _ _ _)) he hs) fun D σ H q => ?_
  obtain ⟨ρ, h, sw, f, h', rh, rs, e, k⟩ := q
  obtain ⟨x, h1, e1, e2⟩ := bnd_ok e
  obtain ⟨s, h2, e3, e4⟩ := bnd_ok e2
  cases e4
  cases e3
  refine lc_tE (g := g) (t := t) (me := me) ⟨ρ, h, sw, x, h', rh, rs, e1, fun ρ1 H1 v l1 rh1 rv => ?_⟩ (fun _ _ _ _ z => z) (fun _ _ _ z => z) (fun _ _ _ z => z)
  exact k ρ1 H1 _ l1 rh1 ((rs.mono l1).set rv i)
end
end EL
namespace EL
open PySem PySem.Spec L2
open PyProof.Rows hiding St

section
variable {K : PySem.W.Frag} {cm : Str → Addr} {ρ : List Addr} {h h' : Hw} {H : Hp}
/-- a value that leaves the heap as it is -/
theorem KE.at {w : W} {v : V} {Q : VK} (k : KE K cm ρ H w h Q) (rh : RelH K cm ρ h H) (r : Rel K ρ H w v) : Q v H := k ρ H v .refl rh r
/-- a list's items by its place -/
theorem RelH.lst {p : Nat} {a : Addr} {xs : List W} (rh : RelH K cm ρ h H) (hp : ρ[p]? = some a) (e : h[p]? = some (.lst xs)) : ∃ vs, H a = some (.lst vs) ∧ Rels K ρ H xs vs := rh.obj p _ a e hp
end
/-- the items of a list, at a place or standing fast -/
def items (h : Hw) (x : W) : Option (List W) := match x with
  | .ref p => match h[p]? with
    | some (.lst xs) => some xs
    | _ => none
  | .rol xs => some xs
  | _ => none
theorem items_of {K : PySem.W.Frag} {cm : Str → Addr} {ρ : List Addr} {h : Hw} {H : Hp} {x : W} {v : V} {xs : List W} (rh : RelH K cm ρ h H) (r : Rel K ρ H x v) (e : items h x = some xs) :
    ∃ a vs, v = .ref a ∧ SqL K H a vs ∧ Rels K ρ H xs vs := by
  cases r with
  | @ref p a hp =>
    have e' : (match h[p]? with
      | some (.lst xs) => some xs
      | _ => none) = some xs := e
    split at e'
    · rename_i ys hy
      cases e'
      obtain ⟨vs, ea, rx⟩ := rh.lst hp hy
      exact ⟨a, vs, rfl, .of ea, rx⟩
    · cases e'
  | rol hq r =>
    cases e
    exact ⟨_, _, rfl, hq.sq, r⟩
  | _ => cases e

/-! ### arithmetic -/
def mulOk (i j : Int) : Bool := decide (i.natAbs.log2 + j.natAbs.log2 < 1000000) || (decide (-18446744073709551616 < i) && decide (i < 18446744073709551616)) || (decide (-18446744073709551616 < j) && decide (j < 18446744073709551616))
def fAdd : W → W → M W
  | .int i, .int j => rtn (.int (i + j))
  | .str x, .str y => if x.length + y.length ≤ lim then rtn (.str (x ++ y)) else bad
  | .ref p, .ref q => fun h => match h[p]?, h[q]? with
    | some (.lst xs), some (.lst ys) => if xs.length + ys.length ≤ lim then alloc (.lst (xs ++ ys)) h else .no
    | _, _ => .no
  | .tup xs, .tup ys => if xs.isEmpty = false ∧ xs.length + ys.length ≤ lim then rtn (.tup (xs ++ ys)) else bad
  | _, _ => bad
def fSub : W → W → M W
  | .int i, .int j => rtn (.int (i - j))
  | _, _ => bad
def fMul : W → W → M W
  | .int i, .int j => if mulOk i j = true then rtn (.int (i * j)) else bad
  | _, _ => bad
def fDiv : W → W → M W
  | .int i, .int j => if 0 < j ∧ j.natAbs.log2 < 9000 then rtn (.int (i / j)) else bad
  | _, _ => bad
def fMod : W → W → M W
  | .int i, .int j => if 0 < j then rtn (.int (i % j)) else bad
  | _, _ => bad
def fPow : W → W → M W
  | .int i, .int j => if (0 ≤ j ∧ j ≤ 1000000) ∧ i.natAbs < 18446744073709551616 then rtn (.int (i ^ j.toNat)) else bad
  | _, _ => bad
section
variable {X : Cx} {cm : Str → Addr}
theorem oAdd : OpR X (binaryOp .Add) (fun x y H Q => rI0 (fun i j => .int (i + j)) x y H Q ∨ (∃ i j, x = .str i ∧ y = .str j ∧ i.length + j.length ≤ sizeLine ∧ Q (.str (i ++ j)) H) ∨ rCat x y H Q ∨ rCatT X.K x y H Q) := op_add.or (op_add_str.or (op_cat.or op_catT))
theorem wAdd : OpW X.K cm (fun x y H Q => rI0 (fun i j => .int (i + j)) x y H Q ∨ (∃ i j, x = .str i ∧ y = .str j ∧ i.length + j.length ≤ sizeLine ∧ Q (.str (i ++ j)) H) ∨ rCat x y H Q ∨ rCatT X.K x y H Q) fAdd := by
  intro ρ h H x y x' y' z h' Q rh rx ry e k
  cases rx with
  | int i =>
    cases ry with
    | int j => cases e; exact .inl ⟨i, j, rfl, rfl, k.at rh (.int _)⟩
    | _ => cases e
  | str i =>
    cases ry with
    | str j =>
      have e' : (if i.length + j.length ≤ lim then rtn (W.str (i ++ j)) else bad) h = .ok z h' := e
      split at e'
      · rename_i hl
        cases e'
        exact .inr (.inl ⟨i, j, rfl, rfl, by rw [← lim_eq]; exact hl, k.at rh (.str _)⟩)
      · cases e'
    | _ => cases e
  | @ref p a hp =>
    cases ry with
    | @ref q b hq =>
      have e' : (match h[p]?, h[q]? with
        | some (.lst xs), some (.lst ys) => if xs.length + ys.length ≤ lim then alloc (.lst (xs ++ ys)) h else EL.R.no
        | _, _ => EL.R.no) = .ok z h' := e
      split at e'
      · rename_i xs ys h1 h2
        obtain ⟨vs, ea, r1⟩ := rh.lst hp h1
        obtain ⟨us, eb, r2⟩ := rh.lst hq h2
        split at e'
        · rename_i hl
          cases e'
          exact .inr (.inr (.inl ⟨a, b, vs, us, rfl, rfl, ea, eb, by rw [← r1.length, ← r2.length, ← lim_eq]; exact hl, fun p' hp' => new_lst rh (r1.append r2) hp' k⟩))
        · cases e'
      · cases e'
    | _ => cases e
  | @tup ws vs a hq r1 =>
    cases ry with
    | @tup us ts b hq2 r2 =>
      have e' : (if ws.isEmpty = false ∧ ws.length + us.length ≤ lim then rtn (W.tup (ws ++ us)) else bad) h = .ok z h' := e
      split at e'
      · rename_i hl
        cases e'
        refine .inr (.inr (.inr ⟨a, b, vs, ts, rfl, rfl, hq, hq2, fun z => ?_, by rw [← r1.length, ← r2.length, ← lim_eq]; exact hl.2, fun z => ?_, fun _ p hp => ?_⟩))
        · subst z
          cases r1
          simp at hl
        · subst z
          cases r2
          refine k.at rh (.tup hq ?_)
          rw [List.append_nil]
          exact r1
        · exact new_tup rh (r1.append r2) hp k
      · cases e'
    | _ => cases e
  | _ => cases e
theorem wInt {g : Int → Int → W} {gv : Int → Int → V} {f : W → W → M W} (hg : ∀ ρ H i j, Rel X.K ρ H (g i j) (gv i j)) (hf : ∀ x y h z h', f x y h = .ok z h' → ∃ i j, x = .int i ∧ y = .int j ∧ z = g i j ∧ h' = h) : OpW X.K cm (rI0 gv) f := by
  intro ρ h H x y x' y' z h' Q rh rx ry e k
  obtain ⟨i, j, rfl, rfl, rfl, rfl⟩ := hf _ _ _ _ _ e
  cases rx
  cases ry
  exact ⟨i, j, rfl, rfl, k.at rh (hg ρ H i j)⟩
theorem wIntC {C : Int → Int → Prop} {g : Int → Int → W} {gv : Int → Int → V} {f : W → W → M W} (hg : ∀ ρ H i j, Rel X.K ρ H (g i j) (gv i j)) (hf : ∀ x y h z h', f x y h = .ok z h' → ∃ i j, x = .int i ∧ y = .int j ∧ C i j ∧ z = g i j ∧ h' = h) : OpW X.K cm (rI C gv) f := by
  intro ρ h H x y x' y' z h' Q rh rx ry e k
  obtain ⟨i, j, rfl, rfl, c, rfl, rfl⟩ := hf _ _ _ _ _ e
  cases rx
  cases ry
  exact ⟨i, j, rfl, rfl, c, k.at rh (hg ρ H i j)⟩
theorem wSub : OpW X.K cm (rI0 fun i j => .int (i - j)) fSub := wInt (g := fun i j => .int (i - j)) (fun _ _ _ _ => .int _) fun x y h z h' e => by
  cases x <;> cases y <;> cases e
  exact ⟨_, _, rfl, rfl, rfl, rfl⟩
theorem oMul : OpR X (binaryOp .Mult) (fun x y H Q => rI CMulW (fun i j => .int (i * j)) x y H Q ∨ rI CMul (fun i j => .int (i * j)) x y H Q) := op_mulW.or op_mul
theorem wMul : OpW X.K cm (fun x y H Q => rI CMulW (fun i j => .int (i * j)) x y H Q ∨ rI CMul (fun i j => .int (i * j)) x y H Q) fMul := by
  intro ρ h H x y x' y' z h' Q rh rx ry e k
  cases rx with
  | int i =>
    cases ry with
    | int j =>
      have e' : (if mulOk i j = true then rtn (W.int (i * j)) else bad) h = .ok z h' := e
      split at e'
      · rename_i hl
        cases e'
        have q := k.at rh (.int (i * j))
        unfold mulOk at hl
        simp only [Bool.or_eq_true, Bool.and_eq_true, decide_eq_true_eq] at hl
        rcases hl with (hl | hl) | hl
        · exact .inl ⟨i, j, rfl, rfl, hl, q⟩
        · exact .inr ⟨i, j, rfl, rfl, .inl ⟨by omega, by omega⟩, q⟩
        · exact .inr ⟨i, j, rfl, rfl, .inr ⟨by omega, by omega⟩, q⟩
      · cases e'
    | _ => cases e
  | _ => cases ry <;> cases e
theorem wDiv : OpW X.K cm (rI CDivW fun i j => .int (i / j)) fDiv := wIntC (g := fun i j => .int (i / j)) (fun _ _ _ _ => .int _) fun x y h z h' e => by
  cases x <;> cases y <;> first | cases e | skip
  rename_i i j
  have e' : (if 0 < j ∧ j.natAbs.log2 < 9000 then rtn (W.int (i / j)) else bad) h = .ok z h' := e
  split at e'
  · rename_i hl
    cases e'
    exact ⟨_, _, rfl, rfl, hl, rfl, rfl⟩
  · cases e'
theorem wMod : OpW X.K cm (rI (fun _ j => 0 < j) fun i j => .int (i % j)) fMod := wIntC (g := fun i j => .int (i % j)) (fun _ _ _ _ => .int _) fun x y h z h' e => by
  cases x <;> cases y <;> first | cases e | skip
  rename_i i j
  have e' : (if 0 < j then rtn (W.int (i % j)) else bad) h = .ok z h' := e
  split at e'
  · rename_i hl
    cases e'
    exact ⟨_, _, rfl, rfl, hl, rfl, rfl⟩
  · cases e'
theorem wPow : OpW X.K cm (rI CPow fun i j => .int (i ^ j.toNat)) fPow := wIntC (g := fun i j => .int (i ^ j.toNat)) (fun _ _ _ _ => .int _) fun x y h z h' e => by
  cases x <;> cases y <;> first | cases e | skip
  rename_i i j
  have e' : (if (0 ≤ j ∧ j ≤ 1000000) ∧ i.natAbs < 18446744073709551616 then rtn (W.int (i ^ j.toNat)) else bad) h = .ok z h' := e
  split at e'
  · rename_i hl
    cases e'
    exact ⟨_, _, rfl, rfl, ⟨hl.1.1, hl.1.2, by omega⟩, rfl, rfl⟩
  · cases e'
end

def fNeg : W → M W
  | .int i => rtn (.int (-i))
  | _ => bad
section
variable {X : Cx} {cm : Str → Addr}
theorem re_neg {a : Expr} {ma : ME} {pos : Pos} (ha : RE X cm a ma) : RE X cm (.UnaryOp .USub a pos) (mUn fNeg ma) := by
  refine peM (pe_un un_neg ha) fun σ H Q q => ?_
  obtain ⟨ρ, h, sw, w, h', rh, rs, e, k⟩ := q
  obtain ⟨x, h1, e1, e2⟩ := bnd_ok e
  refine ⟨ρ, h, sw, x, h1, rh, rs, e1, fun ρ1 H1 v l1 rh1 rx => ?_⟩
  cases rx with
  | int i =>
    cases e2
    exact ⟨i, rfl, k ρ1 H1 _ l1 rh1 (.int _)⟩
  | _ => cases e2
theorem hu65 {k : Nat} {A : Around} (r : Room k A) : A.units + 65 < cLine := by
  have := r.un
  omega
end
/-! ### comparisons -/
def fCmp (pi : Int → Int → Bool) (ps : List Nat → List Nat → Bool) : W → W → M W
  | .int i, .int j => rtn (.bl (pi i j))
  | .str x, .str y => rtn (.bl (ps x.cps.toList y.cps.toList))
  | _, _ => bad
def fLt := fCmp (fun i j => decide (i < j)) (fun x y => decide (x < y))
def fLe := fCmp (fun i j => decide (i ≤ j)) (fun x y => !decide (y < x))
def fGt := fCmp (fun i j => decide (j < i)) (fun x y => decide (y < x))
def fGe := fCmp (fun i j => decide (j ≤ i)) (fun x y => !decide (x < y))
def rCmp (pi : Int → Int → Bool) (ps : List Nat → List Nat → Bool) : R2 := fun x y H Q => rI0 (fun i j => .bl (pi i j)) x y H Q ∨ ∃ i j : Str, x = .str i ∧ y = .str j ∧ Q (.bl (ps i.cps.toList j.cps.toList)) H
section
variable {X : Cx} {cm : Str → Addr}
theorem wCmp {pi : Int → Int → Bool} {ps : List Nat → List Nat → Bool} : OpW X.K cm (rCmp pi ps) (fCmp pi ps) := by
  intro ρ h H x y x' y' z h' Q rh rx ry e k
  cases rx with
  | int i =>
    cases ry with
    | int j => cases e; exact .inl ⟨i, j, rfl, rfl, k.at rh (.bl _)⟩
    | _ => cases e
  | str i =>
    cases ry with
    | str j => cases e; exact .inr ⟨i, j, rfl, rfl, k.at rh (.bl _)⟩
    | _ => cases e
  | _ => cases ry <;> cases e
theorem oLt : OpR X (compareOp .Lt) (rCmp (fun i j => decide (i < j)) (fun x y => decide (x < y))) := op_lt.or op_lt_str
theorem oLe : OpR X (compareOp .LtE) (rCmp (fun i j => decide (i ≤ j)) (fun x y => !decide (y < x))) := op_le.or op_le_str
theorem oGt : OpR X (compareOp .Gt) (rCmp (fun i j => decide (j < i)) (fun x y => decide (y < x))) := op_gt.or op_gt_str
theorem oGe : OpR X (compareOp .GtE) (rCmp (fun i j => decide (j ≤ i)) (fun x y => !decide (x < y))) := op_ge.or op_ge_str
end
/-- is, is not: None and truths -/
def fIs (neg : Bool) : W → W → M W
  | .bl a, .bl b => rtn (.bl (neg != decide (a = b)))
  | x, .non => match x with
    | .non => rtn (.bl (!neg))
    | _ => rtn (.bl neg)
  | _, _ => bad
section
variable {X : Cx} {cm : Str → Addr}
theorem oIs : OpR X (compareOp .Is) (fun x y H Q => rIsB x y H Q ∨ (y = .non ∧ Q (.bl (decide (x = .non))) H)) := op_isBl.or op_isN
theorem oIsN : OpR X (compareOp .IsNot) (fun x y H Q => rNotB x y H Q ∨ (y = .non ∧ Q (.bl (!decide (x = .non))) H)) := op_notBl.or op_notN
theorem wIs : OpW X.K cm (fun x y H Q => rIsB x y H Q ∨ (y = .non ∧ Q (.bl (decide (x = .non))) H)) (fIs false) := by
  intro ρ h H x y x' y' z h' Q rh rx ry e k
  cases ry with
  | bl b =>
    cases rx with
    | bl a =>
      cases e
      refine .inl ⟨a, b, rfl, rfl, ?_⟩
      have q := k.at rh (.bl _)
      simpa using q
    | _ => cases e
  | non =>
    refine .inr ⟨rfl, ?_⟩
    cases rx <;> (cases e; exact k.at rh (.bl _))
  | _ => cases rx <;> cases e
theorem wIsN : OpW X.K cm (fun x y H Q => rNotB x y H Q ∨ (y = .non ∧ Q (.bl (!decide (x = .non))) H)) (fIs true) := by
  intro ρ h H x y x' y' z h' Q rh rx ry e k
  cases ry with
  | bl b =>
    cases rx with
    | bl a =>
      cases e
      refine .inl ⟨a, b, rfl, rfl, ?_⟩
      have q := k.at rh (.bl _)
      simpa using q
    | _ => cases e
  | non =>
    refine .inr ⟨rfl, ?_⟩
    cases rx <;> (cases e; exact k.at rh (.bl _))
  | _ => cases rx <;> cases e
end

/-! ### data: == and in -/
def mapO {α β : Type} (f : α → Option β) : List α → Option (List β)
  | [] => some []
  | x :: xs => match f x, mapO f xs with
    | some y, some ys => some (y :: ys)
    | _, _ => none
def toD (h : Hw) : Nat → W → Option PyData
  | _, .non => some .none
  | _, .bl b => some (.bool b)
  | _, .int i => some (.int i)
  | _, .str x => some (.str x)
  | n + 1, .tup ws => (mapO (toD h n) ws).map .tuple
  | n + 1, .rol ws => (mapO (toD h n) ws).map .list
  | n + 1, .ref p => match h[p]? with
    | some (.lst xs) => (mapO (toD h n) xs).map .list
    | _ => none
  | 0, _ => none
theorem map_dp {K : PySem.W.Frag} {ρ : List Addr} {H : Hp} {f : W → Option PyData} (hf : ∀ w v d, Rel K ρ H w v → f w = some d → Dp K H v d) : ∀ {ws : List W} {vs : List V} {ds : List PyData}, Rels K ρ H ws vs → mapO f ws = some ds → DpAll K H vs ds
  | _, _, _, .nil, e => by cases e; exact .nil
  | _, _, ds, .cons r t, e => by
    unfold mapO at e
    split at e
    · rename_i y ys e1 e2
      cases e
      exact .cons (hf _ _ _ r e1) (map_dp hf t e2)
    · cases e
theorem toD_dp {K : PySem.W.Frag} {cm : Str → Addr} {ρ : List Addr} {h : Hw} {H : Hp} (rh : RelH K cm ρ h H) : ∀ (n : Nat) (w : W) (v : V) (d : PyData), Rel K ρ H w v → toD h n w = some d → Dp K H v d := by
  intro n
  induction n with
  | zero =>
    intro w v d r e
    cases r with
    | non => cases e; exact .non
    | bl b => cases e; exact .bl b
    | int i => cases e; exact .int i
    | str x => cases e; exact .str x
    | _ => cases e
  | succ n ih =>
    intro w v d r e
    cases r with
    | non => cases e; exact .non
    | bl b => cases e; exact .bl b
    | int i => cases e; exact .int i
    | str x => cases e; exact .str x
    | tup hq r =>
      unfold toD at e
      cases q : mapO (toD h n) _ with
      | none => rw [q] at e; cases e
      | some ds =>
        rw [q] at e
        cases e
        exact .tup hq (map_dp ih r q)
    | rol hq r =>
      unfold toD at e
      cases q : mapO (toD h n) _ with
      | none => rw [q] at e; cases e
      | some ds =>
        rw [q] at e
        cases e
        exact .lst hq.sq (map_dp ih r q)
    | @ref p a hp =>
      unfold toD at e
      split at e
      · rename_i xs hx
        obtain ⟨vs, ea, rx⟩ := rh.lst hp hx
        cases q : mapO (toD h n) xs with
        | none => rw [q] at e; cases e
        | some ds =>
          rw [q] at e
          cases e
          exact .lst (.of ea) (map_dp ih rx q)
      · cases e
def fEq (neg : Bool) (x y : W) : M W := fun h => match toD h 8 x, toD h 8 y with
  | some d, some e => if (SeqAt.shaped d && SeqAt.shaped e) = true then .ok (.bl (neg != PyData.eqv d e)) h else .no
  | _, _ => .no
def fIn (neg : Bool) : W → W → M W
  | .str x, .str y => rtn (.bl (neg != !(Builtin.Str.occurrences y x 0 y.length 1).isEmpty))
  | x, y => fun h => match toD h 8 x, toD h 8 y with
    | some d, some (.list ds) => if (SeqAt.shaped d && SeqAt.shaped (.list ds)) = true then .ok (.bl (neg != ds.any fun z => PyData.eqv z d)) h else .no
    | _, _ => .no
section
variable {X : Cx} {cm : Str → Addr}
theorem wEq : OpW X.K cm (rEqD X.K) (fEq false) := by
  intro ρ h H x y x' y' z h' Q rh rx ry e k
  unfold fEq at e
  split at e
  · rename_i d1 d2 e1 e2
    split at e
    · rename_i hs
      cases e
      rw [Bool.and_eq_true] at hs
      refine ⟨d1, d2, toD_dp rh _ _ _ _ rx e1, toD_dp rh _ _ _ _ ry e2, hs.1, hs.2, ?_⟩
      have q := k.at rh (.bl _)
      simpa using q
    · cases e
  · cases e
theorem wNe : OpW X.K cm (rNeD X.K) (fEq true) := by
  intro ρ h H x y x' y' z h' Q rh rx ry e k
  unfold fEq at e
  split at e
  · rename_i d1 d2 e1 e2
    split at e
    · rename_i hs
      cases e
      rw [Bool.and_eq_true] at hs
      refine ⟨d1, d2, toD_dp rh _ _ _ _ rx e1, toD_dp rh _ _ _ _ ry e2, hs.1, hs.2, ?_⟩
      have q := k.at rh (.bl _)
      simpa using q
    · cases e
  · cases e
theorem fIn_data {neg : Bool} {x y : W} {h h' : Hw} {z : W} (e : fIn neg x y h = .ok z h') : (∃ a b, x = .str a ∧ y = .str b ∧ z = .bl (neg != !(Builtin.Str.occurrences b a 0 b.length 1).isEmpty) ∧ h' = h) ∨
    ∃ d ds, toD h 8 x = some d ∧ toD h 8 y = some (.list ds) ∧ SeqAt.shaped d = true ∧ SeqAt.shaped (.list ds) = true ∧ z = .bl (neg != ds.any fun z => PyData.eqv z d) ∧ h' = h := by
  unfold fIn at e
  split at e
  · cases e
    exact .inl ⟨_, _, rfl, rfl, rfl, rfl⟩
  · dsimp only at e
    split at e
    · split at e
      · rename_i hs
        cases e
        rw [Bool.and_eq_true] at hs
        exact .inr ⟨_, _, by assumption, by assumption, hs.1, hs.2, rfl, rfl⟩
      · cases e
    · cases e
theorem oIn (hu : X.A.units + 65 < cLine) : OpR X (compareOp .In) (fun x y H Q => (∃ i j, x = .str i ∧ y = .str j ∧ Q (.bl (!(Builtin.Str.occurrences j i 0 j.length 1).isEmpty)) H) ∨ rInD X.K x y H Q) := op_in_str.or (op_inD hu)
theorem oNotIn (hu : X.A.units + 65 < cLine) : OpR X (compareOp .NotIn) (fun x y H Q => (∃ i j, x = .str i ∧ y = .str j ∧ Q (.bl (!(!(Builtin.Str.occurrences j i 0 j.length 1).isEmpty))) H) ∨ rNotInD X.K x y H Q) := op_notin_str.or (op_notInD hu)
theorem wIn : OpW X.K cm (fun x y H Q => (∃ i j, x = .str i ∧ y = .str j ∧ Q (.bl (!(Builtin.Str.occurrences j i 0 j.length 1).isEmpty)) H) ∨ rInD X.K x y H Q) (fIn false) := by
  intro ρ h H x y x' y' z h' Q rh rx ry e k
  rcases fIn_data e with ⟨a, b, rfl, rfl, rfl, rfl⟩ | ⟨d, ds, e1, e2, s1, s2, rfl, rfl⟩
  · cases rx
    cases ry
    have q := k.at rh (.bl _)
    exact .inl ⟨_, _, rfl, rfl, by simpa using q⟩
  · have q := k.at rh (.bl _)
    exact .inr ⟨d, ds, toD_dp rh _ _ _ _ rx e1, toD_dp rh _ _ _ _ ry e2, s1, s2, by simpa using q⟩
theorem wNotIn : OpW X.K cm (fun x y H Q => (∃ i j, x = .str i ∧ y = .str j ∧ Q (.bl (!(!(Builtin.Str.occurrences j i 0 j.length 1).isEmpty))) H) ∨ rNotInD X.K x y H Q) (fIn true) := by
  intro ρ h H x y x' y' z h' Q rh rx ry e k
  rcases fIn_data e with ⟨a, b, rfl, rfl, rfl, rfl⟩ | ⟨d, ds, e1, e2, s1, s2, rfl, rfl⟩
  · cases rx
    cases ry
    have q := k.at rh (.bl _)
    exact .inl ⟨_, _, rfl, rfl, by simpa using q⟩
  · have q := k.at rh (.bl _)
    exact .inr ⟨d, ds, toD_dp rh _ _ _ _ rx e1, toD_dp rh _ _ _ _ ry e2, s1, s2, by simpa using q⟩
end

/-! ### subscripts and slices -/
def fIx (x y : W) : M W := fun h => match y with
  | .int i => match x with
    | .tup xs => match atI xs i with
      | some w => .ok w h
      | none => .no
    | .str z => if z.length ≤ lim then match atI z.cps.toList i with
      | some c => .ok (.str ⟨#[c]⟩) h
      | none => .no
      else .no
    | x => match items h x with
      | some xs => match atI xs i with
        | some w => .ok w h
        | none => .no
      | none => .no
  | _ => .no
theorem atI_rel {K : PySem.W.Frag} {ρ : List Addr} {H : Hp} {ws : List W} {vs : List V} {i : Int} {w : W} (r : Rels K ρ H ws vs) (e : atI ws i = some w) : ∃ v, atI vs i = some v ∧ Rel K ρ H w v := by
  unfold atI at e ⊢
  rw [r.length] at e
  cases q : ixN vs.length i with
  | none => rw [q] at e; cases e
  | some j =>
    rw [q] at e
    exact r.get e
section
variable {X : Cx} {cm : Str → Addr}
theorem wIx : OpW X.K cm (rIx X.K) fIx := by
  intro ρ h H x y x' y' z h' Q rh rx ry e k
  cases ry with
  | int i =>
    have lst : ∀ {xs : List W}, items h x = some xs → (match atI xs i with
        | some w => EL.R.ok w h
        | none => EL.R.no) = .ok z h' → rIx X.K x' (.int i) H Q := fun {xs} hi e => by
      obtain ⟨a, vs, rfl, hq, rl⟩ := items_of rh rx hi
      split at e
      · rename_i w hw
        cases e
        obtain ⟨v, hv, rv⟩ := atI_rel rl hw
        exact .inl ⟨a, vs, i, v, rfl, rfl, hq, hv, k.at rh rv⟩
      · cases e
    cases rx with
    | @tup us vs a hq r =>
      have e' : (match atI us i with
        | some w => EL.R.ok w h
        | none => EL.R.no) = .ok z h' := e
      split at e'
      · rename_i w hw
        cases e'
        obtain ⟨v, hv, rv⟩ := atI_rel r hw
        exact .inr (.inl ⟨_, _, i, v, rfl, rfl, hq, hv, k.at rh rv⟩)
      · cases e'
    | str s =>
      have e' : (if s.length ≤ lim then (match atI s.cps.toList i with
        | some c => EL.R.ok (W.str ⟨#[c]⟩) h
        | none => EL.R.no) else EL.R.no) = .ok z h' := e
      split at e'
      · rename_i hl
        split at e'
        · rename_i c hc
          cases e'
          exact .inr (.inr ⟨s, i, c, rfl, rfl, by rw [← lim_eq]; exact hl, hc, k.at rh (.str _)⟩)
        · cases e'
      · cases e'
    | @ref p a hp =>
      have e' : (match items h (.ref p) with
        | some xs => (match atI xs i with
          | some w => EL.R.ok w h
          | none => EL.R.no)
        | none => EL.R.no) = .ok z h' := e
      split at e'
      · exact lst (by assumption) e'
      · cases e'
    | @rol ws vs a hq r =>
      have e' : (match items h (.rol ws) with
        | some xs => (match atI xs i with
          | some w => EL.R.ok w h
          | none => EL.R.no)
        | none => EL.R.no) = .ok z h' := e
      split at e'
      · exact lst (by assumption) e'
      · cases e'
    | _ => cases e
  | _ => cases e
theorem re_ix {a b : Expr} {ma mb : ME} {pos : Pos} (ha : RE X cm a ma) (hb : RE X cm b mb) (hs : PlainIx b := by exact fun _ _ => rfl) : RE X cm (.Subscript a b pos) (mBin fIx ma mb) :=
  peM (pe_ix ix_seq ha hb hs) fun _ _ _ => op_tE wIx
/-- an optional part -/
abbrev MO := SW → M (Option Int)
def oNo : MO := fun _ => rtn none
def oSo (a : ME) : MO := fun sw => bnd (a sw) fun x => match x with
  | .int i => rtn (some i)
  | _ => bad
def tOo (K : PySem.W.Frag) (cm : Str → Addr) (m : MO) : TO := fun σ H Q => ∃ ρ h sw o h', RelH K cm ρ h H ∧ RelS K ρ H sw σ ∧ m sw h = .ok o h' ∧ ∀ ρ' H', Le K ρ H ρ' H' → RelH K cm ρ' h' H' → Q o H'
abbrev RO (X : Cx) (cm : Str → Addr) (e : Option Expr) (m : MO) : Prop := PO X e (tOo X.K cm m)
theorem poM {X : Cx} {e : Option Expr} {t t' : TO} (p : PO X e t) (f : ∀ σ H Q, t' σ H Q → t σ H Q) : PO X e t' := ⟨fun pins s σ H Q I q => p.run pins s σ H Q I (f σ H Q q)⟩
theorem ro_no : RO X cm none oNo := by
  refine poM po_none fun σ H Q q => ?_
  obtain ⟨ρ, h, sw, o, h', rh, rs, e, k⟩ := q
  cases e
  exact k ρ H .refl rh
theorem ro_so {a : Expr} {ma : ME} (ha : RE X cm a ma) : RO X cm (some a) (oSo ma) := by
  refine poM (po_some ha) fun σ H Q q => ?_
  obtain ⟨ρ, h, sw, o, h', rh, rs, e, k⟩ := q
  obtain ⟨x, h1, e1, e2⟩ := bnd_ok e
  refine ⟨ρ, h, sw, x, h1, rh, rs, e1, fun ρ1 H1 x' l1 rh1 rx => ?_⟩
  cases x with
  | int i =>
    cases rx
    cases e2
    exact ⟨i, rfl, k ρ1 H1 l1 rh1⟩
  | _ => cases e2
def cutW (xs : List W) (lo hi : Option Int) : List W := (xs.drop (HT.sIx xs.length 0 lo)).take (HT.sIx xs.length xs.length hi - HT.sIx xs.length 0 lo)
theorem cut_rel {K : PySem.W.Frag} {ρ : List Addr} {H : Hp} {ws : List W} {vs : List V} (r : Rels K ρ H ws vs) (lo hi : Option Int) : Rels K ρ H (cutW ws lo hi) (cutV vs lo hi) := by
  unfold cutW cutV
  rw [r.length]
  exact (r.drop _).take _
def fSl (x : W) (lo hi : Option Int) : M W := fun h => match x with
  | .str z => if z.length ≤ lim then .ok (.str (cutS z lo hi)) h else .no
  | .tup xs => if HT.sIx xs.length 0 lo = 0 ∧ HT.sIx xs.length xs.length hi = xs.length then .no else .ok (.tup (cutW xs lo hi)) h
  | x => match items h x with
    | some xs => alloc (.lst (cutW xs lo hi)) h
    | none => .no
def mSl (a : ME) (l u : MO) : ME := fun sw => bnd (a sw) fun x => bnd (l sw) fun lo => bnd (u sw) fun hi => fSl x lo hi
theorem re_sl {a : Expr} {ma : ME} {lo hi : Option Expr} {ml mh : MO} {pos p2 : Pos} (ha : RE X cm a ma) (hl : RO X cm lo ml) (hu : RO X cm hi mh) : RE X cm (.Subscript a (.Slice lo hi none p2) pos) (mSl ma ml mh) := by
  refine peM (pe_slice (sl_list.or (sl_tup.or sl_str)) ha hl hu) fun σ H Q q => ?_
  obtain ⟨ρ, h, sw, w, h', rh, rs, e, k⟩ := q
  obtain ⟨x, h1, e1, e2⟩ := bnd_ok e
  obtain ⟨l, h2, e3, e4⟩ := bnd_ok e2
  obtain ⟨u, h3, e5, e6⟩ := bnd_ok e4
  refine ⟨ρ, h, sw, x, h1, rh, rs, e1, fun ρ1 H1 x' l1 rh1 rx => ?_⟩
  refine ⟨ρ1, h1, sw, l, h2, rh1, rs.mono l1, e3, fun ρ2 H2 l2 rh2 => ?_⟩
  refine ⟨ρ2, h2, sw, u, h3, rh2, rs.mono (l1.trans l2), e5, fun ρ3 H3 l3 rh3 => ?_⟩
  have rx3 := rx.mono (l2.trans l3)
  have k3 : KE X.K cm ρ3 H3 w h' Q := fun ρ4 H4 v l4 => k ρ4 H4 v ((l1.trans l2).trans (l3.trans l4))
  have lst : (match items h3 x with
    | some xs => alloc (.lst (cutW xs l u)) h3
    | none => EL.R.no) = .ok w h' → rSlL X.K x' l u H3 Q := fun e => by
    split at e
    · rename_i xs hi
      cases e
      obtain ⟨a, vs, rfl, hq, rl⟩ := items_of rh3 rx3 hi
      exact ⟨a, vs, rfl, hq, fun p hp => new_lst rh3 (cut_rel rl l u) hp k3⟩
    · cases e
  cases rx3 with
  | str z =>
    have e' : (if z.length ≤ lim then EL.R.ok (W.str (cutS z l u)) h3 else EL.R.no) = .ok w h' := e6
    split at e'
    · rename_i hl
      cases e'
      exact .inr (.inr ⟨z, rfl, by rw [← lim_eq]; exact hl, k3.at rh3 (.str _)⟩)
    · cases e'
  | @tup ws vs a hq r =>
    have e' : (if HT.sIx ws.length 0 l = 0 ∧ HT.sIx ws.length ws.length u = ws.length then EL.R.no else EL.R.ok (W.tup (cutW ws l u)) h3) = .ok w h' := e6
    split at e'
    · cases e'
    · rename_i hl
      cases e'
      rw [r.length] at hl
      exact .inr (.inl ⟨a, vs, rfl, hq, hl, fun p hp => new_tup rh3 (cut_rel r l u) hp k3⟩)
  | ref hp => exact .inl (lst e6)
  | rol hq r => exact .inl (lst e6)
  | _ => cases e6
end

/-! ### built-ins -/
section
variable {X : Cx} {cm : Str → Addr}
theorem one_of {K : PySem.W.Frag} {ρ : List Addr} {H : Hp} {w : W} {vs : List V} (r : Rels K ρ H [w] vs) : ∃ v, vs = [v] ∧ Rel K ρ H w v := by
  cases r with
  | cons r t =>
    cases t
    exact ⟨_, rfl, r⟩
theorem two_of {K : PySem.W.Frag} {ρ : List Addr} {H : Hp} {w u : W} {vs : List V} (r : Rels K ρ H [w, u] vs) : ∃ v x, vs = [v, x] ∧ Rel K ρ H w v ∧ Rel K ρ H u x := by
  cases r with
  | cons r t =>
    cases t with
    | cons r2 t =>
      cases t
      exact ⟨_, _, rfl, r, r2⟩
def bLen : List W → M W
  | [x] => fun h => match x with
    | .str z => if z.length ≤ lim then .ok (.int z.length) h else .no
    | .tup xs => .ok (.int xs.length) h
    | x => match items h x with
      | some xs => .ok (.int xs.length) h
      | none => .no
  | _ => bad
theorem oLen : CallR X (.builtin "len") (fun xs H Q => (∃ p ys, xs = [.ref p] ∧ (SqL X.K H p ys ∨ SqT X.K H p ys) ∧ Q (.int ys.length) H) ∨ ∃ z, xs = [.str z] ∧ z.length ≤ sizeLine ∧ Q (.int z.length) H) := call_len_seq.or call_len_str
theorem wLen : CallW X.K cm (fun xs H Q => (∃ p ys, xs = [.ref p] ∧ (SqL X.K H p ys ∨ SqT X.K H p ys) ∧ Q (.int ys.length) H) ∨ ∃ z, xs = [.str z] ∧ z.length ≤ sizeLine ∧ Q (.int z.length) H) bLen := by
  intro ρ h H ws vs z h' Q rh r e k
  cases ws with
  | nil => cases e
  | cons x t =>
    cases t with
    | cons _ _ => cases e
    | nil =>
      obtain ⟨v, rfl, rx⟩ := one_of r
      have lst : (match items h x with
        | some xs => EL.R.ok (W.int xs.length) h
        | none => EL.R.no) = .ok z h' → (∃ p ys, [v] = [.ref p] ∧ (SqL X.K H p ys ∨ SqT X.K H p ys) ∧ Q (.int ys.length) H) := fun e => by
        split at e
        · rename_i xs hi
          cases e
          obtain ⟨a, vs, rfl, hq, rl⟩ := items_of rh rx hi
          refine ⟨a, vs, rfl, .inl hq, ?_⟩
          rw [← rl.length]
          exact k.at rh (.int _)
        · cases e
      cases rx with
      | str s =>
        have e' : (if s.length ≤ lim then EL.R.ok (W.int s.length) h else EL.R.no) = .ok z h' := e
        split at e'
        · rename_i hl
          cases e'
          exact .inr ⟨s, rfl, by rw [← lim_eq]; exact hl, k.at rh (.int _)⟩
        · cases e'
      | @tup us ts a hq r2 =>
        cases e
        refine .inl ⟨_, _, rfl, .inr hq, ?_⟩
        rw [← Rels.length r2]
        exact k.at rh (.int _)
      | ref hp => exact .inl (lst e)
      | rol hq r => exact .inl (lst e)
      | _ => cases e
def bAbs : List W → M W
  | [.int i] => rtn (.int (if i < 0 then -i else i))
  | _ => bad
theorem wAbs : CallW X.K cm (fun xs H Q => ∃ i, xs = [.int i] ∧ Q (.int (if i < 0 then -i else i)) H) bAbs := by
  intro ρ h H ws vs z h' Q rh r e k
  unfold bAbs at e
  split at e
  · cases e
    obtain ⟨v, rfl, rx⟩ := one_of r
    cases rx
    exact ⟨_, rfl, k.at rh (.int _)⟩
  · cases e
def bInt : List W → M W
  | [.int i] => rtn (.int i)
  | [.bl b] => rtn (.int (if b then 1 else 0))
  | _ => bad
theorem wInt1 : CallW X.K cm (fun xs H Q => (∃ i, xs = [.int i] ∧ Q (.int i) H) ∨ ∃ k, xs = [.bl k] ∧ Q (.int (if k then 1 else 0)) H) bInt := by
  intro ρ h H ws vs z h' Q rh r e k
  unfold bInt at e
  split at e
  · cases e
    obtain ⟨v, rfl, rx⟩ := one_of r
    cases rx
    exact .inl ⟨_, rfl, k.at rh (.int _)⟩
  · cases e
    obtain ⟨v, rfl, rx⟩ := one_of r
    cases rx
    exact .inr ⟨_, rfl, k.at rh (.int _)⟩
  · cases e
def wInts : List W → Option (List Int) := mapO fun w => match w with
  | .int i => some i
  | _ => none
theorem wInts_of : ∀ {ws : List W} {ns : List Int}, wInts ws = some ns → ws = ns.map W.int
  | [], ns, e => by
    cases e
    rfl
  | w :: ws, ns, e => by
    unfold wInts mapO at e
    split at e
    · rename_i y ys e1 e2
      cases e
      have q : ws = ys.map W.int := wInts_of (ws := ws) e2
      cases w <;> cases e1
      rw [List.map_cons, ← q]
    · cases e
def bSum : List W → M W
  | [x] => fun h => match items h x with
    | some xs => match wInts xs with
      | some ns => .ok (.int ns.sum) h
      | none => .no
    | none => .no
  | _ => bad
theorem wSum : CallW X.K cm (rSum X.K) bSum := by
  intro ρ h H ws vs z h' Q rh r e k
  cases ws with
  | nil => cases e
  | cons x t =>
    cases t with
    | cons _ _ => cases e
    | nil =>
      obtain ⟨v, rfl, rx⟩ := one_of r
      have e' : (match items h x with
        | some xs => (match wInts xs with
          | some ns => EL.R.ok (W.int ns.sum) h
          | none => EL.R.no)
        | none => EL.R.no) = .ok z h' := e
      split at e'
      · rename_i xs hi
        split at e'
        · rename_i ns hn
          cases e'
          obtain ⟨a, us, rfl, hq, rl⟩ := items_of rh rx hi
          have q := wInts_of hn
          subst q
          rw [Rels.of_ints rl] at hq
          exact ⟨a, ns, rfl, hq, k.at rh (.int _)⟩
        · cases e'
      · cases e'
def bMax : List W → M W
  | [.int i, .int j] => rtn (.int (if j > i then j else i))
  | _ => bad
theorem wMax : CallW X.K cm (fun xs H Q => ∃ i j, xs = [.int i, .int j] ∧ Q (.int (if j > i then j else i)) H) bMax := by
  intro ρ h H ws vs z h' Q rh r e k
  unfold bMax at e
  split at e
  · cases e
    obtain ⟨v, u, rfl, rx, ry⟩ := two_of r
    cases rx
    cases ry
    exact ⟨_, _, rfl, k.at rh (.int _)⟩
  · cases e
def bMin : List W → M W
  | [.int i, .int j] => rtn (.int (if j < i then j else i))
  | _ => bad
theorem wMin : CallW X.K cm (fun xs H Q => ∃ i j, xs = [.int i, .int j] ∧ Q (.int (if j < i then j else i)) H) bMin := by
  intro ρ h H ws vs z h' Q rh r e k
  unfold bMin at e
  split at e
  · cases e
    obtain ⟨v, u, rfl, rx, ry⟩ := two_of r
    cases rx
    cases ry
    exact ⟨_, _, rfl, k.at rh (.int _)⟩
  · cases e
def wBls : List W → Option (List Bool) := mapO fun w => match w with
  | .bl i => some i
  | _ => none
theorem wBls_of : ∀ {ws : List W} {ns : List Bool}, wBls ws = some ns → ws = ns.map W.bl
  | [], ns, e => by
    cases e
    rfl
  | w :: ws, ns, e => by
    unfold wBls mapO at e
    split at e
    · rename_i y ys e1 e2
      cases e
      have q : ws = ys.map W.bl := wBls_of (ws := ws) e2
      cases w <;> cases e1
      rw [List.map_cons, ← q]
    · cases e
def bAll : List W → M W
  | [x] => fun h => match items h x with
    | some xs => match wBls xs with
      | some ns => .ok (.bl (ns.all id)) h
      | none => .no
    | none => .no
  | _ => bad
theorem wAll : CallW X.K cm (rAll X.K) bAll := by
  intro ρ h H ws vs z h' Q rh r e k
  cases ws with
  | nil => cases e
  | cons x t =>
    cases t with
    | cons _ _ => cases e
    | nil =>
      obtain ⟨v, rfl, rx⟩ := one_of r
      have e' : (match items h x with
        | some xs => (match wBls xs with
          | some ns => EL.R.ok (W.bl (ns.all id)) h
          | none => EL.R.no)
        | none => EL.R.no) = .ok z h' := e
      split at e'
      · rename_i xs hi
        split at e'
        · rename_i ns hn
          cases e'
          obtain ⟨a, us, rfl, hq, rl⟩ := items_of rh rx hi
          have q := wBls_of hn
          subst q
          rw [Rels.of_bls rl] at hq
          exact ⟨a, ns, rfl, hq, k.at rh (.bl _)⟩
        · cases e'
      · cases e'
def wStrs : List W → Option (List Str) := mapO fun w => match w with
  | .str i => some i
  | _ => none
theorem wStrs_of : ∀ {ws : List W} {ns : List Str}, wStrs ws = some ns → ws = ns.map W.str
  | [], ns, e => by
    cases e
    rfl
  | w :: ws, ns, e => by
    unfold wStrs mapO at e
    split at e
    · rename_i y ys e1 e2
      cases e
      have q : ws = ys.map W.str := wStrs_of (ws := ws) e2
      cases w <;> cases e1
      rw [List.map_cons, ← q]
    · cases e
/-- repr of a truth -/
def bRepr : List W → M W
  | [.bl b] => rtn (.str (if b then Str.ofString "True" else Str.ofString "False"))
  | [.non] => rtn (.str (Str.ofString "None"))
  | [.int i] => if i.natAbs.log2 < 1920 then rtn (.str (toString i)) else bad
  | [.str x] => if (reprText x).length ≤ lim then rtn (.str (reprText x)) else bad
  | _ => bad
def rRepr : List V → Hp → VK → Prop := fun xs H Q => (∃ b, xs = [.bl b] ∧ Q (.str (if b then Str.ofString "True" else Str.ofString "False")) H) ∨ (xs = [.non] ∧ Q (.str (Str.ofString "None")) H) ∨
  (∃ i : Int, xs = [.int i] ∧ i.natAbs.log2 < 1920 ∧ Q (.str (toString i)) H) ∨ ∃ x : Str, xs = [.str x] ∧ (reprText x).length ≤ sizeLine ∧ Q (.str (reprText x)) H
theorem oRepr : CallR X (.builtin "repr") rRepr := by
  intro pins s σ H xs us Q I r h
  rcases h with ⟨b, rfl, q⟩ | ⟨rfl, q⟩ | ⟨i, rfl, hi, q⟩ | ⟨x, rfl, hx, q⟩
  · obtain ⟨u, rfl, ru⟩ := Vals.one r
    cases ru
    cases b with
    | true => exact PySem.P.repr_of_bool ⟨.str _, H, I.tok _, ⟨_, rfl⟩, q⟩
    | false => exact PySem.P.repr_of_bool ⟨.str _, H, I.tok _, ⟨_, rfl⟩, q⟩
  · obtain ⟨u, rfl, ru⟩ := Vals.one r
    cases ru
    exact PySem.P.repr_of_none ⟨.str _, H, I.tok _, ⟨_, rfl⟩, q⟩
  · obtain ⟨u, rfl, ru⟩ := Vals.one r
    obtain ⟨t, rfl⟩ := ru
    exact PySem.P.repr_of_int hi ⟨.str _, H, I.tok _, ⟨_, rfl⟩, q⟩
  · obtain ⟨u, rfl, ru⟩ := Vals.one r
    obtain ⟨t, rfl⟩ := ru
    exact PySem.P.repr_of_str ⟨.str _, H, I.tok _, ⟨_, rfl⟩, q⟩ hx
theorem wRepr : CallW X.K cm rRepr bRepr := by
  intro ρ h H ws vs z h' Q rh r e k
  unfold bRepr at e
  split at e
  · cases e
    obtain ⟨v, rfl, rx⟩ := one_of r
    cases rx
    exact .inl ⟨_, rfl, k.at rh (.str _)⟩
  · cases e
    obtain ⟨v, rfl, rx⟩ := one_of r
    cases rx
    exact .inr (.inl ⟨rfl, k.at rh (.str _)⟩)
  · split at e
    · cases e
      obtain ⟨v, rfl, rx⟩ := one_of r
      cases rx
      exact .inr (.inr (.inl ⟨_, rfl, by assumption, k.at rh (.str _)⟩))
    · cases e
  · split at e
    · cases e
      obtain ⟨v, rfl, rx⟩ := one_of r
      cases rx
      exact .inr (.inr (.inr ⟨_, rfl, by rw [← lim_eq]; assumption, k.at rh (.str _)⟩))
    · cases e
  · cases e
/-- sep.join(a list of texts) -/
def fJoin (x y : W) : M W := fun h => match x with
  | .str a => match items h y with
    | some xs => match wStrs xs with
      | some ys => if (ys.map Str.length).sum + ys.length * a.length ≤ lim then .ok (.str (Txt.join a ys)) h else .no
      | none => .no
    | none => .no
  | _ => .no
end
/-! ### isinstance, of what is no instance -/
def tyName (h : Hw) (x : W) : Option String := match x with
  | .non => some "NoneType"
  | .bl _ => some "bool"
  | .int _ => some "int"
  | .str _ => some "str"
  | .tup _ => some "tuple"
  | .rol _ => some "list"
  | .ref p => match h[p]? with
    | some (.lst _) => some "list"
    | some (.dK _) => some "dict"
    | _ => none
theorem tyX_of {K : PySem.W.Frag} {cm : Str → Addr} {ρ : List Addr} {h : Hw} {H : Hp} {x : W} {v : V} {n : String} (rh : RelH K cm ρ h H) (r : Rel K ρ H x v) (e : tyName h x = some n) : TyX K H v (.type n) := by
  cases r with
  | non => cases e; exact .base .non
  | bl b => cases e; exact .base (.bl b)
  | int i => cases e; exact .base (.int i)
  | str s => cases e; exact .base (.str s)
  | tup hq r =>
    cases e
    rcases hq with (hq | ⟨o, hq⟩) | ⟨o, its, n, hk, hc, _⟩
    · exact .base (.tup hq)
    · exact .fTuple hq
    · exact .kTuple hk hc
  | rol hq r =>
    cases e
    rcases hq with ⟨o, hq⟩ | ⟨o, its, n, hk, hc, _⟩
    · exact .base (.frz hq)
    · exact .kList hk hc
  | @ref p a hp =>
    have e' : (match h[p]? with
      | some (.lst _) => some "list"
      | some (.dK _) => some "dict"
      | _ => none) = some n := e
    obtain ⟨o, ho, ro⟩ := rh.at (w := .non) hp
    rw [ho] at e'
    cases o with
    | lst xs =>
      cases e'
      obtain ⟨vs, ea, _⟩ := ro
      exact .base (.lst ea)
    | dK kvs =>
      cases e'
      obtain ⟨kv, ea, _⟩ := ro
      exact .base (.dK ea)
    | ins C fs => cases e'
/-- isinstance(x, T), T a built-in type -/
def mIsi (T : String) (a : ME) : ME := fun sw => bnd (a sw) fun x h => match tyName h x with
  | some n => match kitB n T with
    | some b => .ok (.bl b) h
    | none => .no
  | none => .no
section
variable {X : Cx} {cm : Str → Addr} {a b : Expr} {ma : ME} {pos p : Pos}
theorem re_isi {T : String} {x : Str} {p2 : Pos} (hm : X.mg "isinstance" = none) (hT : X.mg x = none) (ha : RE X cm a ma) (hv : bootBuiltins x = some (.type T) := by decide +kernel) (hg : Gl X "isinstance" := by rfl) (hg2 : Gl X x := by rfl) (hn : x ≠ "__name__" := by decide) (hd : (x == ("__debug__" : Str)) = false := by decide)
    (hs1 : starEach (a :: [.Name x p2]) X.env = (false, eval a X.env) :: starEach [.Name x p2] X.env := by rfl) (hs2 : starEach (.Name x p2 :: []) X.env = (false, eval (.Name x p2) X.env) :: starEach [] X.env := by rfl) (hpl : (backTo pos (starEach [.Name x p2] X.env)).any (·.1) = false := by rfl) :
    RE X cm (.Call (.Name "isinstance" p) [a, .Name x p2] [] pos) (mIsi T ma) := by
  refine peM (pe_callB call_isi hg hm (by decide +kernel) (pa_cons ha (pa_cons (pe_bltn (v := .ty T) hg2 hT hv rfl hn hd) pa_nil hs2) hs1) (by decide) (by decide) hs1 hpl) fun σ H Q q => ?_
  obtain ⟨ρ, h, sw, w, h', rh, rs, e, k⟩ := q
  obtain ⟨y, h1, e1, e2⟩ := bnd_ok e
  refine ⟨ρ, h, sw, y, h1, rh, rs, e1, fun ρ1 H1 v l1 rh1 rx => ?_⟩
  split at e2
  · rename_i n hn'
    split at e2
    · rename_i bb hb
      cases e2
      exact ⟨v, .ty T, .type n, .type T, bb, rfl, .ty T, tyX_of rh1 rx hn', kit_ty hb, k ρ1 H1 _ l1 rh1 (.bl bb)⟩
    · cases e2
  · cases e2
theorem re_join {mb : ME} {apos : Pos} (ha : RE X cm a ma) (hb : RE X cm b mb) (hs : starEach [b] X.env = [(false, eval b X.env)] := by rfl) (hbase : attributeBase a "join" X.env (eval a X.env) = eval a X.env := by rfl) (hline : (apos.endLine == pos.line) = true := by rfl) :
    RE X cm (.Call (.Attribute a "join" apos) [b] [] pos) (mBin fJoin ma mb) := by
  refine peM (pe_join ha hb hs hbase hline) fun σ H Q q => ?_
  obtain ⟨ρ, h, sw, w, h', rh, rs, e, k⟩ := q
  obtain ⟨x, h1, e1, e2⟩ := bnd_ok e
  obtain ⟨y, h2, e3, e4⟩ := bnd_ok e2
  refine ⟨ρ, h, sw, x, h1, rh, rs, e1, fun ρ1 H1 x' l1 rh1 rx => ?_⟩
  cases x with
  | str s =>
    cases rx
    refine ⟨⟨s, rfl⟩, ρ1, h1, sw, y, h2, rh1, rs.mono l1, e3, fun ρ2 H2 y' l2 rh2 ry => ?_⟩
    have e4' : (match items h2 y with
      | some xs => (match wStrs xs with
        | some ys => if (ys.map Str.length).sum + ys.length * s.length ≤ lim then EL.R.ok (W.str (Txt.join s ys)) h2 else EL.R.no
        | none => EL.R.no)
      | none => EL.R.no) = .ok w h' := e4
    split at e4'
    · rename_i xs hi
      split at e4'
      · rename_i ys hy
        split at e4'
        · rename_i hl
          cases e4'
          obtain ⟨a', us, rfl, hq, rl⟩ := items_of rh2 ry hi
          have q := wStrs_of hy
          subst q
          rw [Rels.of_strs rl] at hq
          exact ⟨s, a', ys, rfl, rfl, .inl hq, hl, k ρ2 H2 _ (l1.trans l2) rh2 (.str _)⟩
        · cases e4'
      · cases e4'
    · cases e4'
  | _ => cases e4
/-- a < b < c -/
def mCh (f g : W → W → M W) (a b c : ME) : ME := fun sw => bnd (a sw) fun x => bnd (b sw) fun y => bnd (f x y) fun z => match z with
  | .bl true => bnd (c sw) fun u => g y u
  | .bl false => rtn (.bl false)
  | _ => bad
theorem ch_tE {c : Expr} {mb mc : ME} {r r' : R2} {f g : W → W → M W} (ow : OpW X.K cm r f) (ow' : OpW X.K cm r' g) {σ : St} {H : Hp} {Q : VK} (q : tE X.K cm (mCh f g ma mb mc) σ H Q) : tChain r r' (tE X.K cm ma) (tE X.K cm mb) (tE X.K cm mc) σ H Q := by
  obtain ⟨ρ, h, sw, w, h', rh, rs, e, k⟩ := q
  obtain ⟨x, h1, e1, e2⟩ := bnd_ok e
  obtain ⟨y, h2, e3, e4⟩ := bnd_ok e2
  obtain ⟨z, h3, e5, e6⟩ := bnd_ok e4
  refine ⟨ρ, h, sw, x, h1, rh, rs, e1, fun ρ1 H1 x' l1 rh1 rx => ?_⟩
  refine ⟨ρ1, h1, sw, y, h2, rh1, rs.mono l1, e3, fun ρ2 H2 y' l2 rh2 ry => ?_⟩
  refine ow ρ2 h2 H2 x y x' y' z h3 _ rh2 (rx.mono l2) ry e5 fun ρ3 H3 z' l3 rh3 rz => ?_
  have l13 := l1.trans (l2.trans l3)
  cases z with
  | bl b =>
    cases rz
    cases b with
    | false =>
      cases e6
      exact ⟨false, rfl, iteF (k ρ3 H3 _ l13 rh3 (.bl false))⟩
    | true =>
      obtain ⟨u, h4, e7, e8⟩ := bnd_ok e6
      refine ⟨true, rfl, iteT ⟨ρ3, h3, sw, u, h4, rh3, rs.mono l13, e7, fun ρ4 H4 u' l4 rh4 ru => ?_⟩⟩
      exact ow' ρ4 h4 H4 y u y' u' w h' Q rh4 (ry.mono (l3.trans l4)) ru e8 fun ρ5 H5 v l5 => k ρ5 H5 v (l13.trans (l4.trans l5))
  | _ => cases e6
theorem re_ch {c : Expr} {mb mc : ME} {op op' : CmpOp} {r r' : R2} {f g : W → W → M W} (ho : OpR X (compareOp op) r) (ow : OpW X.K cm r f) (ho' : OpR X (compareOp op') r') (ow' : OpW X.K cm r' g) (ha : RE X cm a ma) (hb : RE X cm b mb) (hc : RE X cm c mc)
    (hm : lastMarks [op, op'] [b, c] = false := by with_unfolding_all rfl) : RE X cm (.Compare a [op, op'] [b, c] pos) (mCh f g ma mb mc) :=
  peM (pe_chain ho ho' ha hb hc hm) fun _ _ _ => ch_tE (c := c) ow ow'
theorem rt_ch {c : Expr} {mb mc : ME} {op op' : CmpOp} {r r' : R2} {f g : W → W → M W} (ho : OpR X (compareOp op) r) (ow : OpW X.K cm r f) (ho' : OpR X (compareOp op') r') (ow' : OpW X.K cm r' g) (ha : RE X cm a ma) (hb : RE X cm b mb) (hc : RE X cm c mc)
    (hm : lastMarks [op, op'] [b, c] = false := by with_unfolding_all rfl) : RT X cm (.Compare a [op, op'] [b, c] pos) (tVal (mCh f g ma mb mc)) :=
  ptM (pt_chain ho ho' ha hb hc hm) fun σ H Q q => test_of (fun Q' => ch_tE (c := c) ow ow') q
end
end EL
namespace EL
open PySem PySem.Spec L2
open PyProof.Rows hiding St
section
variable {X : Cx} {cm : Str → Addr} {e a b c o : Expr} {es : List Expr} {ma mb mo : ME} {mr : MA} {pos apos : Pos}
def mDnew : ME := fun _ => alloc (.dK [])
theorem re_dnew : RE X cm (.Dict [] [] pos) mDnew := by
  refine peM pe_dnewK fun σ H Q q => ?_
  obtain ⟨ρ, h, sw, w, h', rh, rs, e, k⟩ := q
  cases e
  intro p hp
  have l : Le X.K ρ H (ρ ++ [p]) (upd H p (.dK [])) := (le_new hp).trans (le_app p)
  exact k (ρ ++ [p]) _ _ l (rh.push hp ⟨[], upd_same, rfl, .nil⟩) (.ref (push_at rh))
/-- xs.append(y) -/
def fApp (x y : W) : M W := fun h => match x with
  | .ref p => match h[p]? with
    | some (.lst acc) => if acc.length < lim then .ok .non (h.set p (.lst (acc ++ [y]))) else .no
    | _ => .no
  | _ => .no
def chkL (x : W) : M Unit := fun h => match x with
  | .ref p => match h[p]? with
    | some (.lst _) => .ok () h
    | _ => .no
  | _ => .no
def mApp (a b : ME) : ME := fun sw => bnd (a sw) fun x => bnd (chkL x) fun _ => bnd (b sw) fun y => fApp x y
theorem chkL_of {p : Nat} {h h' : Hw} {u : Unit} (e : chkL (.ref p) h = .ok u h') : h' = h ∧ ∃ xs, h[p]? = some (.lst xs) := by
  have e' : (match h[p]? with
    | some (.lst _) => EL.R.ok () h
    | _ => EL.R.no) = .ok u h' := e
  split at e'
  · rename_i xs hx
    cases e'
    exact ⟨rfl, xs, hx⟩
  · cases e'
theorem re_append (ha : RE X cm a ma) (hb : RE X cm b mb) (hbase : attributeBase a "append" X.env (eval a X.env) = eval a X.env := by rfl)
    (hfew : ((backTo pos (starEach [b] X.env)).all (fun x => !x.1) && (backToKw pos (keywordEach [] X.env)).all (fun x => x.1.isSome) && decide ([b].length + ([] : List Keyword).length + (if ([] : List Keyword).isEmpty then 0 else 1) < 30)) = true := by rfl)
    (hline : (apos.endLine == pos.line) = true := by rfl) (hs : starEach (b :: []) X.env = (false, eval b X.env) :: starEach [] X.env := by rfl) (hpl : (backTo pos (starEach [] X.env)).any (·.1) = false := by rfl) :
    RE X cm (.Call (.Attribute a "append" apos) [b] [] pos) (mApp ma mb) := by
  refine peM (pe_bm PySem.F.plainAttrs_list PySem.F.slot_list_append PySem.F.type_list_append mt_append ha (pa_cons hb pa_nil hs) hbase hfew hline hs hpl) fun σ H Q q => ?_
  obtain ⟨ρ, h, sw, w, h', rh, rs, e, k⟩ := q
  obtain ⟨x, h1, e1, e2⟩ := bnd_ok e
  obtain ⟨u0, h0, e0, e2⟩ := bnd_ok e2
  obtain ⟨y, h2, e3, e4⟩ := bnd_ok e2
  have key : ∀ {p : Nat}, x = .ref p → ∃ acc, h2[p]? = some (.lst acc) ∧ acc.length < lim ∧ w = .non ∧ h' = h2.set p (.lst (acc ++ [y])) := fun {p} ex => by
    subst ex
    have e4' : (match h2[p]? with
      | some (.lst acc) => if acc.length < lim then EL.R.ok W.non (h2.set p (.lst (acc ++ [y]))) else EL.R.no
      | _ => .no) = .ok w h' := e4
    split at e4'
    · rename_i acc ha
      split at e4'
      · cases e4'
        exact ⟨acc, ha, by assumption, rfl, rfl⟩
      · cases e4'
    · cases e4'
  refine ⟨ρ, h, sw, x, h1, rh, rs, e1, fun ρ1 H1 x' l1 rh1 rx => ?_⟩
  cases rx with
  | @ref p A hp =>
    obtain ⟨eh, xs, hx⟩ := chkL_of e0
    subst eh
    obtain ⟨vs0, ea0, _⟩ := rh1.lst hp hx
    refine ⟨.inl ⟨rfl, vs0, .of ea0⟩, ρ1, _, sw, y, h2, rh1, rs.mono l1, e3, fun ρ2 H2 y' l2 rh2 ry => ?_⟩
    obtain ⟨acc, ha, hl, rfl, rfl⟩ := key rfl
    obtain ⟨vs, ea, rv⟩ := rh2.lst (pre_get l2.pre hp) ha
    have lu : Le X.K ρ2 H2 ρ2 (upd H2 A (.lst (vs ++ [y']))) := le_mut ea trivial
    refine ⟨A, vs, y', rfl, rfl, ea, by rw [← rv.length, ← lim_eq]; exact hl, k ρ2 _ .non (l1.trans (l2.trans lu)) (rh2.set (pre_get l2.pre hp) ⟨_, upd_same, ?_⟩) .non⟩
    exact (rv.append (.cons ry .nil)).mono lu
  | _ => cases e4
/-- a, b = x, y -/
def sPar2 (i j : Nat) (a : MA) : MS := fun sw => bnd (a sw) fun ws => match ws with
  | [x, y] => rtn (.nx ((sw.set i (some x)).set j (some y)))
  | _ => bad
theorem rs_par2 (i j : Nat) {x y : Str} {px py pt : Pos} {kt k2 pt2} (hN : X.N.Nodup) (ha : RA X cm [a, b] mr) (hc : X.calm = true := by rfl) (hi : X.N[i]? = some x := by rfl) (hj : X.N[j]? = some y := by rfl) (hij : i ≠ j := by decide) (hx : X.env.scope.names.lookup x = some .local := by rfl) (hy : X.env.scope.names.lookup y = some .local := by rfl)
    (hw : swappedStores [.Tuple [.Name x px, .Name y py] kt pt] (.Tuple [a, b] k2 pt2) X.env = pure (some [x, y]) := by rfl) (hs : swapsWithSole [.Tuple [.Name x px, .Name y py] kt pt] (.Tuple [a, b] k2 pt2) pos.line X.env = pure false := by rfl) :
    RS X cm (.Assign [.Tuple [.Name x px, .Name y py] kt pt] (.Tuple [a, b] k2 pt2) pos) (sPar2 i j mr) := by
  refine psM (ps_par hc hN hi hj hij hx hy ha hw hs) fun D σ H q => ?_
  obtain ⟨ρ, h, sw, f, h', rh, rs, e, k⟩ := q
  obtain ⟨ws, h1, e1, e2⟩ := bnd_ok e
  refine ⟨ρ, h, sw, ws, h1, rh, rs, e1, fun ρ1 H1 vs l1 rh1 rx => ?_⟩
  split at e2
  · cases e2
    obtain ⟨v, u, rfl, r1, r2⟩ := two_of rx
    exact ⟨v, u, rfl, k ρ1 H1 _ l1 rh1 (((rs.mono l1).set r1 i).set r2 j)⟩
  · cases e2
/-- a, b, c = x, y, z -/
def sPar3 (i j l : Nat) (a : MA) : MS := fun sw => bnd (a sw) fun ws => match ws with
  | [x, y, z] => rtn (.nx (((sw.set i (some x)).set j (some y)).set l (some z)))
  | _ => bad
theorem rs_par3 (i j l : Nat) {x y z : Str} {px py pz pt : Pos} {kt k2 pt2} (hN : X.N.Nodup) (ha : RA X cm [a, b, c] mr) (hc : X.calm = true := by rfl) (hi : X.N[i]? = some x := by rfl) (hj : X.N[j]? = some y := by rfl) (hl : X.N[l]? = some z := by rfl) (hij : i ≠ j := by decide) (hil : i ≠ l := by decide) (hjl : j ≠ l := by decide)
    (hx : X.env.scope.names.lookup x = some .local := by rfl) (hy : X.env.scope.names.lookup y = some .local := by rfl) (hz : X.env.scope.names.lookup z = some .local := by rfl)
    (hw : swappedStores [.Tuple [.Name x px, .Name y py, .Name z pz] kt pt] (.Tuple [a, b, c] k2 pt2) X.env = pure (some [x, y, z]) := by rfl) (hs : swapsWithSole [.Tuple [.Name x px, .Name y py, .Name z pz] kt pt] (.Tuple [a, b, c] k2 pt2) pos.line X.env = pure false := by rfl) :
    RS X cm (.Assign [.Tuple [.Name x px, .Name y py, .Name z pz] kt pt] (.Tuple [a, b, c] k2 pt2) pos) (sPar3 i j l mr) := by
  refine psM (ps_par3 hc hN hi hj hl hij hil hjl hx hy hz ha hw hs) fun D σ H q => ?_
  obtain ⟨ρ, h, sw, f, h', rh, rs, e, k⟩ := q
  obtain ⟨ws, h1, e1, e2⟩ := bnd_ok e
  refine ⟨ρ, h, sw, ws, h1, rh, rs, e1, fun ρ1 H1 vs l1 rh1 rx => ?_⟩
  split at e2
  · cases e2
    cases rx with
    | cons r1 t =>
      obtain ⟨v, u, rfl, r2, r3⟩ := two_of t
      exact ⟨_, v, u, rfl, k ρ1 H1 _ l1 rh1 ((((rs.mono l1).set r1 i).set r2 j).set r3 l)⟩
  · cases e2
def fAddI : W → W → M W
  | .int i, .int j => rtn (.int (i + j))
  | _, _ => bad
theorem wIpAdd : IpW X.K cm (ipI fun i j => i + j) fAddI := by
  intro ρ h H x y x' y' z h' Q rh rx ry e k
  cases rx with
  | int i =>
    cases ry with
    | int j =>
      cases e
      exact ⟨i, j, rfl, rfl, k.at rh (.int _)⟩
    | _ => cases e
  | _ => cases ry <;> cases e
theorem wIpSub : IpW X.K cm (ipI fun i j => i - j) fSub := by
  intro ρ h H x y x' y' z h' Q rh rx ry e k
  cases rx with
  | int i =>
    cases ry with
    | int j =>
      cases e
      exact ⟨i, j, rfl, rfl, k.at rh (.int _)⟩
    | _ => cases e
  | _ => cases ry <;> cases e
end
/-! ### the law's promise -/
def spLaw (K : PySem.W.Frag) : Sp := fun vs H Q _ => ∃ (a : Addr) (ns : List Int), vs = [.ref a] ∧ Only H ∧ SqL K H a (ns.map V.int) ∧ ns.length ≤ 63 ∧ ∀ H', Q (.bl true) H'
theorem law_imp {P : Program} {w : World} {K : PySem.W.Frag} {mg : Str → Option Value} {base : Heap} {cm : Str → Addr} {k : Nat} {f : Addr} {fd : FuncData} {ps : List Str} {m : List W → M W} (F : FnOk P w K mg base CX0 k f fd ps (spM K cm m))
    (T : ∀ ns : List Int, ns.length ≤ 63 → ∃ h', m [.rol (ns.map W.int)] [] = .ok (.bl true) h') : FnOk P w K mg base CX0 k f fd ps (spLaw K) := F.imp fun vs H Q E h => by
  obtain ⟨a, ns, rfl, hO, hS, hl, q⟩ := h
  obtain ⟨h', e⟩ := T ns hl
  have hp : SqP K H a (ns.map V.int) := by
    rcases hS with (hS | hS) | hS
    · rcases hO a with z | ⟨o, xs, z⟩
      · rw [z] at hS; cases hS
      · rw [z] at hS; cases hS
    · exact .inl hS
    · exact .inr hS
  refine ⟨[], [], [.rol (ns.map W.int)], .bl true, h', ⟨rfl, .nil, fun i o a e => by simp at e⟩, .cons (.rol hp (.ints ns)) .nil, e, fun ρ' H' v l rh r => ?_⟩
  cases r
  exact q H'
end EL
/-! EL7: reading the plain functions, from the left: what must hold behind each. -/
namespace EL
open PySem PySem.Spec L2
open PyProof.Rows hiding St
theorem okT {A B : Prop} (p : A) : (true = true → A) ∧ (true = false → B) := ⟨fun _ => p, fun z => nomatch z⟩
theorem okF {A B : Prop} (p : B) : (false = true → A) ∧ (false = false → B) := ⟨fun z => (nomatch z), fun _ => p⟩
theorem okNT {A B : Prop} (p : B) : ((!true) = true → A) ∧ ((!true) = false → B) := ⟨fun z => (nomatch z), fun _ => p⟩
theorem okNF {A B : Prop} (p : A) : ((!false) = true → A) ∧ ((!false) = false → B) := ⟨fun _ => p, fun z => nomatch z⟩
theorem okLim {xs : List W} {A : Prop} (e : Nat.ble xs.length lim = true) (p : A) : xs.length ≤ lim ∧ A := ⟨Nat.le_of_ble_eq_true e, p⟩
theorem okE {b : Bool} {A : Bool → Prop} (p : A b) : ∃ k, W.bl b = W.bl k ∧ A k := ⟨b, rfl, p⟩
theorem okEI {b : Int} {A : Int → Prop} (p : A b) : ∃ k, W.int b = W.int k ∧ A k := ⟨b, rfl, p⟩
theorem okB {b : Bool} {A B : Prop} (k : b = true) (p : A) : (b = true → A) ∧ (b = false → B) := ⟨fun _ => p, fun z => by rw [k] at z; cases z⟩
theorem okBF {b : Bool} {A B : Prop} (k : b = false) (p : B) : (b = true → A) ∧ (b = false → B) := ⟨fun z => (by rw [k] at z; cases z), fun _ => p⟩
def Ok {α : Type} (m : M α) (h : Hw) (P : α → Hw → Prop) : Prop := ∃ a h', m h = .ok a h' ∧ P a h'
theorem Ok.imp {α : Type} {m : M α} {h : Hw} {P P' : α → Hw → Prop} (o : Ok m h P) (f : ∀ a h', P a h' → P' a h') : Ok m h P' :=
  let ⟨a, h', e, p⟩ := o
  ⟨a, h', e, f a h' p⟩
theorem ok_rtn {α : Type} {a : α} {h : Hw} {P : α → Hw → Prop} (p : P a h) : Ok (rtn a) h P := ⟨a, h, rfl, p⟩
theorem ok_bnd {α β : Type} {m : M α} {f : α → M β} {h : Hw} {P : β → Hw → Prop} (o : Ok m h fun a h1 => Ok (f a) h1 P) : Ok (bnd m f) h P := by
  obtain ⟨a, h1, e, b, h2, e2, p⟩ := o
  exact ⟨b, h2, by unfold bnd; rw [e]; exact e2, p⟩
theorem bnd_of {α β : Type} {m : M α} {f : α → M β} {h h' : Hw} {a : α} (e : m h = .ok a h') : bnd m f h = f a h' := by
  unfold bnd
  rw [e]
section
variable {sw : SW} {h : Hw} {P : W → Hw → Prop} {PB : Bool → Hw → Prop} {PF : Fl → Hw → Prop} {PL : List W → Hw → Prop} {a b c : ME} {t u : MT} {ma mr : MA} {f g : W → W → M W} {s s' : MS}
theorem ok_var {i : Nat} {w : W} (e : sw[i]? = some (some w)) (p : P w h) : Ok (mVar i sw) h P := ⟨w, h, by unfold mVar; rw [e], p⟩
theorem ok_c {w : W} (p : P w h) : Ok (mC w sw) h P := ⟨w, h, rfl, p⟩
theorem ok_bin (o : Ok (a sw) h fun x h1 => Ok (b sw) h1 fun y h2 => Ok (f x y) h2 P) : Ok (mBin f a b sw) h P :=
  ok_bnd (o.imp fun _ _ o => ok_bnd o)
theorem ok_un {f : W → M W} (o : Ok (a sw) h fun x h1 => Ok (f x) h1 P) : Ok (mUn f a sw) h P := ok_bnd o
theorem ok_ch (o : Ok (a sw) h fun x h1 => Ok (b sw) h1 fun y h2 => Ok (f x y) h2 fun z h3 => ∃ k, z = .bl k ∧ (k = true → Ok (c sw) h3 fun v h4 => Ok (g y v) h4 P) ∧ (k = false → P (.bl false) h3)) : Ok (mCh f g a b c sw) h P :=
  ok_bnd (o.imp fun _ _ o => ok_bnd (o.imp fun _ _ o => ok_bnd (o.imp fun z h3 o => by
    obtain ⟨k, rfl, o1, o2⟩ := o
    cases k with
    | true => exact ok_bnd (o1 rfl)
    | false => exact ok_rtn (o2 rfl))))
theorem ok_aNil (p : PL [] h) : Ok (aNil sw) h PL := ok_rtn p
theorem ok_aCons (o : Ok (a sw) h fun x h1 => Ok (mr sw) h1 fun xs h2 => PL (x :: xs) h2) : Ok (aCons a mr sw) h PL := ok_bnd (o.imp fun _ _ o => ok_bnd (o.imp fun _ _ p => ok_rtn p))
theorem ok_call {f : List W → M W} (o : Ok (mr sw) h fun ws h1 => Ok (f ws) h1 P) : Ok (mCall f mr sw) h P := ok_bnd o
theorem ok_tup (o : Ok (mr sw) h fun ws h1 => ws.length ≤ lim ∧ P (.tup ws) h1) : Ok (mTup mr sw) h P := ok_bnd (o.imp fun _ _ o => by
  rw [if_pos o.1]
  exact ok_rtn o.2)
theorem ok_lst (o : Ok (mr sw) h fun ws h1 => ws.length ≤ lim ∧ P (.ref h1.length) (h1 ++ [.lst ws])) : Ok (mLst mr sw) h P := ok_bnd (o.imp fun _ _ o => by
  rw [if_pos o.1]
  exact ⟨_, _, rfl, o.2⟩)
theorem ok_dnew (p : P (.ref h.length) (h ++ [.dK []])) : Ok (mDnew sw) h P := ⟨_, _, rfl, p⟩
theorem ok_tVal (o : Ok (a sw) h fun x h1 => ∃ k, x = .bl k ∧ PB k h1) : Ok (tVal a sw) h PB := ok_bnd (o.imp fun x _ o => by
  obtain ⟨k, rfl, p⟩ := o
  exact ok_rtn p)
theorem ok_tTru (o : Ok (a sw) h fun x h1 => Ok (tru x) h1 PB) : Ok (tTru a sw) h PB := ok_bnd o
theorem ok_tru_bl {k : Bool} (p : PB k h) : Ok (tru (.bl k)) h PB := ⟨k, h, rfl, p⟩
theorem ok_tNot (o : Ok (t sw) h fun x h1 => PB (!x) h1) : Ok (tNot t sw) h PB := ok_bnd (o.imp fun _ _ p => ok_rtn p)
theorem ok_tAnd (o : Ok (t sw) h fun x h1 => (x = true → Ok (u sw) h1 PB) ∧ (x = false → PB false h1)) : Ok (tAnd t u sw) h PB := ok_bnd (o.imp fun x _ o => by
  cases x with
  | true => rw [if_pos rfl]; exact o.1 rfl
  | false => rw [if_neg Bool.false_ne_true]; exact ok_rtn (o.2 rfl))
theorem ok_tOr (o : Ok (t sw) h fun x h1 => (x = true → PB true h1) ∧ (x = false → Ok (u sw) h1 PB)) : Ok (tOr t u sw) h PB := ok_bnd (o.imp fun x _ o => by
  cases x with
  | true => rw [if_pos rfl]; exact ok_rtn (o.1 rfl)
  | false => rw [if_neg Bool.false_ne_true]; exact o.2 rfl)
theorem ok_mAnd (o : Ok (a sw) h fun x h1 => ∃ k, x = .bl k ∧ (k = true → Ok (b sw) h1 P) ∧ (k = false → P (.bl false) h1)) : Ok (mAnd a b sw) h P := ok_bnd (o.imp fun x _ o => by
  obtain ⟨k, rfl, o⟩ := o
  cases k with
  | true => exact o.1 rfl
  | false => exact ok_rtn (o.2 rfl))
theorem ok_mOr (o : Ok (a sw) h fun x h1 => ∃ k, x = .bl k ∧ (k = true → P (.bl true) h1) ∧ (k = false → Ok (b sw) h1 P)) : Ok (mOr a b sw) h P := ok_bnd (o.imp fun x _ o => by
  obtain ⟨k, rfl, o⟩ := o
  cases k with
  | true => exact ok_rtn (o.1 rfl)
  | false => exact o.2 rfl)
theorem ok_mNot (o : Ok (a sw) h fun x h1 => ∃ k, x = .bl k ∧ P (.bl (!k)) h1) : Ok (mNot a sw) h P := ok_bnd (o.imp fun x _ o => by
  obtain ⟨k, rfl, p⟩ := o
  exact ok_rtn p)
theorem ok_mIf (o : Ok (t sw) h fun x h1 => (x = true → Ok (a sw) h1 P) ∧ (x = false → Ok (b sw) h1 P)) : Ok (mIf t a b sw) h P := ok_bnd (o.imp fun x _ o => by
  cases x with
  | true => rw [if_pos rfl]; exact o.1 rfl
  | false => rw [if_neg Bool.false_ne_true]; exact o.2 rfl)
theorem ok_sSeq (o : Ok (s sw) h fun f h1 => match f with
    | .nx s1 => Ok (s' s1) h1 PF
    | f => PF f h1) : Ok (sSeq s s' sw) h PF := ok_bnd (o.imp fun f _ o => by
  cases f with
  | nx s1 => exact o
  | rt w => exact ok_rtn o
  | bk s1 => exact ok_rtn o
  | ct s1 => exact ok_rtn o)
theorem ok_sNil (p : PF (.nx sw) h) : Ok (sNil sw) h PF := ok_rtn p
theorem ok_sIf (o : Ok (t sw) h fun x h1 => (x = true → Ok (s sw) h1 PF) ∧ (x = false → Ok (s' sw) h1 PF)) : Ok (sIf t s s' sw) h PF := ok_bnd (o.imp fun x _ o => by
  cases x with
  | true => rw [if_pos rfl]; exact o.1 rfl
  | false => rw [if_neg Bool.false_ne_true]; exact o.2 rfl)
theorem ok_sRet (o : Ok (a sw) h fun x h1 => PF (.rt x) h1) : Ok (sRet a sw) h PF := ok_bnd (o.imp fun _ _ p => ok_rtn p)
theorem ok_sExp (o : Ok (a sw) h fun x h1 => PF (.nx sw) h1) : Ok (sExp a sw) h PF := ok_bnd (o.imp fun _ _ p => ok_rtn p)
theorem ok_sAsg {g : MG} (o : Ok (a sw) h fun x h1 => Ok (g x sw) h1 fun s h2 => PF (.nx s) h2) : Ok (sAsg g a sw) h PF := ok_bnd (o.imp fun _ _ o => ok_bnd (o.imp fun _ _ p => ok_rtn p))
theorem ok_gNm {i : Nat} {w : W} {PS : SW → Hw → Prop} (p : PS (sw.set i (some w)) h) : Ok (gNm i w sw) h PS := ok_rtn p
theorem ok_gNm' {i : Nat} {w : W} {s0 : SW} {PS : SW → Hw → Prop} (e : sw.set i (some w) = s0) (p : PS s0 h) : Ok (gNm i w sw) h PS := by
  subst e
  exact ok_rtn p
theorem ok_gTu {n : Nat} {r : List W → SW → M SW} {ws : List W} {PS : SW → Hw → Prop} (e : ws.length = n) (o : Ok (r ws sw) h PS) : Ok (gTu n r (.tup ws) sw) h PS := by
  show Ok (if ws.length = n then r ws sw else bad) h PS
  rw [if_pos e]
  exact o
theorem ok_gsCons {g : MG} {r : List W → SW → M SW} {w : W} {ws : List W} {PS : SW → Hw → Prop} (o : Ok (g w sw) h fun s h1 => Ok (r ws s) h1 PS) : Ok (gsCons g r (w :: ws) sw) h PS := ok_bnd o
theorem ok_gsNil {PS : SW → Hw → Prop} (p : PS sw h) : Ok (gsNil [] sw) h PS := ok_rtn p
theorem ok_gSubL {w : W} {PS : SW → Hw → Prop} (o : Ok (a sw) h fun x h1 => Ok (b sw) h1 fun y h2 => Ok (wSet x y w) h2 fun _ h3 => PS sw h3) : Ok (gSubL a b w sw) h PS :=
  ok_bnd (o.imp fun _ _ o => ok_bnd (o.imp fun _ _ o => ok_bnd (o.imp fun _ _ p => ok_rtn p)))
theorem ok_mFn {n N : Nat} {m : MS} {ws : List W} (e : ws.length = n) (o : Ok (m (ws.map some ++ List.replicate (N - n) none)) h fun f h1 => match f with
    | .rt w => P w h1
    | .nx _ => P .non h1
    | _ => False) : Ok (mFn n N m ws) h P := by
  unfold mFn
  rw [if_pos e]
  exact ok_bnd (o.imp fun f h1 o => by
    cases f with
    | rt w => exact ok_rtn o
    | nx s => exact ok_rtn o
    | bk s => exact o.elim
    | ct s => exact o.elim)
theorem ok_mFn' {n N : Nat} {m : MS} {ws : List W} {s0 : SW} (e : ws.length = n) (e2 : ws.map some ++ List.replicate (N - n) none = s0) (o : Ok (m s0) h fun f h1 => match f with
    | .rt w => P w h1
    | .nx _ => P .non h1
    | _ => False) : Ok (mFn n N m ws) h P := by
  subst e2
  exact ok_mFn e o
theorem ok_addI {i j : Int} (p : P (.int (i + j)) h) : Ok (fAdd (.int i) (.int j)) h P := ok_rtn p
theorem ok_addS {x y : Str} (e : x.length + y.length ≤ lim) (p : P (.str (x ++ y)) h) : Ok (fAdd (.str x) (.str y)) h P := by
  show Ok (if x.length + y.length ≤ lim then rtn (W.str (x ++ y)) else bad) h P
  rw [if_pos e]
  exact ok_rtn p
theorem ok_addL {p q : Nat} {xs ys : List W} (e1 : h[p]? = some (.lst xs)) (e2 : h[q]? = some (.lst ys)) (e : xs.length + ys.length ≤ lim) (o : P (.ref h.length) (h ++ [.lst (xs ++ ys)])) : Ok (fAdd (.ref p) (.ref q)) h P := by
  refine ⟨_, _, ?_, o⟩
  show (match h[p]?, h[q]? with
    | some (.lst xs), some (.lst ys) => if xs.length + ys.length ≤ lim then alloc (.lst (xs ++ ys)) h else EL.R.no
    | _, _ => EL.R.no) = _
  rw [e1, e2]
  simp only [if_pos e]
  rfl
theorem ok_addT {xs ys : List W} (e : xs.isEmpty = false ∧ xs.length + ys.length ≤ lim) (p : P (.tup (xs ++ ys)) h) : Ok (fAdd (.tup xs) (.tup ys)) h P := by
  show Ok (if xs.isEmpty = false ∧ xs.length + ys.length ≤ lim then rtn (W.tup (xs ++ ys)) else bad) h P
  rw [if_pos e]
  exact ok_rtn p
theorem ok_subI {i j : Int} (p : P (.int (i - j)) h) : Ok (fSub (.int i) (.int j)) h P := ok_rtn p
theorem ok_negI {i : Int} (p : P (.int (-i)) h) : Ok (fNeg (.int i)) h P := ok_rtn p
theorem ok_mulI {i j : Int} (e : mulOk i j = true) (p : P (.int (i * j)) h) : Ok (fMul (.int i) (.int j)) h P := by
  show Ok (if mulOk i j = true then rtn (W.int (i * j)) else bad) h P
  rw [if_pos e]
  exact ok_rtn p
theorem mulOk_l {i j : Int} (h1 : -18446744073709551616 < i) (h2 : i < 18446744073709551616) : mulOk i j = true := by
  unfold mulOk
  simp [h1, h2]
theorem mulOk_r {i j : Int} (h1 : -18446744073709551616 < j) (h2 : j < 18446744073709551616) : mulOk i j = true := by
  unfold mulOk
  simp [h1, h2]
theorem ok_divI {i j : Int} (e : 0 < j ∧ j.natAbs.log2 < 9000) (p : P (.int (i / j)) h) : Ok (fDiv (.int i) (.int j)) h P := by
  show Ok (if 0 < j ∧ j.natAbs.log2 < 9000 then rtn (W.int (i / j)) else bad) h P
  rw [if_pos e]
  exact ok_rtn p
theorem ok_modI {i j : Int} (e : 0 < j) (p : P (.int (i % j)) h) : Ok (fMod (.int i) (.int j)) h P := by
  show Ok (if 0 < j then rtn (W.int (i % j)) else bad) h P
  rw [if_pos e]
  exact ok_rtn p
theorem ok_powI {i j : Int} (e : (0 ≤ j ∧ j ≤ 1000000) ∧ i.natAbs < 18446744073709551616) (p : P (.int (i ^ j.toNat)) h) : Ok (fPow (.int i) (.int j)) h P := by
  show Ok (if (0 ≤ j ∧ j ≤ 1000000) ∧ i.natAbs < 18446744073709551616 then rtn (W.int (i ^ j.toNat)) else bad) h P
  rw [if_pos e]
  exact ok_rtn p
theorem ok_cmpI {pi : Int → Int → Bool} {ps : List Nat → List Nat → Bool} {i j : Int} (p : P (.bl (pi i j)) h) : Ok (fCmp pi ps (.int i) (.int j)) h P := ok_rtn p
theorem ok_cmpS {pi : Int → Int → Bool} {ps : List Nat → List Nat → Bool} {i j : Str} (p : P (.bl (ps i.cps.toList j.cps.toList)) h) : Ok (fCmp pi ps (.str i) (.str j)) h P := ok_rtn p
theorem ok_isB {neg : Bool} {i j : Bool} (p : P (.bl (neg != decide (i = j))) h) : Ok (fIs neg (.bl i) (.bl j)) h P := ok_rtn p
theorem ok_isN {neg : Bool} {x : W} (hx : x ≠ .non) (p : P (.bl neg) h) : Ok (fIs neg x .non) h P := by
  cases x with
  | non => exact absurd rfl hx
  | _ => exact ok_rtn p
theorem ok_isNN {neg : Bool} (p : P (.bl (!neg)) h) : Ok (fIs neg .non .non) h P := ok_rtn p
theorem ok_ixT {xs : List W} {i : Int} {w : W} (e : atI xs i = some w) (p : P w h) : Ok (fIx (.tup xs) (.int i)) h P := by
  refine ⟨w, h, ?_, p⟩
  show (match atI xs i with
    | some w => EL.R.ok w h
    | none => EL.R.no) = _
  rw [e]
theorem ok_ixS {x : Str} {i : Int} {c : Nat} (hl : x.length ≤ lim) (e : atI x.cps.toList i = some c) (p : P (.str ⟨#[c]⟩) h) : Ok (fIx (.str x) (.int i)) h P := by
  refine ⟨_, h, ?_, p⟩
  show (if x.length ≤ lim then (match atI x.cps.toList i with
    | some c => EL.R.ok (W.str ⟨#[c]⟩) h
    | none => EL.R.no) else EL.R.no) = _
  rw [if_pos hl, e]
theorem ok_ixL {q : Nat} {xs : List W} {i : Int} {w : W} (el : h[q]? = some (.lst xs)) (e : atI xs i = some w) (p : P w h) : Ok (fIx (.ref q) (.int i)) h P := by
  refine ⟨w, h, ?_, p⟩
  show (match (match h[q]? with
    | some (.lst xs) => some xs
    | _ => none) with
    | some xs => (match atI xs i with
      | some w => EL.R.ok w h
      | none => EL.R.no)
    | none => EL.R.no) = _
  rw [el]
  simp only [e]
theorem ok_ixR {xs : List W} {i : Int} {w : W} (e : atI xs i = some w) (p : P w h) : Ok (fIx (.rol xs) (.int i)) h P := by
  refine ⟨w, h, ?_, p⟩
  show (match atI xs i with
    | some w => EL.R.ok w h
    | none => EL.R.no) = _
  rw [e]
theorem ok_set {q : Nat} {xs : List W} {i : Int} {j : Nat} {w : W} {PU : Unit → Hw → Prop} (el : h[q]? = some (.lst xs)) (e : ixN xs.length i = some j) (p : PU () (h.set q (.lst (xs.set j w)))) : Ok (wSet (.ref q) (.int i) w) h PU := by
  refine ⟨(), _, ?_, p⟩
  show (match h[q]? with
    | some (.lst xs) => (match ixN xs.length i with
      | some j => EL.R.ok () (h.set q (.lst (xs.set j w)))
      | none => EL.R.no)
    | _ => EL.R.no) = _
  rw [el]
  simp only [e]
theorem ok_int1 {i : Int} (p : P (.int i) h) : Ok (bInt [.int i]) h P := ok_rtn p
theorem ok_int2 {k : Bool} (p : P (.int (if k then 1 else 0)) h) : Ok (bInt [.bl k]) h P := ok_rtn p
theorem ok_abs {i : Int} (p : P (.int (if i < 0 then -i else i)) h) : Ok (bAbs [.int i]) h P := ok_rtn p
theorem ok_max {i j : Int} (p : P (.int (if j > i then j else i)) h) : Ok (bMax [.int i, .int j]) h P := ok_rtn p
theorem ok_min {i j : Int} (p : P (.int (if j < i then j else i)) h) : Ok (bMin [.int i, .int j]) h P := ok_rtn p
theorem ok_lenS {x : Str} (hl : x.length ≤ lim) (p : P (.int x.length) h) : Ok (bLen [.str x]) h P := by
  show Ok (fun h => if x.length ≤ lim then EL.R.ok (W.int x.length) h else EL.R.no) h P
  exact ⟨_, h, by simp only [if_pos hl], p⟩
theorem ok_lenT {xs : List W} (p : P (.int xs.length) h) : Ok (bLen [.tup xs]) h P := ⟨_, h, rfl, p⟩
theorem ok_lenR {xs : List W} (p : P (.int xs.length) h) : Ok (bLen [.rol xs]) h P := ⟨_, h, rfl, p⟩
theorem ok_lenL {q : Nat} {xs : List W} (el : h[q]? = some (.lst xs)) (p : P (.int xs.length) h) : Ok (bLen [.ref q]) h P := by
  refine ⟨_, h, ?_, p⟩
  show (match (match h[q]? with
    | some (.lst xs) => some xs
    | _ => none) with
    | some xs => EL.R.ok (W.int xs.length) h
    | none => EL.R.no) = _
  rw [el]
theorem wInts_map : ∀ ns : List Int, wInts (ns.map W.int) = some ns
  | [] => rfl
  | n :: r => by
    have q := wInts_map r
    unfold wInts at q ⊢
    rw [List.map_cons]
    unfold mapO
    rw [q]
theorem wStrs_map : ∀ ns : List Str, wStrs (ns.map W.str) = some ns
  | [] => rfl
  | n :: r => by
    have q := wStrs_map r
    unfold wStrs at q ⊢
    rw [List.map_cons]
    unfold mapO
    rw [q]
theorem wBls_map : ∀ ns : List Bool, wBls (ns.map W.bl) = some ns
  | [] => rfl
  | n :: r => by
    have q := wBls_map r
    unfold wBls at q ⊢
    rw [List.map_cons]
    unfold mapO
    rw [q]
theorem ok_sumL {q : Nat} {ns : List Int} (el : h[q]? = some (.lst (ns.map W.int))) (p : P (.int ns.sum) h) : Ok (bSum [.ref q]) h P := by
  refine ⟨_, h, ?_, p⟩
  show (match (match h[q]? with
    | some (.lst xs) => some xs
    | _ => none) with
    | some xs => (match wInts xs with
      | some ns => EL.R.ok (W.int ns.sum) h
      | none => EL.R.no)
    | none => EL.R.no) = _
  rw [el]
  simp only [wInts_map]
theorem ok_allL {q : Nat} {ns : List Bool} (el : h[q]? = some (.lst (ns.map W.bl))) (p : P (.bl (ns.all id)) h) : Ok (bAll [.ref q]) h P := by
  refine ⟨_, h, ?_, p⟩
  show (match (match h[q]? with
    | some (.lst xs) => some xs
    | _ => none) with
    | some xs => (match wBls xs with
      | some ns => EL.R.ok (W.bl (ns.all id)) h
      | none => EL.R.no)
    | none => EL.R.no) = _
  rw [el]
  simp only [wBls_map]
theorem ok_joinL {q : Nat} {x : Str} {ys : List Str} (el : h[q]? = some (.lst (ys.map W.str))) (hl : (ys.map Str.length).sum + ys.length * x.length ≤ lim) (p : P (.str (Txt.join x ys)) h) : Ok (fJoin (.str x) (.ref q)) h P := by
  refine ⟨_, h, ?_, p⟩
  show (match (match h[q]? with
    | some (.lst xs) => some xs
    | _ => none) with
    | some xs => (match wStrs xs with
      | some ys => if (ys.map Str.length).sum + ys.length * x.length ≤ lim then EL.R.ok (W.str (Txt.join x ys)) h else EL.R.no
      | none => EL.R.no)
    | none => EL.R.no) = _
  rw [el]
  simp only [wStrs_map, if_pos hl]
theorem ok_sl {l u : MO} (o : Ok (a sw) h fun x h1 => Ok (l sw) h1 fun lo h2 => Ok (u sw) h2 fun hi h3 => Ok (fSl x lo hi) h3 P) : Ok (mSl a l u sw) h P := ok_bnd (o.imp fun _ _ o => ok_bnd (o.imp fun _ _ o => ok_bnd o))
theorem ok_oNo {PO : Option Int → Hw → Prop} (p : PO none h) : Ok (oNo sw) h PO := ok_rtn p
theorem ok_oSo {PO : Option Int → Hw → Prop} (o : Ok (a sw) h fun x h1 => ∃ i, x = .int i ∧ PO (some i) h1) : Ok (oSo a sw) h PO := ok_bnd (o.imp fun x _ o => by
  obtain ⟨i, rfl, p⟩ := o
  exact ok_rtn p)
theorem ok_slS {x : Str} {lo hi : Option Int} (hl : x.length ≤ lim) (p : P (.str (cutS x lo hi)) h) : Ok (fSl (.str x) lo hi) h P := by
  refine ⟨_, h, ?_, p⟩
  show (if x.length ≤ lim then EL.R.ok (W.str (cutS x lo hi)) h else EL.R.no) = _
  rw [if_pos hl]
theorem ok_slL {q : Nat} {xs : List W} {lo hi : Option Int} (el : h[q]? = some (.lst xs)) (p : P (.ref h.length) (h ++ [.lst (cutW xs lo hi)])) : Ok (fSl (.ref q) lo hi) h P := by
  refine ⟨_, _, ?_, p⟩
  show (match (match h[q]? with
    | some (.lst xs) => some xs
    | _ => none) with
    | some xs => alloc (.lst (cutW xs lo hi)) h
    | none => EL.R.no) = _
  rw [el]
  rfl
theorem ok_slR {xs : List W} {lo hi : Option Int} (p : P (.ref h.length) (h ++ [.lst (cutW xs lo hi)])) : Ok (fSl (.rol xs) lo hi) h P := ⟨_, _, rfl, p⟩
theorem ok_isi {T : String} (o : Ok (a sw) h fun x h1 => ∃ n k, tyName h1 x = some n ∧ kitB n T = some k ∧ P (.bl k) h1) : Ok (mIsi T a sw) h P := ok_bnd (o.imp fun x h1 o => by
  obtain ⟨n, k, e1, e2, p⟩ := o
  exact ⟨_, h1, by simp only [e1, e2], p⟩)
theorem ok_eq {neg : Bool} {x y : W} {d e : PyData} (e1 : toD h 8 x = some d) (e2 : toD h 8 y = some e) (es : (SeqAt.shaped d && SeqAt.shaped e) = true) (p : P (.bl (neg != PyData.eqv d e)) h) : Ok (fEq neg x y) h P := by
  refine ⟨_, h, ?_, p⟩
  unfold fEq
  rw [e1, e2]
  simp only [es, if_true]
theorem ok_reprB {k : Bool} (p : P (.str (if k then Str.ofString "True" else Str.ofString "False")) h) : Ok (bRepr [.bl k]) h P := ok_rtn p
theorem ok_in1 {neg : Bool} {c : Nat} {z : Str} (p : P (.bl (neg != decide (c ∈ z.cps.toList))) h) : Ok (fIn neg (.str ⟨#[c]⟩) (.str z)) h P := by
  have e : (!(Builtin.Str.occurrences z ⟨#[c]⟩ 0 z.length 1).isEmpty) = decide (c ∈ z.cps.toList) := PySem.StrLaws.found_one z c
  refine ⟨_, h, rfl, ?_⟩
  rw [e]
  exact p
end

/-! ### loops -/
/-- a for over written items: Inv by the number of turns -/
theorem ok_sFor {src : Src} {g : MG} {b : MS} {sw : SW} {h : Hw} {PF : Fl → Hw → Prop} (Inv : Nat → SW → Hw → Prop) {n : Nat} (N : Nat) (hN : n ≤ N) (h0 : Inv 0 sw h)
    (hs : ∀ i sw h, i < n → Inv i sw h → ∃ x, src.item i h = some (some x) ∧ Ok (g x sw) h fun s h1 => Ok (b s) h1 fun f h2 => match f with
      | .nx s => Inv (i + 1) s h2
      | .ct s => Inv (i + 1) s h2
      | .bk s => PF (.nx s) h2
      | .rt w => PF (.rt w) h2)
    (he : ∀ sw h, Inv n sw h → src.item n h = some none ∧ PF (.nx sw) h) : Ok (sFor src g b 0 (N + 1) sw) h PF := by
  have go : ∀ (k i : Nat) (sw : SW) (h : Hw), i + k = n → Inv i sw h → ∀ m, n < i + m → Ok (sFor src g b i m sw) h PF := by
    intro k
    induction k with
    | zero =>
      intro i sw h e p m hm
      have ei : i = n := by omega
      subst ei
      cases m with
      | zero => omega
      | succ m =>
        obtain ⟨e1, q⟩ := he sw h p
        exact ⟨.nx sw, h, by unfold sFor; rw [e1], q⟩
    | succ k ih =>
      intro i sw h e p m hm
      cases m with
      | zero => omega
      | succ m =>
        obtain ⟨x, e1, o⟩ := hs i sw h (by omega) p
        have o' : Ok (bnd (g x sw) fun s => bnd (b s) fun f => match f with
            | .nx s => sFor src g b (i + 1) m s
            | .ct s => sFor src g b (i + 1) m s
            | .bk s => rtn (.nx s)
            | .rt w => rtn (.rt w)) h PF := ok_bnd (o.imp fun s h1 o => ok_bnd (o.imp fun f h2 o => by
          cases f with
          | nx s => exact ih (i + 1) s h2 (by omega) o m (by omega)
          | ct s => exact ih (i + 1) s h2 (by omega) o m (by omega)
          | bk s => exact ok_rtn o
          | rt w => exact ok_rtn o))
        obtain ⟨f, h2, e2, q⟩ := o'
        exact ⟨f, h2, by unfold sFor; rw [e1]; exact e2, q⟩
  exact go n 0 sw h (by omega) h0 (N + 1) (by omega)
theorem ok_sForI {mi : MI} {g : MG} {b : MS} {sw : SW} {h : Hw} {PF : Fl → Hw → Prop} (o : Ok (mi sw) h fun src h1 => Ok (sFor src.1 g b 0 (src.2 + 1) sw) h1 PF) : Ok (sForI mi g b sw) h PF := ok_bnd o
theorem ok_iAnyL {a : ME} {sw : SW} {h : Hw} {PI : Src × Nat → Hw → Prop} (o : Ok (a sw) h fun x h1 => ∃ p xs, x = .ref p ∧ h1[p]? = some (.lst xs) ∧ PI (.lst p, xs.length) h1) : Ok (iAny a sw) h PI := ok_bnd (o.imp fun x h1 o => by
  obtain ⟨p, xs, rfl, e, q⟩ := o
  exact ⟨_, h1, by simp only [e], q⟩)
theorem ok_iAnyT {a : ME} {sw : SW} {h : Hw} {PI : Src × Nat → Hw → Prop} (o : Ok (a sw) h fun x h1 => ∃ xs, x = .tup xs ∧ PI (.tup xs, xs.length) h1) : Ok (iAny a sw) h PI := ok_bnd (o.imp fun x h1 o => by
  obtain ⟨xs, rfl, q⟩ := o
  exact ⟨_, h1, rfl, q⟩)
theorem ok_iAnyS {a : ME} {sw : SW} {h : Hw} {PI : Src × Nat → Hw → Prop} (o : Ok (a sw) h fun x h1 => ∃ z, x = .str z ∧ PI (.str z, z.cps.size) h1) : Ok (iAny a sw) h PI := ok_bnd (o.imp fun x h1 o => by
  obtain ⟨z, rfl, q⟩ := o
  exact ⟨_, h1, rfl, q⟩)
theorem ok_iRg1 {a : ME} {sw : SW} {h : Hw} {PI : Src × Nat → Hw → Prop} (o : Ok (a sw) h fun x h1 => ∃ j, x = .int j ∧ (-big ≤ j ∧ j < big) ∧ PI (.rng 0 j.toNat, j.toNat) h1) : Ok (iRg1 a sw) h PI := ok_bnd (o.imp fun x h1 o => by
  obtain ⟨j, rfl, e, q⟩ := o
  exact ⟨_, h1, by simp only [if_pos e], q⟩)
theorem ok_iRg2 {a b : ME} {sw : SW} {h : Hw} {PI : Src × Nat → Hw → Prop} (o : Ok (a sw) h fun x h1 => Ok (b sw) h1 fun y h2 => ∃ i j, x = .int i ∧ y = .int j ∧ ((-big ≤ i ∧ i < big) ∧ -big ≤ j ∧ j < big) ∧ PI (.rng i (j - i).toNat, (j - i).toNat) h2) : Ok (iRg2 a b sw) h PI :=
  ok_bnd (o.imp fun x h1 o => ok_bnd (o.imp fun y h2 o => by
    obtain ⟨i, j, rfl, rfl, e, q⟩ := o
    exact ⟨_, h2, by simp only [if_pos e], q⟩))
/-- a comprehension: Inv by the number of turns and what is made so far; the new list stands at D -/
theorem ok_mLc {mi : MI} {g : MG} {t : MT} {e : ME} {vs : List Nat} {sw : SW} {h : Hw} {P : W → Hw → Prop} (Inv : Nat → List W → Hw → Prop) (D : Nat)
    (o : Ok (mi sw) h fun src h1 => D = h1.length ∧ Inv 0 [] (h1 ++ [.lst []]) ∧
      (∀ i acc h, i < src.2 → Inv i acc h → h[D]? = some (.lst acc) → ∃ x, src.1.item i h = some (some x) ∧ Ok (g x (wipeW sw vs)) h fun s h2 => Ok (t s) h2 fun b h3 => (b = true → Ok (e s) h3 fun y h4 => h4[D]? = some (.lst acc) ∧ acc.length < lim ∧ Inv (i + 1) (acc ++ [y]) (h4.set D (.lst (acc ++ [y])))) ∧ (b = false → h3[D]? = some (.lst acc) ∧ Inv (i + 1) acc h3)) ∧
      (∀ acc h, Inv src.2 acc h → h[D]? = some (.lst acc) → src.1.item src.2 h = some none ∧ P (.ref D) h)) : Ok (mLc mi g t e vs sw) h P := by
  refine ok_bnd (o.imp fun src h1 o => ?_)
  obtain ⟨eD, h0, hs, he⟩ := o
  have go : ∀ (k i : Nat) (acc : List W) (h : Hw), i + k = src.2 → Inv i acc h → h[D]? = some (.lst acc) → ∀ m, src.2 < i + m → Ok (lcGo src.1 g t e vs (.ref D) sw i m) h fun _ h' => P (.ref D) h' := by
    intro k
    induction k with
    | zero =>
      intro i acc h ei p hD m hm
      have ei' : i = src.2 := by omega
      subst ei'
      cases m with
      | zero => omega
      | succ m =>
        obtain ⟨e1, q⟩ := he acc h p hD
        exact ⟨(), h, by unfold lcGo; simp only [e1], q⟩
    | succ k ih =>
      intro i acc h ei p hD m hm
      cases m with
      | zero => omega
      | succ m =>
        obtain ⟨x, e1, o⟩ := hs i acc h (by omega) p hD
        have o' : Ok (bnd (g x (wipeW sw vs)) fun s => bnd (t s) fun b => if b = true then bnd (e s) (fun y => bnd (app (.ref D) y) fun _ => lcGo src.1 g t e vs (.ref D) sw (i + 1) m) else lcGo src.1 g t e vs (.ref D) sw (i + 1) m) h fun _ h' => P (.ref D) h' := ok_bnd (o.imp fun s h2 o => ok_bnd (o.imp fun b h3 o => by
          cases b with
          | false =>
            rw [if_neg Bool.false_ne_true]
            obtain ⟨a1, a2⟩ := o.2 rfl
            exact ih (i + 1) acc h3 (by omega) a2 a1 m (by omega)
          | true =>
            rw [if_pos rfl]
            refine ok_bnd ((o.1 rfl).imp fun y h4 o => ?_)
            obtain ⟨a1, a2, a3⟩ := o
            refine ok_bnd ⟨(), h4.set D (.lst (acc ++ [y])), ?_, ?_⟩
            · show (match h4[D]? with
                | some (.lst acc) => if acc.length < lim then EL.R.ok () (h4.set D (.lst (acc ++ [y]))) else EL.R.no
                | _ => EL.R.no) = _
              rw [a1]
              simp only [if_pos a2]
            · refine ih (i + 1) (acc ++ [y]) _ (by omega) a3 ?_ m (by omega)
              rw [List.getElem?_set, if_pos rfl, if_pos (List.getElem?_eq_some_iff.mp a1).1]))
        obtain ⟨u, h2, e2, q⟩ := o'
        exact ⟨u, h2, by unfold lcGo; simp only [e1]; exact e2, q⟩
  subst eD
  refine ok_bnd ⟨.ref h1.length, h1 ++ [.lst []], rfl, ok_bnd ((go src.2 0 [] _ (by omega) h0 (by simp) (src.2 + 1) (by omega)).imp fun _ _ q => ok_rtn q)⟩
end EL
open EL
local macro_rules | `(tactic| walk_at "ok1") => `(tactic| first
  | with_reducible refine ok_sSeq ?_
  | with_reducible refine ok_bin ?_
  | ((with_reducible refine' ok_var ?e ?_); (case e => exact rfl))
  | with_reducible refine ok_c ?_
  | with_reducible refine ok_aCons ?_
  | with_reducible refine ok_aNil ?_
  | with_reducible refine ok_call ?_
  | with_reducible refine ok_sIf ?_
  | with_reducible refine ok_sAsg ?_
  | ((with_reducible refine' ok_gNm' ?e ?_); (case e => (simp only [List.set_cons_zero, List.set_cons_succ]; exact rfl)))
  | with_reducible refine ok_sRet ?_
  | with_reducible refine ok_sExp ?_
  | with_reducible refine ok_sNil ?_
  | with_reducible refine ok_tVal ?_
  | with_reducible refine ok_tTru ?_
  | with_reducible refine ok_tru_bl ?_
  | with_reducible refine ok_tNot ?_
  | with_reducible refine ok_tAnd ?_
  | with_reducible refine ok_tOr ?_
  | with_reducible refine ok_mAnd ?_
  | with_reducible refine ok_mOr ?_
  | with_reducible refine ok_mNot ?_
  | with_reducible refine ok_mIf ?_
  | with_reducible refine ok_un ?_
  | with_reducible refine ok_ch ?_
  | with_reducible refine ok_tup ?_
  | with_reducible refine ok_lst ?_
  | with_reducible refine ok_dnew ?_
  | with_reducible refine ok_sl ?_
  | with_reducible refine ok_oNo ?_
  | with_reducible refine ok_oSo ?_
  | with_reducible refine ok_gSubL ?_
  | with_reducible refine ok_gsNil ?_
  | with_reducible refine ok_gsCons ?_
  | with_reducible refine ok_sForI ?_
  | with_reducible refine ok_isi ?_
  | with_reducible refine ok_addI ?_
  | with_reducible refine ok_subI ?_
  | with_reducible refine ok_negI ?_
  | refine ok_cmpI ?_
  | refine ok_cmpS ?_
  | with_reducible refine ok_isB ?_
  | with_reducible refine ok_int1 ?_
  | with_reducible refine ok_int2 ?_
  | with_reducible refine ok_abs ?_
  | with_reducible refine ok_max ?_
  | with_reducible refine ok_min ?_
  | with_reducible refine ok_reprB ?_
  | with_reducible refine ok_lenR ?_
  | with_reducible refine ok_lenT ?_
  | ((with_reducible refine' okLim ?e ?_); (case e => exact rfl))
  | with_reducible refine okE ?_
  | with_reducible refine okEI ?_
  | with_reducible refine okT ?_
  | with_reducible refine okF ?_
  | with_reducible refine okNT ?_
  | with_reducible refine okNF ?_
  | dsimp only)
local macro_rules | `(tactic| walk_at "ok") => `(tactic| repeat' walk_at "ok1")
local macro_rules | `(tactic| walk_at "okF") => `(tactic| ((with_reducible refine' ok_mFn' ?e1 ?e2 ?_); (case e1 => exact rfl); (case e2 => (simp only [List.map_cons, List.map_nil, List.replicate_succ, List.replicate_zero, List.cons_append, List.nil_append, Nat.reduceSub]; exact rfl)); walk_at "ok"))
/-! EL8: the pool of numbers that a script gives, and what is drawn from it. -/
namespace EL
open PySem PySem.Spec L2
open PyProof.Rows hiding St
def cPool : List W → M W := mFn 2 5 (sSeq (sAsg (gNm 2) (mIf (tVal (mBin fLt (mVar 1) (mCall bLen (aCons (mVar 0) aNil)))) (mBin fIx (mVar 0) (mVar 1)) (mBin fAdd (mBin fMul (mC (.int 7)) (mCall bSum (aCons (mSl (mVar 0) oNo (oSo (mC (.int 63)))) aNil))) (mVar 1))))
    (sSeq (sAsg (gNm 3) (mCall bAbs (aCons (mVar 2) aNil)))
    (sSeq (sAsg (gNm 4) (mBin fAdd (mBin fAdd (mBin fAdd (mBin fMod (mCall bInt (aCons (mVar 3) aNil)) (mC (.int 2147483629))) (mBin fMul (mBin fMul (mC (.int 7919)) (mVar 1)) (mVar 1))) (mBin fMul (mC (.int 31)) (mVar 1))) (mC (.int 17))))
    (sSeq (sAsg (gNm 4) (mBin fMod (mCall bInt (aCons (mBin fMul (mVar 4) (mC (.int 48271))) aNil)) (mC (.int 2147483647))))
    (sRet (mLst (aCons (mBin fMul (mVar 3) (mCall bInt (aCons (mBin fGe (mVar 3) (mBin fPow (mC (.int 10)) (mC (.int 18)))) aNil))) (aCons (mBin fMod (mCall bInt (aCons (mBin fMul (mVar 4) (mVar 4)) aNil)) (mC (.int 2147483629))) aNil))))))))
def cDraw : List W → M W := mFn 2 3 (sSeq (sIf (tVal (mBin fGt (mBin fIx (mVar 0) (mC (.int 0))) (mC (.int 0)))) (sSeq (sAsg (gNm 2) (mBin fMod (mCall bInt (aCons (mBin fIx (mVar 0) (mC (.int 0))) aNil)) (mVar 1)))
    (sSeq (sAsg (gSubL (mVar 0) (mC (.int 0))) (mBin fDiv (mBin fIx (mVar 0) (mC (.int 0))) (mVar 1)))
    (sRet (mVar 2)))) sNil)
    (sSeq (sAsg (gSubL (mVar 0) (mC (.int 1))) (mBin fMod (mCall bInt (aCons (mBin fAdd (mBin fMul (mBin fIx (mVar 0) (mC (.int 1))) (mC (.int 48271))) (mC (.int 11))) aNil)) (mC (.int 2147483647))))
    (sRet (mBin fMod (mCall bInt (aCons (mBin fDiv (mBin fMod (mCall bInt (aCons (mBin fMul (mBin fIx (mVar 0) (mC (.int 1))) (mBin fIx (mVar 0) (mC (.int 1)))) aNil)) (mC (.int 2147483629))) (mC (.int 16))) aNil)) (mVar 1)))))
def cPick : List W → M W := mFn 2 2 (sRet (mBin fIx (mVar 1) (mCall cDraw (aCons (mVar 0) (aCons (mCall bLen (aCons (mVar 1) aNil)) aNil)))))
/-- the pool's two numbers -/
def pl (a b : Int) : O := .lst [.int a, .int b]
theorem atI_0 {α : Type} {x : α} {xs : List α} : atI (x :: xs) (0 : Int) = some x := atI_nat (j := 0) rfl
theorem atI_1 {α : Type} {x y : α} {xs : List α} : atI (x :: y :: xs) (1 : Int) = some y := atI_nat (j := 1) rfl
theorem get_set {h : Hw} {n : Nat} {o u : O} (e : h[n]? = some u) : (h.set n o)[n]? = some o := by
  rw [List.getElem?_set, if_pos rfl, if_pos (List.getElem?_eq_some_iff.mp e).1]
theorem get_set_ne {h : Hw} {n i : Nat} {o : O} (e : n ≠ i) : (h.set n o)[i]? = h[i]? := List.getElem?_set_ne e


theorem draw_ok {h : Hw} {n : Nat} {a b m : Int} {P : W → Hw → Prop} (e : h[n]? = some (pl a b)) (ha : 0 ≤ a) (hb : 0 ≤ b) (hm : 0 < m) (hl : m.natAbs.log2 < 9000)
    (k : ∀ r a' b' : Int, 0 ≤ r → r < m → 0 ≤ a' → 0 ≤ b' → P (.int r) (h.set n (pl a' b'))) : Ok (cDraw [.ref n, .int m]) h P := by
  unfold cDraw
  walk_at "okF"
  refine ok_ixL e atI_0 ?_
  walk_at "ok"
  refine ⟨fun hc => ?_, fun hc => ?_⟩
  · walk_at "ok"
    refine ok_ixL e atI_0 ?_
    walk_at "ok"
    refine ok_modI hm ?_
    walk_at "ok"
    refine ok_ixL e atI_0 ?_
    walk_at "ok"
    refine ok_divI ⟨hm, hl⟩ ?_
    walk_at "ok"
    refine ok_set e rfl ?_
    walk_at "ok"
    exact k _ _ _ (Int.emod_nonneg _ (by omega)) (Int.emod_lt_of_pos _ hm) (Int.ediv_nonneg ha (by omega)) hb
  · walk_at "ok"
    refine ok_ixL e atI_1 ?_
    walk_at "ok"
    refine ok_mulI (mulOk_r (by decide) (by decide)) ?_
    walk_at "ok"
    refine ok_modI (by decide) ?_
    walk_at "ok"
    refine ok_set e rfl ?_
    walk_at "ok"
    refine ok_ixL (get_set e) atI_1 ?_
    walk_at "ok"
    refine ok_ixL (get_set e) atI_1 ?_
    have h0 : 0 ≤ (b * 48271 + 11) % 2147483647 := Int.emod_nonneg _ (by decide)
    have h1 : (b * 48271 + 11) % 2147483647 < 2147483647 := Int.emod_lt_of_pos _ (by decide)
    refine ok_mulI (mulOk_l (by omega) (by omega)) ?_
    walk_at "ok"
    refine ok_modI (by decide) ?_
    walk_at "ok"
    refine ok_divI (by decide) ?_
    walk_at "ok"
    refine ok_modI hm ?_
    exact k _ _ _ (Int.emod_nonneg _ (by omega)) (Int.emod_lt_of_pos _ hm) ha h0
theorem cutW_map (ns : List Int) (lo hi : Option Int) : ∃ ms : List Int, cutW (ns.map W.int) lo hi = ms.map W.int := by
  unfold cutW
  rw [← List.map_drop, ← List.map_take]
  exact ⟨_, rfl⟩
theorem pool_ok {h : Hw} {ns : List Int} {k : Int} {P : W → Hw → Prop} (hk : 0 ≤ k) (hk2 : k ≤ 1000)
    (q : ∀ (a b : Int) (g : List O), 0 ≤ a → 0 ≤ b → P (.ref (h ++ g).length) ((h ++ g) ++ [pl a b])) : Ok (cPool [.rol (ns.map W.int), .int k]) h P := by
  have tail : ∀ (c : Int) (g : List O), Ok ((sSeq (sAsg (gNm 3) (mCall bAbs (aCons (mVar 2) aNil)))
      (sSeq (sAsg (gNm 4) (mBin fAdd (mBin fAdd (mBin fAdd (mBin fMod (mCall bInt (aCons (mVar 3) aNil)) (mC (.int 2147483629))) (mBin fMul (mBin fMul (mC (.int 7919)) (mVar 1)) (mVar 1))) (mBin fMul (mC (.int 31)) (mVar 1))) (mC (.int 17))))
      (sSeq (sAsg (gNm 4) (mBin fMod (mCall bInt (aCons (mBin fMul (mVar 4) (mC (.int 48271))) aNil)) (mC (.int 2147483647))))
      (sRet (mLst (aCons (mBin fMul (mVar 3) (mCall bInt (aCons (mBin fGe (mVar 3) (mBin fPow (mC (.int 10)) (mC (.int 18)))) aNil))) (aCons (mBin fMod (mCall bInt (aCons (mBin fMul (mVar 4) (mVar 4)) aNil)) (mC (.int 2147483629))) aNil)))))))
      [some (.rol (ns.map W.int)), some (.int k), some (.int c), none, none]) (h ++ g) fun f h1 => match f with
        | .rt w => P w h1
        | .nx _ => P .non h1
        | _ => False := fun c g => by
    walk_at "ok"
    have hs : 0 ≤ (if c < 0 then -c else c) := by split <;> omega
    generalize (if c < 0 then -c else c) = z at hs ⊢
    refine ok_modI (by decide) ?_
    walk_at "ok"
    refine ok_mulI (mulOk_l (by decide) (by decide)) ?_
    walk_at "ok"
    refine ok_mulI (mulOk_r (by omega) (by omega)) ?_
    walk_at "ok"
    refine ok_mulI (mulOk_l (by decide) (by decide)) ?_
    walk_at "ok"
    generalize z % 2147483629 + 7919 * k * k + 31 * k + 17 = y
    refine ok_mulI (mulOk_r (by decide) (by decide)) ?_
    walk_at "ok"
    refine ok_modI (by decide) ?_
    walk_at "ok"
    refine ok_powI (by decide) ?_
    walk_at "ok"
    have hb : (0 : Int) ≤ (if decide ((10 : Int) ^ (18 : Int).toNat ≤ z) = true then 1 else 0) ∧ (if decide ((10 : Int) ^ (18 : Int).toNat ≤ z) = true then (1 : Int) else 0) ≤ 1 := by split <;> omega
    generalize (if decide ((10 : Int) ^ (18 : Int).toNat ≤ z) = true then (1 : Int) else 0) = t at hb ⊢
    refine ok_mulI (mulOk_r (by omega) (by omega)) ?_
    walk_at "ok"
    have h0 : 0 ≤ y * 48271 % 2147483647 := Int.emod_nonneg _ (by decide)
    have h1 : y * 48271 % 2147483647 < 2147483647 := Int.emod_lt_of_pos _ (by decide)
    refine ok_mulI (mulOk_l (by omega) (by omega)) ?_
    walk_at "ok"
    refine ok_modI (by decide) ?_
    walk_at "ok"
    exact (q _ _ g (Int.mul_nonneg hs hb.1) (Int.emod_nonneg _ (by decide)))
  unfold cPool
  walk_at "okF"
  refine ⟨fun hc => ?_, fun hc => ?_⟩
  · have hlt : k < ((ns.map W.int).length : Int) := of_decide_eq_true hc
    rw [List.length_map] at hlt
    walk_at "ok"
    obtain ⟨j, rfl⟩ := Int.eq_ofNat_of_zero_le hk
    have hj : j < ns.length := by omega
    refine ok_ixR (w := .int ns[j]) (atI_nat (by rw [List.getElem?_map, List.getElem?_eq_getElem hj]; rfl)) ?_
    walk_at "ok1"
    have q := tail ns[j] []
    rw [List.append_nil] at q
    exact q
  · walk_at "ok"
    obtain ⟨ms, em⟩ := cutW_map ns none (some 63)
    refine ok_slR ?_
    walk_at "ok"
    refine ok_sumL (ns := ms) (by rw [em]; simp) ?_
    refine ok_mulI (mulOk_l (by decide) (by decide)) ?_
    walk_at "ok1"
    walk_at "ok1"
    walk_at "ok1"
    exact tail _ _
theorem pick_ok {h : Hw} {n : Nat} {a b : Int} {row : W} {m : Nat} {P : W → Hw → Prop} (e : h[n]? = some (pl a b)) (ha : 0 ≤ a) (hb : 0 ≤ b) (hm : 0 < m) (hl : m ≤ 1000)
    (el : Ok (bLen [row]) h fun w h1 => w = .int m ∧ h1 = h)
    (k : ∀ (j : Nat) (a' b' : Int), j < m → 0 ≤ a' → 0 ≤ b' → Ok (fIx row (.int j)) (h.set n (pl a' b')) P) : Ok (cPick [.ref n, row]) h P := by
  unfold cPick
  walk_at "okF"
  refine el.imp fun w h1 q => ?_
  obtain ⟨rfl, rfl⟩ := q
  walk_at "ok"
  refine draw_ok e ha hb (by omega) ?_ fun r a' b' r0 r1 a0 b0 => ?_
  · have : ((m : Int).natAbs) = m := by omega
    rw [this]
    exact Nat.lt_of_le_of_lt (Nat.log2_le_self m) (by omega)
  · obtain ⟨j, rfl⟩ := Int.eq_ofNat_of_zero_le r0
    exact k j a' b' (by omega) a0 b0
end EL
/-! EL9: words, dates, integers. -/
namespace EL
open PySem PySem.Spec L2
open PyProof.Rows hiding St
open TL (tl len_tl ext_tl tl_append tl_mk join_eq tl_join joinL)

def cIsInteger : List W → M W := mFn 3 3 (sRet ((mAnd (mIsi "int" (mVar 0)) (mAnd (mNot (mIsi "bool" (mVar 0))) (mCh fLe fLe (mVar 1) (mVar 0) (mVar 2))))))
def cIsWord : List W → M W := mFn 1 2 (sSeq (sIf ((tOr (tNot (tTru (mIsi "str" (mVar 0)))) (tNot (tVal (mCh fLe fLe (mC (.int 1)) (mCall bLen (aCons (mVar 0) aNil)) (mC (.int 8))))))) (sRet (mC (.bl false))) sNil)
    (sRet (mCall bAll (aCons (mLc (iAny (mVar 0)) (gNm 1) tYs (mBin (fIn false) (mVar 1) (mC (.str "abcdefghijklmnopqrstuvwxyz"))) [1]) aNil))))
def cIsDate : List W → M W := mFn 1 1 (sRet (mCall cIsInteger (aCons (mVar 0) (aCons (mC (.int 0)) (aCons (mC (.int 9999)) aNil)))))
theorem ok_turns {ns : List Int} {c : Int} {j : Nat} {b : MS} {sw : SW} {h : Hw} {PF : Fl → Hw → Prop} (Inv : SW → Prop) (hc : 1 ≤ c) (hc2 : c ≤ 100) (h0 : Inv sw) (hv : sw[0]? = some (some (.rol (ns.map W.int))))
    (hb : ∀ (k : Int) (sw : SW) (h : Hw), 0 ≤ k → k ≤ 100 → Inv sw → Ok (b (sw.set j (some (.int k)))) h fun f _ => ∃ s, f = .nx s ∧ Inv s)
    (he : ∀ sw h, Inv sw → PF (.nx sw) h) : Ok (sForI (iRg1 (mCall bMax (aCons (mC (.int 1)) (aCons (mCall bMin (aCons (mCall bLen (aCons (mVar 0) aNil)) (aCons (mC (.int c)) aNil))) aNil)))) (gNm j) b sw) h PF := by
  refine ok_sForI (ok_iRg1 (ok_call (ok_aCons (ok_c (ok_aCons (ok_call (ok_aCons (ok_call (ok_aCons (ok_var hv (ok_aNil (ok_lenR (ok_aCons (ok_c (ok_aNil (ok_min (ok_aNil (ok_max ?_))))))))))))))))))
  generalize hz : (if (if c < ((ns.map W.int).length : Int) then c else ((ns.map W.int).length : Int)) > 1 then (if c < ((ns.map W.int).length : Int) then c else ((ns.map W.int).length : Int)) else 1) = z
  have hz1 : 1 ≤ z ∧ z ≤ 100 := by
    subst hz
    split <;> (try split) <;> omega
  refine ⟨_, rfl, by unfold big; omega, ?_⟩
  refine ok_sFor (fun _ sw _ => Inv sw) (n := z.toNat) _ (Nat.le_refl _) h0 (fun i sw h hi p => ?_) (fun sw h p => ?_)
  · refine ⟨.int (0 + i), by unfold Src.item; simp only [if_pos hi], ok_gNm ((hb (0 + i) sw h (by omega) (by omega) p).imp fun f h2 q => ?_)⟩
    obtain ⟨s, rfl, q⟩ := q
    exact q
  · exact ⟨by unfold Src.item; simp only [Nat.lt_irrefl, if_false], he sw h p⟩
/-- a word -/
def isw (x : Str) : Bool := decide (1 ≤ x.length) && decide (x.length ≤ 8) && x.cps.toList.all fun c => decide (97 ≤ c) && decide (c ≤ 122)
theorem letters_mem (c : Nat) : decide (c ∈ (Str.ofString "abcdefghijklmnopqrstuvwxyz").cps.toList) = (decide (97 ≤ c) && decide (c ≤ 122)) := by
  have e : (Str.ofString "abcdefghijklmnopqrstuvwxyz").cps.toList = (List.range 26).map (97 + ·) := by decide +kernel
  rw [e]
  by_cases h : 97 ≤ c ∧ c ≤ 122
  · rw [decide_eq_true (show c ∈ (List.range 26).map (97 + ·) from List.mem_map.mpr ⟨c - 97, List.mem_range.mpr (by omega), by omega⟩), decide_eq_true h.1, decide_eq_true h.2]
    rfl
  · rw [decide_eq_false (show ¬ c ∈ (List.range 26).map (97 + ·) from fun z => by
      obtain ⟨k, hk, rfl⟩ := List.mem_map.mp z
      have := List.mem_range.mp hk
      exact h ⟨by omega, by omega⟩)]
    by_cases h1 : 97 ≤ c
    · rw [decide_eq_true h1, decide_eq_false (fun z => h ⟨h1, z⟩)]
      rfl
    · rw [decide_eq_false h1]
      rfl
theorem odd_ok {w : W} {h : Hw} {P : W → Hw → Prop} {n : String} (e : tyName h w = some n) (e2 : kitB n "str" = some false) (p : P (.bl false) h) : Ok (cIsWord [w]) h P := by
  unfold cIsWord
  walk_at "okF"
  refine ⟨n, false, e, e2, ?_⟩
  walk_at "ok"
  exact p
theorem word_ok {x : Str} {h : Hw} {P : W → Hw → Prop} (hl : x.length ≤ lim) (p : ∀ g, P (.bl (isw x)) (h ++ g)) : Ok (cIsWord [.str x]) h P := by
  unfold cIsWord
  walk_at "okF"
  refine ⟨"str", true, rfl, by decide +kernel, ?_⟩
  walk_at "ok"
  refine ok_lenS hl ?_
  walk_at "ok"
  have no : isw x = false → P (.bl false) h := fun z => by
    have q := p []
    rw [z, List.append_nil] at q
    exact q
  refine ⟨fun h1 => ?_, fun h1 => ?_⟩
  · have h1' : 1 ≤ x.length := by
      have := of_decide_eq_true h1
      omega
    walk_at "ok"
    by_cases h2 : x.length ≤ 8
    · refine okBF (by rw [decide_eq_true (by omega)]; rfl) ?_
      walk_at "ok"
      refine ok_mLc (fun i acc h' => acc = ((x.cps.toList.take i).map fun c => W.bl (decide (97 ≤ c) && decide (c ≤ 122))) ∧ h' = h ++ [.lst acc]) h.length (ok_iAnyS ?_)
      walk_at "ok"
      refine ⟨x, rfl, rfl, ⟨by simp, rfl⟩, fun i acc h' hi q hD => ?_, fun acc h' q hD => ?_⟩
      · obtain ⟨qa, qh⟩ := q
        have hi' : i < x.cps.size := hi
        refine ⟨.str ⟨#[x.cps[i]]⟩, by show some (x.cps[i]?.map _) = _; rw [Array.getElem?_eq_getElem hi']; rfl, ok_gNm ?_⟩
        refine ok_rtn (okT ?_)
        walk_at "ok"
        refine ok_in1 ?_
        refine ⟨hD, by
          have hs : x.cps.size = x.length := rfl
          rw [qa, List.length_map, List.length_take, Array.length_toList]
          unfold lim
          omega, ?_, ?_⟩
        · rw [qa, letters_mem, List.take_add_one, List.map_append, Array.getElem?_toList, Array.getElem?_eq_getElem hi']
          simp
        · rw [qh, List.set_append_right _ _ (Nat.le_refl _), Nat.sub_self]
          rfl
      · obtain ⟨qa, qh⟩ := q
        refine ⟨by show some (x.cps[x.cps.size]?.map _) = _; rw [Array.getElem?_eq_none (Nat.le_refl _)]; rfl, ?_⟩
        walk_at "ok"
        have qa' : acc = (x.cps.toList.map fun c => decide (97 ≤ c) && decide (c ≤ 122)).map W.bl := by
          rw [qa, List.take_of_length_le (by simp), List.map_map]
          rfl
        rw [qa'] at hD
        refine ok_allL hD ?_
        have e : isw x = (x.cps.toList.map fun c => decide (97 ≤ c) && decide (c ≤ 122)).all id := by
          unfold isw
          rw [decide_eq_true h1', decide_eq_true h2, List.all_map]
          simp
        rw [← e, qh]
        exact p _
    · refine okB (by rw [decide_eq_false (by omega)]; rfl) ?_
      walk_at "ok"
      refine no ?_
      unfold isw
      rw [decide_eq_false h2]
      simp
  · walk_at "ok"
    refine no ?_
    have : ¬ 1 ≤ x.length := fun z => by
      rw [decide_eq_true (by omega)] at h1
      cases h1
    unfold isw
    rw [decide_eq_false this]
    simp
theorem int_ok {i lo hi : Int} {h : Hw} {P : W → Hw → Prop} (p : P (.bl (decide (lo ≤ i ∧ i ≤ hi))) h) : Ok (cIsInteger [.int i, .int lo, .int hi]) h P := by
  unfold cIsInteger
  walk_at "okF"
  refine ⟨"int", true, rfl, by decide +kernel, ?_⟩
  walk_at "ok"
  refine ⟨"int", false, rfl, by decide +kernel, ?_⟩
  walk_at "ok"
  refine ⟨fun h1 => ?_, fun h1 => ?_⟩
  · walk_at "ok"
    have h1' := of_decide_eq_true h1
    rw [show decide (i ≤ hi) = decide (lo ≤ i ∧ i ≤ hi) by simp [h1']]
    exact p
  · have h1' := of_decide_eq_false h1
    rw [show decide (lo ≤ i ∧ i ≤ hi) = false by simp [h1']] at p
    exact p
theorem noint_ok {w lo hi : W} {h : Hw} {P : W → Hw → Prop} {n : String} (e : tyName h w = some n) (hn : kitB n "int" = some false ∨ (kitB n "int" = some true ∧ kitB n "bool" = some true)) (p : P (.bl false) h) : Ok (cIsInteger [w, lo, hi]) h P := by
  unfold cIsInteger
  walk_at "okF"
  rcases hn with hn | ⟨hn, hb⟩
  · refine ⟨n, false, e, hn, ?_⟩
    walk_at "ok"
    exact p
  · refine ⟨n, true, e, hn, ?_⟩
    walk_at "ok"
    refine ⟨n, true, e, hb, ?_⟩
    walk_at "ok"
    exact p
theorem date_ok {i : Int} {h : Hw} {P : W → Hw → Prop} (p : P (.bl (decide (0 ≤ i ∧ i ≤ 9999))) h) : Ok (cIsDate [.int i]) h P := by
  unfold cIsDate
  walk_at "okF"
  exact int_ok p
theorem nodate_ok {w : W} {h : Hw} {P : W → Hw → Prop} {n : String} (e : tyName h w = some n) (hn : kitB n "int" = some false ∨ (kitB n "int" = some true ∧ kitB n "bool" = some true)) (p : P (.bl false) h) : Ok (cIsDate [w]) h P := by
  unfold cIsDate
  walk_at "okF"
  exact noint_ok e hn p
theorem get_app {h g : Hw} {n : Nat} {o : O} (e : h[n]? = some o) : (h ++ g)[n]? = some o := by
  rw [List.getElem?_append_left (List.getElem?_eq_some_iff.mp e).1]
  exact e
/-- over a list that stands: each item's turn goes on -/
theorem ok_forLst {p : Nat} {xs : List W} {g : MG} {b : MS} {sw : SW} {h : Hw} {PF : Fl → Hw → Prop} (Inv : SW → Hw → Prop) (h0 : Inv sw h) (hp : ∀ sw h, Inv sw h → h[p]? = some (.lst xs))
    (hs : ∀ x ∈ xs, ∀ sw h, Inv sw h → Ok (g x sw) h fun s h1 => Ok (b s) h1 fun f h2 => ∃ s', f = .nx s' ∧ Inv s' h2) (he : ∀ sw h, Inv sw h → PF (.nx sw) h) : Ok (sFor (.lst p) g b 0 (xs.length + 1) sw) h PF := by
  refine ok_sFor (fun _ sw h => Inv sw h) (n := xs.length) _ (Nat.le_refl _) h0 (fun i sw h hi q => ?_) (fun sw h q => ?_)
  · refine ⟨xs[i], ?_, (hs xs[i] (List.getElem_mem hi) sw h q).imp fun s h1 o => o.imp fun f h2 z => ?_⟩
    · show (match h[p]? with
        | some (.lst xs) => some xs[i]?
        | _ => none) = _
      rw [hp sw h q]
      simp only [List.getElem?_eq_getElem hi]
    · obtain ⟨s', rfl, z⟩ := z
      exact z
  · refine ⟨?_, he sw h q⟩
    show (match h[p]? with
      | some (.lst ys) => some ys[xs.length]?
      | _ => none) = _
    rw [hp sw h q]
    simp only [List.getElem?_eq_none (Nat.le_refl _)]
/-- sums of written signs -/
theorem join_signs (cs : List Nat) : Txt.join (Str.ofString "") (cs.map fun c => ⟨#[c]⟩) = ⟨cs.toArray⟩ := by
  refine ext_tl ?_
  rw [join_eq, tl_join]
  have e0 : tl (Str.ofString "") = [] := by decide +kernel
  rw [e0]
  show joinL [] _ = cs
  induction cs with
  | nil => rfl
  | cons c r ih =>
    cases r with
    | nil => rfl
    | cons d r =>
      show [c] ++ ([] ++ joinL [] (List.map tl (List.map (fun c => (⟨#[c]⟩ : Str)) (d :: r)))) = _
      rw [ih]
      rfl
theorem isw_tl (x : Str) : isw x = (decide (1 ≤ (tl x).length) && decide ((tl x).length ≤ 8) && (tl x).all fun c => decide (97 ≤ c) && decide (c ≤ 122)) := by
  unfold isw
  rw [len_tl]
theorem tl_cut (x : Str) (n : Nat) : tl (cutS x none (some (n : Int))) = (tl x).take n := by
  unfold cutS
  rw [tl_mk, HT.sIx_none, HT.sIx_nat, List.drop_zero, len_tl, Nat.sub_zero, ← List.take_take]
  rw [List.take_of_length_le (Nat.le_refl _)]
theorem tl_cut2 (x : Str) (n : Nat) : tl (cutS x (some (n : Int)) none) = (tl x).drop n := by
  unfold cutS
  rw [tl_mk, HT.sIx_none, HT.sIx_nat, len_tl]
  by_cases h : n ≤ (tl x).length
  · rw [Nat.min_eq_left h, List.take_of_length_le]
    rw [List.length_drop]
    exact Nat.le_refl _
  · rw [Nat.min_eq_right (by omega), List.drop_of_length_le (Nat.le_refl _), List.drop_of_length_le (by omega)]
    simp
end EL
namespace ThisLaw
open PySem PySem.Spec L2 EL
open PyProof.Rows hiding St
section
def topS (i : Nat) : Stmt := PySem.Challenge.pw_standinparts_k01_words_and_dates.main.body.getD i (.Pass ⟨0, 0, 0, 0⟩)
end
abbrev s_is_integer : Stmt := topS 4
theorem sc_is_integer : FnScope ["value", "lowest", "highest"] ["value", "lowest", "highest"] (defScope s_is_integer) := ⟨rfl, rfl, rfl, by decide +kernel, rfl, by decide +kernel, by decide +kernel⟩
def m_is_integer : List W → M W := mFn 3 3 (sRet ((mAnd (mIsi "int" (mVar 0)) (mAnd (mNot (mIsi "bool" (mVar 0))) (mCh fLe fLe (mVar 1) (mVar 0) (mVar 2))))))
theorem ok_is_integer {P : Program} {w : World} {K : PySem.W.Frag} {mg : Str → Option Value} {base : Heap} {cm : Str → Addr} {f : Addr} {fd : FuncData} (F : Fun K "is_integer" "is_integer" s_is_integer f fd) (z_isinstance : mg "isinstance" = none) (z_bool : mg "bool" = none) (z_int : mg "int" = none) :
    FnOk P w K mg base CX0 1 f fd ["value", "lowest", "highest"] (spM K cm m_is_integer) :=
  efn F sc_is_integer fun cdv A outer s H E hr => (rss_one (rs_ret ((re_and (re_isi (T := "int") z_isinstance z_int (re_var 0)) (re_and (re_not (re_isi (T := "bool") z_isinstance z_bool (re_var 0))) (re_one (re_ch oLe wCmp oLe wCmp (re_var 1) (re_var 0) (re_var 2))))))))
abbrev s_is_word : Stmt := topS 5
theorem sc_is_word : FnScope ["value", "letter"] ["value"] (defScope s_is_word) := ⟨rfl, rfl, rfl, by decide +kernel, rfl, by decide +kernel, by decide +kernel⟩
def m_is_word : List W → M W := mFn 1 2 (sSeq (sIf ((tOr (tNot (tTru (mIsi "str" (mVar 0)))) (tNot (tVal (mCh fLe fLe (mC (.int 1)) (mCall bLen (aCons (mVar 0) aNil)) (mC (.int 8))))))) (sRet (mC (.bl false))) sNil)
    (sRet (mCall bAll (aCons (mLc (iAny (mVar 0)) (gNm 1) tYs (mBin (fIn false) (mVar 1) (mC (.str "abcdefghijklmnopqrstuvwxyz"))) [1]) aNil))))
theorem ok_is_word {P : Program} {w : World} {K : PySem.W.Frag} {mg : Str → Option Value} {base : Heap} {cm : Str → Addr} {f : Addr} {fd : FuncData} (F : Fun K "is_word" "is_word" s_is_word f fd) (z_len : mg "len" = none) (z_isinstance : mg "isinstance" = none) (z_str : mg "str" = none) (z_all : mg "all" = none) {t_LONGEST_WORD : Tok} (c_LONGEST_WORD : mg "LONGEST_WORD" = some (.int 8 t_LONGEST_WORD)) {t_LETTERS : Tok} (c_LETTERS : mg "LETTERS" = some (.str "abcdefghijklmnopqrstuvwxyz" t_LETTERS)) :
    FnOk P w K mg base CX0 1 f fd ["value"] (spM K cm m_is_word) :=
  efn F sc_is_word fun cdv A outer s H E hr => (rss_cons (rs_if (rw_t (rt_or (rt_not (rt_tru (re_isi (T := "str") z_isinstance z_str (re_var 0)))) (rt_or1 (rt_not (rt_ch oLe wCmp oLe wCmp (re_int) (re_callB oLen wLen z_len (ra_cons (re_var 0) ra_nil)) (re_gint c_LONGEST_WORD)))))) (rss_one (rs_ret (re_bl))) rss_nil)
    (rss_one (rs_ret (re_callB (cr_all rfl) wAll z_all (ra_cons (re_lc [("letter", 1)] rfl sc_is_word.nd (ri_any (re_var 0)) (N0 := ["value", "letter"]) (sc0 := defScope s_is_word) (by decide +kernel) (fun _ _ _ _ _ => (rg_name 1 sc_is_word.nd)) (fun _ _ _ _ _ => (re_cmp (oIn (hu65 hr)) wIn (re_var 1) (re_gstr c_LETTERS)))) ra_nil)))))
abbrev s_is_date : Stmt := topS 6
theorem sc_is_date : FnScope ["value"] ["value"] (defScope s_is_date) := ⟨rfl, rfl, rfl, by decide +kernel, rfl, by decide +kernel, by decide +kernel⟩
def m_is_date : List W → M W := mFn 1 1 (sRet (mCall m_is_integer (aCons (mVar 0) (aCons (mC (.int 0)) (aCons (mC (.int 9999)) aNil)))))
theorem ok_is_date {P : Program} {w : World} {K : PySem.W.Frag} {mg : Str → Option Value} {base : Heap} {cm : Str → Addr} {f : Addr} {fd : FuncData} (F : Fun K "is_date" "is_date" s_is_date f fd) {t_LAST_DATE : Tok} (c_LAST_DATE : mg "LAST_DATE" = some (.int 9999 t_LAST_DATE)) {f_is_integer : Addr} {fd_is_integer : FuncData} (G_is_integer : FnOk P w K mg base CX0 1 f_is_integer fd_is_integer ["value", "lowest", "highest"] (spM K cm m_is_integer)) (g_is_integer : mg "is_integer" = some (.ref f_is_integer)) (k_is_integer : PySem.W.keepIn K (.ref f_is_integer) = true) (b_is_integer : Binds K fd_is_integer ["value", "lowest", "highest"] []) :
    FnOk P w K mg base CX0 2 f fd ["value"] (spM K cm m_is_date) :=
  efn F sc_is_date fun cdv A outer s H E hr => (rss_one (rs_ret (re_call G_is_integer (hr.mono (by decide)) g_is_integer k_is_integer b_is_integer (ra_cons (re_var 0) (ra_cons (re_int) (ra_cons (re_gint c_LAST_DATE) ra_nil))))))
abbrev s__law_pool : Stmt := topS 8
theorem sc__law_pool : FnScope ["_law_script", "_law_k", "_law_cell", "_law_size", "_law_mixed"] ["_law_script", "_law_k"] (defScope s__law_pool) := ⟨rfl, rfl, rfl, by decide +kernel, rfl, by decide +kernel, by decide +kernel⟩
def m__law_pool : List W → M W := mFn 2 5 (sSeq (sAsg (gNm 2) (mIf (tVal (mBin fLt (mVar 1) (mCall bLen (aCons (mVar 0) aNil)))) (mBin fIx (mVar 0) (mVar 1)) (mBin fAdd (mBin fMul (mC (.int 7)) (mCall bSum (aCons (mSl (mVar 0) oNo (oSo (mC (.int 63)))) aNil))) (mVar 1))))
    (sSeq (sAsg (gNm 3) (mCall bAbs (aCons (mVar 2) aNil)))
    (sSeq (sAsg (gNm 4) (mBin fAdd (mBin fAdd (mBin fAdd (mBin fMod (mCall bInt (aCons (mVar 3) aNil)) (mC (.int 2147483629))) (mBin fMul (mBin fMul (mC (.int 7919)) (mVar 1)) (mVar 1))) (mBin fMul (mC (.int 31)) (mVar 1))) (mC (.int 17))))
    (sSeq (sAsg (gNm 4) (mBin fMod (mCall bInt (aCons (mBin fMul (mVar 4) (mC (.int 48271))) aNil)) (mC (.int 2147483647))))
    (sRet (mLst (aCons (mBin fMul (mVar 3) (mCall bInt (aCons (mBin fGe (mVar 3) (mBin fPow (mC (.int 10)) (mC (.int 18)))) aNil))) (aCons (mBin fMod (mCall bInt (aCons (mBin fMul (mVar 4) (mVar 4)) aNil)) (mC (.int 2147483629))) aNil))))))))
theorem ok__law_pool {P : Program} {w : World} {K : PySem.W.Frag} {mg : Str → Option Value} {base : Heap} {cm : Str → Addr} {f : Addr} {fd : FuncData} (F : Fun K "_law_pool" "_law_pool" s__law_pool f fd) (z_len : mg "len" = none) (z_sum : mg "sum" = none) (z_abs : mg "abs" = none) (z_int : mg "int" = none) :
    FnOk P w K mg base CX0 1 f fd ["_law_script", "_law_k"] (spM K cm m__law_pool) :=
  efn F sc__law_pool fun cdv A outer s H E hr => (rss_cons (rs_asg (vs := [2]) (re_if (rt_cmp oLt wCmp (re_var 1) (re_callB oLen wLen z_len (ra_cons (re_var 0) ra_nil))) (re_ix (re_var 0) (re_var 1)) (re_op oAdd wAdd (re_op oMul wMul (re_int) (re_callB (cr_sum rfl) wSum z_sum (ra_cons (re_sl (re_var 0) ro_no (ro_so (re_int))) ra_nil))) (re_var 1))) (rg_name 2 sc__law_pool.nd))
    (rss_cons (rs_asg (vs := [3]) (re_callB call_abs wAbs z_abs (ra_cons (re_var 2) ra_nil)) (rg_name 3 sc__law_pool.nd))
    (rss_cons (rs_asg (vs := [4]) (re_op oAdd wAdd (re_op oAdd wAdd (re_op oAdd wAdd (re_op op_mod wMod (re_callTy call_int1 wInt1 z_int (ra_cons (re_var 3) ra_nil)) (re_int)) (re_op oMul wMul (re_op oMul wMul (re_int) (re_var 1)) (re_var 1))) (re_op oMul wMul (re_int) (re_var 1))) (re_int)) (rg_name 4 sc__law_pool.nd))
    (rss_cons (rs_asg (vs := [4]) (re_op op_mod wMod (re_callTy call_int1 wInt1 z_int (ra_cons (re_op oMul wMul (re_var 4) (re_int)) ra_nil)) (re_int)) (rg_name 4 sc__law_pool.nd))
    (rss_one (rs_ret (re_lst (ra_cons (re_op oMul wMul (re_var 3) (re_callTy call_int1 wInt1 z_int (ra_cons (re_cmp oGe wCmp (re_var 3) (re_op op_pow wPow (re_int) (re_int))) ra_nil))) (ra_cons (re_op op_mod wMod (re_callTy call_int1 wInt1 z_int (ra_cons (re_op oMul wMul (re_var 4) (re_var 4)) ra_nil)) (re_int)) ra_nil)))))))))
abbrev s__law_draw : Stmt := topS 9
theorem sc__law_draw : FnScope ["_law_pool_here", "_law_many", "_law_found"] ["_law_pool_here", "_law_many"] (defScope s__law_draw) := ⟨rfl, rfl, rfl, by decide +kernel, rfl, by decide +kernel, by decide +kernel⟩
def m__law_draw : List W → M W := mFn 2 3 (sSeq (sIf (tVal (mBin fGt (mBin fIx (mVar 0) (mC (.int 0))) (mC (.int 0)))) (sSeq (sAsg (gNm 2) (mBin fMod (mCall bInt (aCons (mBin fIx (mVar 0) (mC (.int 0))) aNil)) (mVar 1)))
    (sSeq (sAsg (gSubL (mVar 0) (mC (.int 0))) (mBin fDiv (mBin fIx (mVar 0) (mC (.int 0))) (mVar 1)))
    (sRet (mVar 2)))) sNil)
    (sSeq (sAsg (gSubL (mVar 0) (mC (.int 1))) (mBin fMod (mCall bInt (aCons (mBin fAdd (mBin fMul (mBin fIx (mVar 0) (mC (.int 1))) (mC (.int 48271))) (mC (.int 11))) aNil)) (mC (.int 2147483647))))
    (sRet (mBin fMod (mCall bInt (aCons (mBin fDiv (mBin fMod (mCall bInt (aCons (mBin fMul (mBin fIx (mVar 0) (mC (.int 1))) (mBin fIx (mVar 0) (mC (.int 1)))) aNil)) (mC (.int 2147483629))) (mC (.int 16))) aNil)) (mVar 1)))))
theorem ok__law_draw {P : Program} {w : World} {K : PySem.W.Frag} {mg : Str → Option Value} {base : Heap} {cm : Str → Addr} {f : Addr} {fd : FuncData} (F : Fun K "_law_draw" "_law_draw" s__law_draw f fd) (z_int : mg "int" = none) :
    FnOk P w K mg base CX0 1 f fd ["_law_pool_here", "_law_many"] (spM K cm m__law_draw) :=
  efn F sc__law_draw fun cdv A outer s H E hr => (rss_cons (rs_if (rt_cmp oGt wCmp (re_ix (re_var 0) (re_int)) (re_int)) (rss_cons (rs_asg (vs := [2]) (re_op op_mod wMod (re_callTy call_int1 wInt1 z_int (ra_cons (re_ix (re_var 0) (re_int)) ra_nil)) (re_var 1)) (rg_name 2 sc__law_draw.nd))
    (rss_cons (rs_asg (vs := []) (re_op op_fdivW wDiv (re_ix (re_var 0) (re_int)) (re_var 1)) (rg_sub (re_var 0) (re_int)))
    (rss_one (rs_ret (re_var 2))))) rss_nil)
    (rss_cons (rs_asg (vs := []) (re_op op_mod wMod (re_callTy call_int1 wInt1 z_int (ra_cons (re_op oAdd wAdd (re_op oMul wMul (re_ix (re_var 0) (re_int)) (re_int)) (re_int)) ra_nil)) (re_int)) (rg_sub (re_var 0) (re_int)))
    (rss_one (rs_ret (re_op op_mod wMod (re_callTy call_int1 wInt1 z_int (ra_cons (re_op op_fdivW wDiv (re_op op_mod wMod (re_callTy call_int1 wInt1 z_int (ra_cons (re_op oMul wMul (re_ix (re_var 0) (re_int)) (re_ix (re_var 0) (re_int))) ra_nil)) (re_int)) (re_int)) ra_nil)) (re_var 1))))))
abbrev s__law_pick : Stmt := topS 10
theorem sc__law_pick : FnScope ["_law_pool_here", "_law_row"] ["_law_pool_here", "_law_row"] (defScope s__law_pick) := ⟨rfl, rfl, rfl, by decide +kernel, rfl, by decide +kernel, by decide +kernel⟩
def m__law_pick : List W → M W := mFn 2 2 (sRet (mBin fIx (mVar 1) (mCall m__law_draw (aCons (mVar 0) (aCons (mCall bLen (aCons (mVar 1) aNil)) aNil)))))
theorem ok__law_pick {P : Program} {w : World} {K : PySem.W.Frag} {mg : Str → Option Value} {base : Heap} {cm : Str → Addr} {f : Addr} {fd : FuncData} (F : Fun K "_law_pick" "_law_pick" s__law_pick f fd) (z_len : mg "len" = none) {f__law_draw : Addr} {fd__law_draw : FuncData} (G__law_draw : FnOk P w K mg base CX0 1 f__law_draw fd__law_draw ["_law_pool_here", "_law_many"] (spM K cm m__law_draw)) (g__law_draw : mg "_law_draw" = some (.ref f__law_draw)) (k__law_draw : PySem.W.keepIn K (.ref f__law_draw) = true) (b__law_draw : Binds K fd__law_draw ["_law_pool_here", "_law_many"] []) :
    FnOk P w K mg base CX0 2 f fd ["_law_pool_here", "_law_row"] (spM K cm m__law_pick) :=
  efn F sc__law_pick fun cdv A outer s H E hr => (rss_one (rs_ret (re_ix (re_var 1) (re_call G__law_draw (hr.mono (by decide)) g__law_draw k__law_draw b__law_draw (ra_cons (re_var 0) (ra_cons (re_callB oLen wLen z_len (ra_cons (re_var 1) ra_nil)) ra_nil))))))
abbrev s_law : Stmt := topS 11
theorem sc_law : FnScope ["_law_script", "_law_signs", "_law_k", "_law_pool_here", "_law_word", "_law_at", "_law_sign", "_law_odd", "_law_dates", "_law_value", "_law_due", "_law_low", "_law_turn"] ["_law_script"] (defScope s_law) := ⟨rfl, rfl, rfl, by decide +kernel, rfl, by decide +kernel, by decide +kernel⟩
def m_law : List W → M W := mFn 1 13 (sSeq (sAsg (gNm 1) (mC (.str "abcdefghijklmnopqrstuvwxyz")))
    (sSeq (sForI (iRg1 (mCall bMax (aCons (mC (.int 1)) (aCons (mCall bMin (aCons (mCall bLen (aCons (mVar 0) aNil)) (aCons (mC (.int 4)) aNil))) aNil)))) (gNm 2) (sSeq (sAsg (gNm 3) (mCall m__law_pool (aCons (mVar 0) (aCons (mVar 2) aNil))))
    (sSeq (sAsg (gNm 4) (mBin fJoin (mC (.str "")) (mLc (iRg1 (mBin fAdd (mC (.int 1)) (mCall m__law_draw (aCons (mVar 3) (aCons (mC (.int 8)) aNil))))) (gNm 12) tYs (mCall m__law_pick (aCons (mVar 3) (aCons (mVar 1) aNil))) [12])))
    (sSeq (sIf ((tOr (tVal (mBin (fIs true) (mCall m_is_word (aCons (mVar 4) aNil)) (mC (.bl true)))) (tVal (mBin (fIs true) (mCall m_is_word (aCons (mBin fAdd (mBin fAdd (mVar 4) (mVar 4)) (mC (.str "abcdefgh"))) aNil)) (mC (.bl false)))))) (sRet (mC (.bl false))) sNil)
    (sSeq (sIf ((tOr (tVal (mBin (fIs true) (mCall m_is_word (aCons (mSl (mBin fAdd (mVar 4) (mC (.str "abcdefgh"))) oNo (oSo (mC (.int 9)))) aNil)) (mC (.bl false)))) (tVal (mBin (fIs true) (mCall m_is_word (aCons (mSl (mBin fAdd (mVar 4) (mC (.str "abcdefgh"))) oNo (oSo (mC (.int 8)))) aNil)) (mC (.bl true)))))) (sRet (mC (.bl false))) sNil)
    (sSeq (sAsg (gNm 5) (mCall m__law_draw (aCons (mVar 3) (aCons (mCall bLen (aCons (mVar 4) aNil)) aNil))))
    (sSeq (sForI (iAny (mLst (aCons (mC (.str "A")) (aCons (mC (.str " ")) (aCons (mC (.str "1")) (aCons (mC (.str "-")) (aCons (mC (.str "\n")) (aCons (mC (.str "_")) aNil)))))))) (gNm 6) (sIf (tVal (mBin (fIs true) (mCall m_is_word (aCons (mBin fAdd (mBin fAdd (mSl (mVar 4) oNo (oSo (mVar 5))) (mVar 6)) (mSl (mVar 4) (oSo (mBin fAdd (mVar 5) (mC (.int 1)))) oNo)) aNil)) (mC (.bl false)))) (sRet (mC (.bl false))) sNil))
    (sSeq (sForI (iAny (mLst (aCons (mC (.str "")) (aCons (mC .non) (aCons (mC (.int 5)) (aCons (mC (.bl true)) (aCons (mTup (aCons (mC (.str "a")) aNil)) (aCons (mLst (aCons (mC (.str "a")) aNil)) (aCons (mDnew) aNil))))))))) (gNm 7) (sIf (tVal (mBin (fIs true) (mCall m_is_word (aCons (mVar 7) aNil)) (mC (.bl false)))) (sRet (mC (.bl false))) sNil))
    (sSeq (sAsg (gNm 8) (mLst (aCons (mTup (aCons (mC (.int 0)) (aCons (mC (.bl true)) aNil))) (aCons (mTup (aCons (mC (.int 9999)) (aCons (mC (.bl true)) aNil))) (aCons (mTup (aCons (mUn fNeg (mC (.int 1))) (aCons (mC (.bl false)) aNil))) (aCons (mTup (aCons (mC (.int 10000)) (aCons (mC (.bl false)) aNil))) (aCons (mTup (aCons (mC (.bl true)) (aCons (mC (.bl false)) aNil))) (aCons (mTup (aCons (mC .non) (aCons (mC (.bl false)) aNil))) aNil))))))))
    (sSeq (sForI (iAny (mBin fAdd (mVar 8) (mLst (aCons (mTup (aCons (mC (.str "5")) (aCons (mC (.bl false)) aNil))) aNil)))) (gTu 2 (gsCons (gNm 9) (gsCons (gNm 10) gsNil))) (sIf (tVal (mBin (fEq true) (mCall bRepr (aCons (mCall m_is_date (aCons (mVar 9) aNil)) aNil)) (mCall bRepr (aCons (mVar 10) aNil)))) (sRet (mC (.bl false))) sNil))
    (sSeq (sAsg (gNm 11) (mBin fSub (mCall m__law_draw (aCons (mVar 3) (aCons (mBin fMul (mC (.int 2)) (mBin fPow (mC (.int 10)) (mC (.int 30)))) aNil))) (mBin fPow (mC (.int 10)) (mC (.int 30)))))
    (sSeq (sForI (iAny (mLst (aCons (mBin fSub (mVar 11) (mC (.int 1))) (aCons (mVar 11) (aCons (mBin fAdd (mVar 11) (mC (.int 1))) (aCons (mBin fAdd (mVar 11) (mC (.int 2))) (aCons (mBin fAdd (mVar 11) (mC (.int 3))) aNil))))))) (gNm 9) (sIf (tVal (mBin (fEq true) (mCall bRepr (aCons (mCall m_is_integer (aCons (mVar 9) (aCons (mVar 11) (aCons (mBin fAdd (mVar 11) (mC (.int 2))) aNil)))) aNil)) (mCall bRepr (aCons (mCh fLe fLe (mVar 11) (mVar 9) (mBin fAdd (mVar 11) (mC (.int 2)))) aNil)))) (sRet (mC (.bl false))) sNil))
    (sForI (iAny (mLst (aCons (mC .non) (aCons (mC (.bl true)) (aCons (mC (.bl false)) (aCons (mC (.str "1")) (aCons (mTup (aCons (mC (.int 1)) aNil)) aNil))))))) (gNm 7) (sIf (tVal (mBin (fIs true) (mCall m_is_integer (aCons (mVar 7) (aCons (mC (.int 0)) (aCons (mC (.int 5)) aNil)))) (mC (.bl false)))) (sRet (mC (.bl false))) sNil))))))))))))))
    (sRet (mC (.bl true)))))
theorem ok_law {P : Program} {w : World} {K : PySem.W.Frag} {mg : Str → Option Value} {base : Heap} {cm : Str → Addr} {f : Addr} {fd : FuncData} (F : Fun K "law" "law" s_law f fd) (z_range : mg "range" = none) (z_max : mg "max" = none) (z_min : mg "min" = none) (z_len : mg "len" = none) (z_repr : mg "repr" = none) {f__law_pool : Addr} {fd__law_pool : FuncData} (G__law_pool : FnOk P w K mg base CX0 1 f__law_pool fd__law_pool ["_law_script", "_law_k"] (spM K cm m__law_pool)) (g__law_pool : mg "_law_pool" = some (.ref f__law_pool)) (k__law_pool : PySem.W.keepIn K (.ref f__law_pool) = true) (b__law_pool : Binds K fd__law_pool ["_law_script", "_law_k"] []) {f__law_draw : Addr} {fd__law_draw : FuncData} (G__law_draw : FnOk P w K mg base CX0 1 f__law_draw fd__law_draw ["_law_pool_here", "_law_many"] (spM K cm m__law_draw)) (g__law_draw : mg "_law_draw" = some (.ref f__law_draw)) (k__law_draw : PySem.W.keepIn K (.ref f__law_draw) = true) (b__law_draw : Binds K fd__law_draw ["_law_pool_here", "_law_many"] []) {f__law_pick : Addr} {fd__law_pick : FuncData} (G__law_pick : FnOk P w K mg base CX0 2 f__law_pick fd__law_pick ["_law_pool_here", "_law_row"] (spM K cm m__law_pick)) (g__law_pick : mg "_law_pick" = some (.ref f__law_pick)) (k__law_pick : PySem.W.keepIn K (.ref f__law_pick) = true) (b__law_pick : Binds K fd__law_pick ["_law_pool_here", "_law_row"] []) {f_is_word : Addr} {fd_is_word : FuncData} (G_is_word : FnOk P w K mg base CX0 1 f_is_word fd_is_word ["value"] (spM K cm m_is_word)) (g_is_word : mg "is_word" = some (.ref f_is_word)) (k_is_word : PySem.W.keepIn K (.ref f_is_word) = true) (b_is_word : Binds K fd_is_word ["value"] []) {f_is_date : Addr} {fd_is_date : FuncData} (G_is_date : FnOk P w K mg base CX0 2 f_is_date fd_is_date ["value"] (spM K cm m_is_date)) (g_is_date : mg "is_date" = some (.ref f_is_date)) (k_is_date : PySem.W.keepIn K (.ref f_is_date) = true) (b_is_date : Binds K fd_is_date ["value"] []) {f_is_integer : Addr} {fd_is_integer : FuncData} (G_is_integer : FnOk P w K mg base CX0 1 f_is_integer fd_is_integer ["value", "lowest", "highest"] (spM K cm m_is_integer)) (g_is_integer : mg "is_integer" = some (.ref f_is_integer)) (k_is_integer : PySem.W.keepIn K (.ref f_is_integer) = true) (b_is_integer : Binds K fd_is_integer ["value", "lowest", "highest"] []) :
    FnOk P w K mg base CX0 3 f fd ["_law_script"] (spM K cm m_law) :=
  efn F sc_law fun cdv A outer s H E hr => (rss_cons (rs_asg (vs := [1]) (re_str) (rg_name 1 sc_law.nd))
    (rss_cons (rs_for (vs := [2]) PassesOwn.never rfl (ri_rng1 z_range (re_callB (call_max2 rfl) wMax z_max (ra_cons (re_int) (ra_cons (re_callB (call_min2 rfl) wMin z_min (ra_cons (re_callB oLen wLen z_len (ra_cons (re_var 0) ra_nil)) (ra_cons (re_int) ra_nil))) ra_nil)))) (rg_name 2 sc_law.nd) (rss_cons (rs_asg (vs := [3]) (re_call G__law_pool (hr.mono (by decide)) g__law_pool k__law_pool b__law_pool (ra_cons (re_var 0) (ra_cons (re_var 2) ra_nil))) (rg_name 3 sc_law.nd))
    (rss_cons (rs_asg (vs := [4]) (re_join (re_str) (re_lc [("_law_turn", 12)] rfl sc_law.nd (ri_rng1 z_range (re_op oAdd wAdd (re_int) (re_call G__law_draw (hr.mono (by decide)) g__law_draw k__law_draw b__law_draw (ra_cons (re_var 3) (ra_cons (re_int) ra_nil))))) (N0 := ["_law_script", "_law_signs", "_law_k", "_law_pool_here", "_law_word", "_law_at", "_law_sign", "_law_odd", "_law_dates", "_law_value", "_law_due", "_law_low", "_law_turn"]) (sc0 := defScope s_law) (by decide +kernel) (fun _ _ _ _ _ => (rg_name 12 sc_law.nd)) (fun _ _ _ _ _ => (re_call G__law_pick (hr.mono (by decide)) g__law_pick k__law_pick b__law_pick (ra_cons (re_var 3) (ra_cons (re_var 1) ra_nil)))))) (rg_name 4 sc_law.nd))
    (rss_cons (rs_if (rw_t (rt_or (rt_cmp oIsN wIsN (re_call G_is_word (hr.mono (by decide)) g_is_word k_is_word b_is_word (ra_cons (re_var 4) ra_nil)) (re_bl)) (rt_or1 (rt_cmp oIsN wIsN (re_call G_is_word (hr.mono (by decide)) g_is_word k_is_word b_is_word (ra_cons (re_op oAdd wAdd (re_op oAdd wAdd (re_var 4) (re_var 4)) (re_str)) ra_nil)) (re_bl))))) (rss_one (rs_ret (re_bl))) rss_nil)
    (rss_cons (rs_if (rw_t (rt_or (rt_cmp oIsN wIsN (re_call G_is_word (hr.mono (by decide)) g_is_word k_is_word b_is_word (ra_cons (re_sl (re_op oAdd wAdd (re_var 4) (re_str)) ro_no (ro_so (re_int))) ra_nil)) (re_bl)) (rt_or1 (rt_cmp oIsN wIsN (re_call G_is_word (hr.mono (by decide)) g_is_word k_is_word b_is_word (ra_cons (re_sl (re_op oAdd wAdd (re_var 4) (re_str)) ro_no (ro_so (re_int))) ra_nil)) (re_bl))))) (rss_one (rs_ret (re_bl))) rss_nil)
    (rss_cons (rs_asg (vs := [5]) (re_call G__law_draw (hr.mono (by decide)) g__law_draw k__law_draw b__law_draw (ra_cons (re_var 3) (ra_cons (re_callB oLen wLen z_len (ra_cons (re_var 4) ra_nil)) ra_nil))) (rg_name 5 sc_law.nd))
    (rss_cons (rs_for (vs := [6]) PassesOwn.never rfl (ri_any (re_lst (ra_cons (re_str) (ra_cons (re_str) (ra_cons (re_str) (ra_cons (re_str) (ra_cons (re_str) (ra_cons (re_str) ra_nil)))))))) (rg_name 6 sc_law.nd) (rss_one (rs_if (rt_cmp oIsN wIsN (re_call G_is_word (hr.mono (by decide)) g_is_word k_is_word b_is_word (ra_cons (re_op oAdd wAdd (re_op oAdd wAdd (re_sl (re_var 4) ro_no (ro_so (re_var 5))) (re_var 6)) (re_sl (re_var 4) (ro_so (re_op oAdd wAdd (re_var 5) (re_int))) ro_no)) ra_nil)) (re_bl)) (rss_one (rs_ret (re_bl))) rss_nil)))
    (rss_cons (rs_for (vs := [7]) PassesOwn.never rfl (ri_any (re_lst (ra_cons (re_str) (ra_cons (re_non) (ra_cons (re_int) (ra_cons (re_bl) (ra_cons (re_tup (ra_cons (re_str) ra_nil)) (ra_cons (re_lst (ra_cons (re_str) ra_nil)) (ra_cons (re_dnew) ra_nil))))))))) (rg_name 7 sc_law.nd) (rss_one (rs_if (rt_cmp oIsN wIsN (re_call G_is_word (hr.mono (by decide)) g_is_word k_is_word b_is_word (ra_cons (re_var 7) ra_nil)) (re_bl)) (rss_one (rs_ret (re_bl))) rss_nil)))
    (rss_cons (rs_asg (vs := [8]) (re_lst (ra_cons (re_tup (ra_cons (re_int) (ra_cons (re_bl) ra_nil))) (ra_cons (re_tup (ra_cons (re_int) (ra_cons (re_bl) ra_nil))) (ra_cons (re_tup (ra_cons (re_neg (re_int)) (ra_cons (re_bl) ra_nil))) (ra_cons (re_tup (ra_cons (re_int) (ra_cons (re_bl) ra_nil))) (ra_cons (re_tup (ra_cons (re_bl) (ra_cons (re_bl) ra_nil))) (ra_cons (re_tup (ra_cons (re_non) (ra_cons (re_bl) ra_nil))) ra_nil))))))) (rg_name 8 sc_law.nd))
    (rss_cons (rs_for (vs := [10, 9]) PassesOwn.never rfl (ri_any (re_op oAdd wAdd (re_var 8) (re_lst (ra_cons (re_tup (ra_cons (re_str) (ra_cons (re_bl) ra_nil))) ra_nil)))) (rg_tup rfl (rgs_cons (rg_name 9 sc_law.nd) (rgs_cons (rg_name 10 sc_law.nd) rgs_nil))) (rss_one (rs_if (rt_cmp (op_neD hr.units) wNe (re_callB oRepr wRepr z_repr (ra_cons (re_call G_is_date (hr.mono (by decide)) g_is_date k_is_date b_is_date (ra_cons (re_var 9) ra_nil)) ra_nil)) (re_callB oRepr wRepr z_repr (ra_cons (re_var 10) ra_nil))) (rss_one (rs_ret (re_bl))) rss_nil)))
    (rss_cons (rs_asg (vs := [11]) (re_op op_sub wSub (re_call G__law_draw (hr.mono (by decide)) g__law_draw k__law_draw b__law_draw (ra_cons (re_var 3) (ra_cons (re_op oMul wMul (re_int) (re_op op_pow wPow (re_int) (re_int))) ra_nil))) (re_op op_pow wPow (re_int) (re_int))) (rg_name 11 sc_law.nd))
    (rss_cons (rs_for (vs := [9]) PassesOwn.never rfl (ri_any (re_lst (ra_cons (re_op op_sub wSub (re_var 11) (re_int)) (ra_cons (re_var 11) (ra_cons (re_op oAdd wAdd (re_var 11) (re_int)) (ra_cons (re_op oAdd wAdd (re_var 11) (re_int)) (ra_cons (re_op oAdd wAdd (re_var 11) (re_int)) ra_nil))))))) (rg_name 9 sc_law.nd) (rss_one (rs_if (rt_cmp (op_neD hr.units) wNe (re_callB oRepr wRepr z_repr (ra_cons (re_call G_is_integer (hr.mono (by decide)) g_is_integer k_is_integer b_is_integer (ra_cons (re_var 9) (ra_cons (re_var 11) (ra_cons (re_op oAdd wAdd (re_var 11) (re_int)) ra_nil)))) ra_nil)) (re_callB oRepr wRepr z_repr (ra_cons (re_ch oLe wCmp oLe wCmp (re_var 11) (re_var 9) (re_op oAdd wAdd (re_var 11) (re_int))) ra_nil))) (rss_one (rs_ret (re_bl))) rss_nil)))
    (rss_one (rs_for (vs := [7]) PassesOwn.never rfl (ri_any (re_lst (ra_cons (re_non) (ra_cons (re_bl) (ra_cons (re_bl) (ra_cons (re_str) (ra_cons (re_tup (ra_cons (re_int) ra_nil)) ra_nil))))))) (rg_name 7 sc_law.nd) (rss_one (rs_if (rt_cmp oIsN wIsN (re_call G_is_integer (hr.mono (by decide)) g_is_integer k_is_integer b_is_integer (ra_cons (re_var 7) (ra_cons (re_int) (ra_cons (re_int) ra_nil)))) (re_bl)) (rss_one (rs_ret (re_bl))) rss_nil))))))))))))))))
    (rss_one (rs_ret (re_bl)))))
open TL (tl len_tl ext_tl tl_append tl_mk join_eq tl_join joinL)

theorem pool_eq : m__law_pool = cPool := rfl
theorem draw_eq : m__law_draw = cDraw := rfl
theorem pick_eq : m__law_pick = cPick := rfl
theorem word_eq : m_is_word = cIsWord := rfl
theorem int_eq : m_is_integer = cIsInteger := rfl
theorem date_eq : m_is_date = cIsDate := rfl
def sgn (c : Nat) : Bool := decide (97 ≤ c) && decide (c ≤ 122)
theorem abc : tl (Str.ofString "abcdefghijklmnopqrstuvwxyz") = (List.range 26).map (97 + ·) := by decide +kernel
theorem abc8 : tl (Str.ofString "abcdefgh") = [97, 98, 99, 100, 101, 102, 103, 104] := by decide +kernel
theorem abcl : (Str.ofString "abcdefghijklmnopqrstuvwxyz").length = 26 := by decide +kernel
theorem made {sc : List W} {k a b : Int} {N : Nat} {H : Hw} {r : SW} {P : W → Hw → Prop} (e : H[N]? = some (pl a b)) (ha : 0 ≤ a) (hb : 0 ≤ b)
    (q : ∀ (D : Nat) (cs : List Nat) (a b : Int) (h : Hw), 1 ≤ cs.length → cs.length ≤ 8 → cs.all sgn = true → 0 ≤ a → 0 ≤ b → h[D]? = some (.lst ((cs.map fun c => (⟨#[c]⟩ : Str)).map W.str)) → h[N]? = some (pl a b) → P (.ref D) h) :
    Ok (mLc (iRg1 (mBin fAdd (mC (.int 1)) (mCall cDraw (aCons (mVar 3) (aCons (mC (.int 8)) aNil))))) (gNm 12) tYs (mCall cPick (aCons (mVar 3) (aCons (mVar 1) aNil))) [12]
      (some (.rol sc) :: some (.str (Str.ofString "abcdefghijklmnopqrstuvwxyz")) :: some (.int k) :: some (.ref N) :: r)) H P := by
  have hN : N < H.length := (List.getElem?_eq_some_iff.mp e).1
  refine ok_mLc (fun i acc h' => ∃ (cs : List Nat) (a b : Int), cs.length = i ∧ cs.all sgn = true ∧ acc = (cs.map fun c => (⟨#[c]⟩ : Str)).map W.str ∧ 0 ≤ a ∧ 0 ≤ b ∧ h' = H.set N (pl a b) ++ [.lst acc]) H.length (ok_iRg1 ?_)
  walk_at "ok"
  refine draw_ok e ha hb (by decide) (by decide +kernel) fun m a1 b1 m0 m1 ha1 hb1 => ?_
  walk_at "ok"
  refine ⟨by unfold big; omega, by simp, ⟨[], a1, b1, rfl, rfl, rfl, ha1, hb1, rfl⟩, fun i acc h' hi q' hD => ?_, fun acc h' q' hD => ?_⟩
  · obtain ⟨cs, a2, b2, hl, hall, rfl, ha2, hb2, rfl⟩ := q'
    have hi' : i < (1 + m).toNat := hi
    refine ⟨.int (0 + i), by show some (if i < (1 + m).toNat then some (W.int (0 + i)) else none) = _; rw [if_pos hi'], ok_gNm (ok_rtn (okT ?_))⟩
    have e2 : (H.set N (pl a2 b2) ++ [O.lst ((cs.map fun c => (⟨#[c]⟩ : Str)).map W.str)])[N]? = some (pl a2 b2) := get_app (get_set e)
    refine ok_call (ok_aCons (ok_var (w := .ref N) rfl (ok_aCons (ok_var (w := .str (Str.ofString "abcdefghijklmnopqrstuvwxyz")) rfl (ok_aNil ?_)))))
    refine pick_ok (m := 26) e2 ha2 hb2 (by decide) (by decide) (ok_lenS (by decide +kernel) ⟨by rw [abcl], rfl⟩) fun j a3 b3 hj ha3 hb3 => ?_
    refine ok_ixS (c := 97 + j) (by decide +kernel) (atI_nat (by
      show (tl (Str.ofString "abcdefghijklmnopqrstuvwxyz"))[j]? = _
      rw [abc, List.getElem?_map, List.getElem?_range hj]
      rfl)) ?_
    refine ⟨?_, ?_, cs ++ [97 + j], a3, b3, by simp [hl], by
      rw [List.all_append, hall]
      simp [sgn]
      omega, by simp, ha3, hb3, ?_⟩
    · rw [get_set_ne (by omega)]
      exact hD
    · rw [List.length_map, List.length_map, hl]
      unfold lim
      omega
    · rw [List.set_append_left _ _ (by simpa using hN), List.set_set, List.set_append_right _ _ (by simp), List.length_set, Nat.sub_self]
      rfl
  · obtain ⟨cs, a2, b2, hl, hall, rfl, ha2, hb2, rfl⟩ := q'
    have hl' : cs.length = (1 + m).toNat := hl
    refine ⟨by show some (if (1 + m).toNat < (1 + m).toNat then _ else none) = _; rw [if_neg (Nat.lt_irrefl _)], ?_⟩
    exact q _ cs a2 b2 _ (by omega) (by omega) hall ha2 hb2 hD (get_app (get_set e))
theorem turns_lit {p : Nat} {xs : List W} {g : MG} {b : MS} {sw : SW} {h : Hw} {PF : Fl → Hw → Prop} (N : Nat) (pa pb : Int) (F : SW → Prop) (e : h[N]? = some (pl pa pb)) (hp : h[p]? = some (.lst xs)) (h0 : F sw) (G : Hw → Prop) (hG : G h) (Gm : ∀ h g, G h → G (h ++ g))
    (hs : ∀ x ∈ xs, ∀ sw h, F sw → G h → Ok (g x sw) h fun s h1 => h1 = h ∧ Ok (b s) h fun f h2 => ∃ s' g, f = .nx s' ∧ F s' ∧ h2 = h ++ g) (he : ∀ sw h, F sw → h[N]? = some (pl pa pb) → PF (.nx sw) h) : Ok (sFor (.lst p) g b 0 (xs.length + 1) sw) h PF :=
  ok_forLst (fun sw h => F sw ∧ h[N]? = some (pl pa pb) ∧ h[p]? = some (.lst xs) ∧ G h) ⟨h0, e, hp, hG⟩ (fun sw h q => q.2.2.1) (fun x hx sw h q => (hs x hx sw h q.1 q.2.2.2).imp fun s h1 o => by
    obtain ⟨rfl, o⟩ := o
    refine o.imp fun f h2 z => ?_
    obtain ⟨s', g, rfl, f1, rfl⟩ := z
    exact ⟨s', rfl, f1, get_app q.2.1, get_app q.2.2.1, Gm _ _ q.2.2.2⟩) fun sw h q => he sw h q.1 q.2.1
theorem isw_bad {y : Str} {c : Nat} (hc : c ∈ tl y) (hs : sgn c = false) : isw y = false := by
  rw [isw_tl]
  have : ((tl y).all fun c => decide (97 ≤ c) && decide (c ≤ 122)) = false := by
    rw [List.all_eq_false]
    exact ⟨c, hc, by rw [show (decide (97 ≤ c) && decide (c ≤ 122)) = sgn c from rfl, hs]; simp⟩
  rw [this]
  simp
theorem date_case {w : W} {d : Bool} {h : Hw} (o : Ok (cIsDate [w]) h fun v h1 => v = .bl d ∧ h1 = h) {s : SW} {P : Bool → Hw → Prop} (s9 : s[9]? = some (some w)) (s10 : s[10]? = some (some (.bl d))) (p : P false h) :
    Ok (tVal (mBin (fEq true) (mCall bRepr (aCons (mCall cIsDate (aCons (mVar 9) aNil)) aNil)) (mCall bRepr (aCons (mVar 10) aNil))) s) h P := by
  refine ok_tVal (ok_bin (ok_call (ok_aCons (ok_call (ok_aCons (ok_var s9 (ok_aNil (o.imp fun v h1 z => ?_))))))))
  obtain ⟨rfl, rfl⟩ := z
  refine ok_aNil (ok_reprB (ok_call (ok_aCons (ok_var s10 (ok_aNil (ok_reprB ?_))))))
  cases d with
  | true => exact ok_eq rfl rfl (by decide +kernel) ⟨false, rfl, p⟩
  | false => exact ok_eq rfl rfl (by decide +kernel) ⟨false, rfl, p⟩
theorem ne_repr {d : Bool} {h : Hw} {P : W → Hw → Prop} (p : P (.bl false) h) : Ok (fEq true (.str (if d then Str.ofString "True" else Str.ofString "False")) (.str (if d then Str.ofString "True" else Str.ofString "False"))) h P := by
  cases d with
  | true => exact ok_eq rfl rfl (by decide +kernel) p
  | false => exact ok_eq rfl rfl (by decide +kernel) p
theorem chain_ok {lo v : Int} {s : SW} {h : Hw} {P : W → Hw → Prop} (s11 : s[11]? = some (some (.int lo))) (s9 : s[9]? = some (some (.int v))) (p : P (.bl (decide (lo ≤ v ∧ v ≤ lo + 2))) h) : Ok (mCh fLe fLe (mVar 11) (mVar 9) (mBin fAdd (mVar 11) (mC (.int 2))) s) h P := by
  refine ok_ch (ok_var s11 (ok_var s9 (ok_cmpI ⟨_, rfl, fun h1 => ?_, fun h1 => ?_⟩)))
  · have h1' := of_decide_eq_true h1
    refine ok_bin (ok_var s11 (ok_c (ok_addI (ok_cmpI ?_))))
    rw [show decide (v ≤ lo + 2) = decide (lo ≤ v ∧ v ≤ lo + 2) by simp [h1']]
    exact p
  · have h1' := of_decide_eq_false h1
    rw [show false = decide (lo ≤ v ∧ v ≤ lo + 2) by simp [h1']]
    exact p
set_option maxHeartbeats 8000000 in
theorem law_true (ns : List Int) (hn : ns.length ≤ 63) : ∃ h', m_law [.rol (ns.map W.int)] [] = .ok (.bl true) h' := by
  suffices o : Ok (m_law [.rol (ns.map W.int)]) [] fun w _ => w = .bl true by
    obtain ⟨w, h', e, rfl⟩ := o
    exact ⟨h', e⟩
  unfold m_law
  rw [pool_eq, draw_eq, pick_eq, word_eq, int_eq, date_eq]
  refine ok_mFn' rfl (s0 := [some (.rol (ns.map W.int)), none, none, none, none, none, none, none, none, none, none, none, none]) rfl ?_
  refine ok_sSeq (ok_sAsg (ok_c (ok_gNm ?_)))
  refine ok_sSeq ?_
  refine ok_turns (ns := ns) (fun sw => ∃ r : SW, r.length = 11 ∧ sw = some (.rol (ns.map W.int)) :: some (.str (Str.ofString "abcdefghijklmnopqrstuvwxyz")) :: r) (by decide) (by decide) ⟨_, rfl, rfl⟩ rfl ?_ ?_
  rotate_left
  · intro sw h _
    walk_at "ok"
  intro k sw h hk hk2 hsw
  obtain ⟨r, hr, rfl⟩ := hsw
  match r, hr with
  | [r2, r3, r4, r5, r6, r7, r8, r9, r10, r11, r12], _ =>
  simp only [List.set_cons_succ, List.set_cons_zero]
  walk_at "ok"
  refine pool_ok hk (by omega) fun a b g ha hb => ?_
  have e : ((h ++ g) ++ [pl a b])[(h ++ g).length]? = some (pl a b) := by simp
  generalize (h ++ g).length = N at e ⊢
  generalize (h ++ g) ++ [pl a b] = H at e ⊢
  walk_at "ok"
  refine made e ha hb fun D cs a b H l1 l8 hall ha hb hD e => ?_
  -- the word
  refine ok_joinL hD (by
    have : ((cs.map fun c => (⟨#[c]⟩ : Str)).map Str.length).sum ≤ cs.length * 1 := by
      clear hD hall l1 l8
      induction cs with
      | nil => simp
      | cons c r ih =>
        simp only [List.map_cons, List.sum_cons, List.length_cons]
        have : (⟨#[c]⟩ : Str).length = 1 := rfl
        omega
    have e0 : (Str.ofString "").length = 0 := by decide +kernel
    rw [e0]
    unfold lim
    omega) ?_
  rw [join_signs]
  have hx : tl (⟨cs.toArray⟩ : Str) = cs := rfl
  generalize (⟨cs.toArray⟩ : Str) = x at hx ⊢
  have hxl : x.length = cs.length := by rw [len_tl, hx]
  have h8l : (Str.ofString "abcdefgh").length = 8 := by decide +kernel
  have hxw : isw x = true := by
    rw [isw_tl, hx, decide_eq_true l1, decide_eq_true l8]
    exact hall
  walk_at "ok"
  refine word_ok (by rw [hxl]; unfold lim; omega) fun g => ?_
  rw [hxw]
  have e := get_app (g := g) e
  generalize H ++ g = H at e ⊢
  walk_at "ok"
  refine okBF (by decide) ?_
  walk_at "ok"
  have hlapp : ∀ y z : Str, (y ++ z).length = y.length + z.length := fun y z => by rw [len_tl, tl_append, List.length_append, len_tl, len_tl]
  refine ok_addS (by rw [hxl]; unfold lim; omega) ?_
  walk_at "ok"
  refine ok_addS (by rw [hlapp, hxl, h8l]; unfold lim; omega) ?_
  walk_at "ok"
  refine word_ok (by rw [hlapp, hlapp, hxl, h8l]; unfold lim; omega) fun g => ?_
  have w2 : isw (x ++ x ++ Str.ofString "abcdefgh") = false := by
    rw [isw_tl, ← len_tl, hlapp, hlapp, hxl, h8l, decide_eq_false (show ¬ cs.length + cs.length + 8 ≤ 8 by omega)]
    simp
  rw [w2]
  have e := get_app (g := g) e
  generalize H ++ g = H at e ⊢
  walk_at "ok"
  refine okBF (by decide) ?_
  walk_at "ok"
  have t9 : ∀ n : Nat, n ≤ 9 → (tl (x ++ Str.ofString "abcdefgh")).take n = (tl (cutS (x ++ Str.ofString "abcdefgh") none (some (n : Int)))) := fun n _ => (tl_cut _ n).symm
  have lx8 : (x ++ Str.ofString "abcdefgh").length = cs.length + 8 := by rw [hlapp, hxl, h8l]
  refine ok_addS (by rw [hxl, h8l]; unfold lim; omega) ?_
  walk_at "ok"
  refine ok_slS (by rw [lx8]; unfold lim; omega) ?_
  walk_at "ok"
  have c9 : (cutS (x ++ Str.ofString "abcdefgh") none (some ((9 : Nat) : Int))).length = 9 := by rw [len_tl, tl_cut, List.length_take, ← len_tl, lx8]; omega
  have c8 : (cutS (x ++ Str.ofString "abcdefgh") none (some ((8 : Nat) : Int))).length = 8 := by rw [len_tl, tl_cut, List.length_take, ← len_tl, lx8]; omega
  refine word_ok (by rw [show (9 : Int) = ((9 : Nat) : Int) from rfl, c9]; decide) fun g => ?_
  have w3 : isw (cutS (x ++ Str.ofString "abcdefgh") none (some 9)) = false := by
    rw [isw_tl, ← len_tl, show (9 : Int) = ((9 : Nat) : Int) from rfl, c9]
    rfl
  rw [w3]
  have e := get_app (g := g) e
  generalize H ++ g = H at e ⊢
  walk_at "ok"
  refine okBF (by decide) ?_
  walk_at "ok"
  refine ok_addS (by rw [hxl, h8l]; unfold lim; omega) ?_
  walk_at "ok"
  refine ok_slS (by rw [lx8]; unfold lim; omega) ?_
  walk_at "ok"
  refine word_ok (by rw [show (8 : Int) = ((8 : Nat) : Int) from rfl, c8]; decide) fun g => ?_
  have w4 : isw (cutS (x ++ Str.ofString "abcdefgh") none (some 8)) = true := by
    rw [isw_tl, ← len_tl, show (8 : Int) = ((8 : Nat) : Int) from rfl, c8, tl_cut, tl_append, hx, abc8]
    have : ((cs ++ [97, 98, 99, 100, 101, 102, 103, 104]).take 8).all sgn = true := by
      rw [List.all_eq_true]
      intro c hc
      rcases List.mem_append.mp (List.mem_of_mem_take hc) with z | z
      · exact List.all_eq_true.mp hall c z
      · have : ∀ c ∈ [97, 98, 99, 100, 101, 102, 103, 104], sgn c = true := by decide
        exact this c z
    rw [show (fun c => decide (97 ≤ c) && decide (c ≤ 122)) = sgn from rfl, this]
    rfl
  rw [w4]
  have e := get_app (g := g) e
  generalize H ++ g = H at e ⊢
  walk_at "ok"
  refine okBF (by decide) ?_
  walk_at "ok"
  -- the place
  refine ok_lenS (by rw [hxl]; unfold lim; omega) ?_
  walk_at "ok"
  refine draw_ok e ha hb (by rw [hxl]; omega) (by
    rw [hxl, Int.natAbs_natCast]
    exact Nat.lt_of_le_of_lt (Nat.log2_le_self _) (by omega)) fun at_ a b at0 at1 ha hb => ?_
  have e := get_set (o := pl a b) e
  generalize H.set N (pl a b) = H at e ⊢
  obtain ⟨j, rfl⟩ := Int.eq_ofNat_of_zero_le at0
  have hj : j < cs.length := by omega
  walk_at "ok"
  refine ok_iAnyL ?_
  walk_at "ok"
  refine ⟨_, _, rfl, List.getElem?_concat_length, ?_⟩
  refine turns_lit N a b (fun sw => ∃ o, sw = [some (.rol (ns.map W.int)), some (.str (Str.ofString "abcdefghijklmnopqrstuvwxyz")), some (.int k), some (.ref N), some (.str x), some (.int (j : Int)), o, r7, r8, r9, r10, r11, r12]) (get_app e) List.getElem?_concat_length ⟨_, rfl⟩ (fun _ => True) trivial (fun _ _ z => z) (fun y hy sw h f _ => ?_) fun sw H f e => ?_
  · obtain ⟨o, rfl⟩ := f
    have hy' : ∃ c : Nat, y = .str ⟨#[c]⟩ ∧ sgn c = false := by
      simp only [List.mem_cons, List.not_mem_nil, or_false] at hy
      rcases hy with rfl | rfl | rfl | rfl | rfl | rfl
      · exact ⟨65, rfl, by decide⟩
      · exact ⟨32, rfl, by decide⟩
      · exact ⟨49, rfl, by decide⟩
      · exact ⟨45, rfl, by decide⟩
      · exact ⟨10, rfl, by decide⟩
      · exact ⟨95, rfl, by decide⟩
    obtain ⟨c, rfl, hc⟩ := hy'
    refine ok_gNm' (by simp only [List.set_cons_zero, List.set_cons_succ]; exact rfl) ⟨rfl, ?_⟩
    walk_at "ok"
    have l1 : (cutS x none (some (j : Int))).length ≤ 8 := by rw [len_tl, tl_cut, List.length_take, hx]; omega
    have l2 : (cutS x (some ((j : Int) + 1)) none).length ≤ 8 := by rw [show (j : Int) + 1 = ((j + 1 : Nat) : Int) from rfl, len_tl, tl_cut2, List.length_drop, hx]; omega
    have l3 : (⟨#[c]⟩ : Str).length = 1 := rfl
    refine ok_slS (by rw [hxl]; unfold lim; omega) ?_
    walk_at "ok"
    refine ok_addS (by unfold lim; omega) ?_
    walk_at "ok"
    refine ok_slS (by rw [hxl]; unfold lim; omega) ?_
    walk_at "ok"
    refine ok_addS (by rw [hlapp]; unfold lim; omega) ?_
    walk_at "ok"
    refine word_ok (by rw [hlapp, hlapp]; unfold lim; omega) fun g => ?_
    rw [isw_bad (c := c) (by rw [tl_append, tl_append]; simp [tl]) hc]
    walk_at "ok"
    refine okBF (by decide) ?_
    walk_at "ok"
    exact ⟨_, g, rfl, ⟨_, rfl⟩, rfl⟩
  · obtain ⟨o, rfl⟩ := f
    walk_at "ok"
    -- odd values
    refine ok_iAnyL ?_
    walk_at "ok"
    refine ⟨_, _, rfl, List.getElem?_concat_length, ?_⟩
    refine turns_lit N a b (fun sw => ∃ o o', sw = [some (.rol (ns.map W.int)), some (.str (Str.ofString "abcdefghijklmnopqrstuvwxyz")), some (.int k), some (.ref N), some (.str x), some (.int (j : Int)), o, o', r8, r9, r10, r11, r12]) (get_app (get_app (get_app e))) List.getElem?_concat_length ⟨_, _, rfl⟩
      (fun h => h[H.length]? = some (.lst [.str (Str.ofString "a")]) ∧ h[(H ++ [O.lst [.str (Str.ofString "a")]]).length]? = some (.dK [])) ⟨get_app (get_app List.getElem?_concat_length), get_app List.getElem?_concat_length⟩ (fun _ _ z => ⟨get_app z.1, get_app z.2⟩) (fun y hy sw h f G => ?_) fun sw H f e => ?_
    · obtain ⟨o, o', rfl⟩ := f
      refine ok_gNm' (by simp only [List.set_cons_zero, List.set_cons_succ]; exact rfl) ⟨rfl, ?_⟩
      walk_at "ok"
      have key : Ok (cIsWord [y]) h fun w h2 => w = .bl false ∧ ∃ g, h2 = h ++ g := by
        simp only [List.mem_cons, List.not_mem_nil, or_false] at hy
        rcases hy with rfl | rfl | rfl | rfl | rfl | rfl | rfl
        · refine word_ok (by decide +kernel) fun g => ⟨?_, g, rfl⟩
          rw [show isw (Str.ofString "") = false by decide +kernel]
        · exact odd_ok (n := "NoneType") rfl (by decide +kernel) ⟨rfl, [], by simp⟩
        · exact odd_ok (n := "int") rfl (by decide +kernel) ⟨rfl, [], by simp⟩
        · exact odd_ok (n := "bool") rfl (by decide +kernel) ⟨rfl, [], by simp⟩
        · exact odd_ok (n := "tuple") rfl (by decide +kernel) ⟨rfl, [], by simp⟩
        · exact odd_ok (n := "list") (by unfold tyName; simp only [G.1]) (by decide +kernel) ⟨rfl, [], by simp⟩
        · exact odd_ok (n := "dict") (by unfold tyName; simp only [G.2]) (by decide +kernel) ⟨rfl, [], by simp⟩
      refine key.imp fun w h2 z => ?_
      obtain ⟨rfl, g, rfl⟩ := z
      walk_at "ok"
      refine okBF (by decide) ?_
      walk_at "ok"
      exact ⟨_, g, rfl, ⟨_, _, rfl⟩, rfl⟩
    · obtain ⟨o, o', rfl⟩ := f
      walk_at "ok"
      -- dates
      refine ok_iAnyL ?_
      walk_at "ok"
      refine ok_addL (get_app List.getElem?_concat_length) List.getElem?_concat_length (by decide) ?_
      refine ⟨_, _, rfl, List.getElem?_concat_length, ?_⟩
      refine turns_lit N a b (fun sw => ∃ o o' o'' p q, sw = [some (.rol (ns.map W.int)), some (.str (Str.ofString "abcdefghijklmnopqrstuvwxyz")), some (.int k), some (.ref N), some (.str x), some (.int (j : Int)), o, o', o'', p, q, r11, r12]) (get_app (get_app (get_app e))) List.getElem?_concat_length ⟨_, _, _, _, _, rfl⟩ (fun _ => True) trivial (fun _ _ z => z) (fun y hy sw h f _ => ?_) fun sw H f e => ?_
      · obtain ⟨o, o', o'', p, q, rfl⟩ := f
        have key : ∃ (v : W) (d : Bool), y = .tup [v, .bl d] ∧ Ok (cIsDate [v]) h fun w h2 => w = .bl d ∧ h2 = h := by
          simp only [List.cons_append, List.nil_append, List.mem_cons, List.not_mem_nil, or_false] at hy
          rcases hy with rfl | rfl | rfl | rfl | rfl | rfl | rfl
          · exact ⟨_, _, rfl, date_ok ⟨rfl, rfl⟩⟩
          · exact ⟨_, _, rfl, date_ok ⟨rfl, rfl⟩⟩
          · exact ⟨_, _, rfl, date_ok ⟨rfl, rfl⟩⟩
          · exact ⟨_, _, rfl, date_ok ⟨rfl, rfl⟩⟩
          · exact ⟨_, _, rfl, nodate_ok (n := "bool") rfl (.inr (by decide +kernel)) ⟨rfl, rfl⟩⟩
          · exact ⟨_, _, rfl, nodate_ok (n := "NoneType") rfl (.inl (by decide +kernel)) ⟨rfl, rfl⟩⟩
          · exact ⟨_, _, rfl, nodate_ok (n := "str") rfl (.inl (by decide +kernel)) ⟨rfl, rfl⟩⟩
        obtain ⟨v, d, rfl, key⟩ := key
        refine ok_gTu rfl (ok_gsCons (ok_gNm' (by simp only [List.set_cons_zero, List.set_cons_succ]; exact rfl) (ok_gsCons (ok_gNm' (by simp only [List.set_cons_zero, List.set_cons_succ]; exact rfl) (ok_gsNil ⟨rfl, ?_⟩)))))
        refine ok_sIf (date_case key rfl rfl (okF ?_))
        walk_at "ok"
        exact ⟨_, [], rfl, ⟨_, _, _, _, _, rfl⟩, by simp⟩
      · obtain ⟨o, o', o'', p, q, rfl⟩ := f
        walk_at "ok"
        refine ok_powI (by decide) ?_
        walk_at "ok"
        refine ok_mulI (mulOk_l (by decide) (by decide)) ?_
        walk_at "ok"
        refine draw_ok e ha hb (by decide) (by decide +kernel) fun lo a b _ _ ha hb => ?_
        have e := get_set (o := pl a b) e
        generalize H.set N (pl a b) = H at e ⊢
        walk_at "ok"
        refine ok_powI (by decide) ?_
        walk_at "ok"
        generalize lo - (10 : Int) ^ (30 : Int).toNat = lo
        refine ok_iAnyL ?_
        walk_at "ok"
        refine ⟨_, _, rfl, List.getElem?_concat_length, ?_⟩
        refine turns_lit N a b (fun sw => ∃ o o' o'' p q, sw = [some (.rol (ns.map W.int)), some (.str (Str.ofString "abcdefghijklmnopqrstuvwxyz")), some (.int k), some (.ref N), some (.str x), some (.int (j : Int)), o, o', o'', p, q, some (.int lo), r12]) (get_app e) List.getElem?_concat_length ⟨_, _, _, _, _, rfl⟩ (fun _ => True) trivial (fun _ _ z => z) (fun y hy sw h f _ => ?_) fun sw H f e => ?_
        · obtain ⟨o, o', o'', p, q, rfl⟩ := f
          have key : ∃ v : Int, y = .int v := by
            simp only [List.mem_cons, List.not_mem_nil, or_false] at hy
            rcases hy with rfl | rfl | rfl | rfl | rfl <;> exact ⟨_, rfl⟩
          obtain ⟨v, rfl⟩ := key
          refine ok_gNm' (by simp only [List.set_cons_zero, List.set_cons_succ]; exact rfl) ⟨rfl, ?_⟩
          walk_at "ok"
          refine int_ok (ok_aNil (ok_reprB (ok_call (ok_aCons (chain_ok rfl rfl (ok_aNil (ok_reprB (ne_repr ⟨false, rfl, okF ?_⟩))))))))
          walk_at "ok"
          exact ⟨_, [], rfl, ⟨_, _, _, _, _, rfl⟩, by simp⟩
        · obtain ⟨o, o', o'', p, q, rfl⟩ := f
          walk_at "ok"
          refine ok_iAnyL ?_
          walk_at "ok"
          refine ⟨_, _, rfl, List.getElem?_concat_length, ?_⟩
          refine turns_lit N a b (fun sw => ∃ o o' o'' p q, sw = [some (.rol (ns.map W.int)), some (.str (Str.ofString "abcdefghijklmnopqrstuvwxyz")), some (.int k), some (.ref N), some (.str x), some (.int (j : Int)), o, o', o'', p, q, some (.int lo), r12]) (get_app e) List.getElem?_concat_length ⟨_, _, _, _, _, rfl⟩ (fun _ => True) trivial (fun _ _ z => z) (fun y hy sw h f _ => ?_) fun sw H f e => ?_
          · obtain ⟨o, o', o'', p, q, rfl⟩ := f
            have key : Ok (cIsInteger [y, .int 0, .int 5]) h fun w h2 => w = .bl false ∧ h2 = h := by
              simp only [List.mem_cons, List.not_mem_nil, or_false] at hy
              rcases hy with rfl | rfl | rfl | rfl | rfl
              · exact noint_ok (n := "NoneType") rfl (.inl (by decide +kernel)) ⟨rfl, rfl⟩
              · exact noint_ok (n := "bool") rfl (.inr (by decide +kernel)) ⟨rfl, rfl⟩
              · exact noint_ok (n := "bool") rfl (.inr (by decide +kernel)) ⟨rfl, rfl⟩
              · exact noint_ok (n := "str") rfl (.inl (by decide +kernel)) ⟨rfl, rfl⟩
              · exact noint_ok (n := "tuple") rfl (.inl (by decide +kernel)) ⟨rfl, rfl⟩
            refine ok_gNm' (by simp only [List.set_cons_zero, List.set_cons_succ]; exact rfl) ⟨rfl, ?_⟩
            walk_at "ok"
            refine key.imp fun w h2 z => ?_
            obtain ⟨rfl, rfl⟩ := z
            walk_at "ok"
            refine okBF (by decide) ?_
            walk_at "ok"
            exact ⟨_, [], rfl, ⟨_, _, _, _, _, rfl⟩, by simp⟩
          · obtain ⟨o, o', o'', p, q, rfl⟩ := f
            exact ⟨_, rfl, _, rfl, rfl⟩
theorem all_mk {l : PySem.W.OpenLaw} {w : World} {K : PySem.W.Frag} {h : Heap} {mg : Str → Option Value} {fa : Addr} (X : K.In h) (G : h.Ns mainGlobals mg) (hfa : mg "law" = some (.ref fa))
    {f0 : Addr} {od0 an0 : Option Addr} {sl0 : Array (Option Value)} {oc0 kV0 dc0 pm0 cd0 ct0 : Value}
    (a0 : PySem.W.nsIn K mainGlobals "is_integer" = some (some (.ref f0))) (l0 : K.lookup f0 = some ⟨oc0, od0, .func (PySem.W.fnOf "is_integer" "is_integer" (defArgs s_is_integer) (defBody s_is_integer) (defScope s_is_integer) .none kV0 dc0 pm0 an0 cd0 ct0), sl0⟩) (c0 : PySem.W.codeIn K cd0 "is_integer" = true) (k0 : PySem.W.keepIn K (.ref f0) = true)
    {f1 : Addr} {od1 an1 : Option Addr} {sl1 : Array (Option Value)} {oc1 kV1 dc1 pm1 cd1 ct1 : Value}
    (a1 : PySem.W.nsIn K mainGlobals "is_word" = some (some (.ref f1))) (l1 : K.lookup f1 = some ⟨oc1, od1, .func (PySem.W.fnOf "is_word" "is_word" (defArgs s_is_word) (defBody s_is_word) (defScope s_is_word) .none kV1 dc1 pm1 an1 cd1 ct1), sl1⟩) (c1 : PySem.W.codeIn K cd1 "is_word" = true) (k1 : PySem.W.keepIn K (.ref f1) = true)
    {f2 : Addr} {od2 an2 : Option Addr} {sl2 : Array (Option Value)} {oc2 kV2 dc2 pm2 cd2 ct2 : Value}
    (a2 : PySem.W.nsIn K mainGlobals "is_date" = some (some (.ref f2))) (l2 : K.lookup f2 = some ⟨oc2, od2, .func (PySem.W.fnOf "is_date" "is_date" (defArgs s_is_date) (defBody s_is_date) (defScope s_is_date) .none kV2 dc2 pm2 an2 cd2 ct2), sl2⟩) (c2 : PySem.W.codeIn K cd2 "is_date" = true) (k2 : PySem.W.keepIn K (.ref f2) = true)
    {f3 : Addr} {od3 an3 : Option Addr} {sl3 : Array (Option Value)} {oc3 kV3 dc3 pm3 cd3 ct3 : Value}
    (a3 : PySem.W.nsIn K mainGlobals "_law_pool" = some (some (.ref f3))) (l3 : K.lookup f3 = some ⟨oc3, od3, .func (PySem.W.fnOf "_law_pool" "_law_pool" (defArgs s__law_pool) (defBody s__law_pool) (defScope s__law_pool) .none kV3 dc3 pm3 an3 cd3 ct3), sl3⟩) (c3 : PySem.W.codeIn K cd3 "_law_pool" = true) (k3 : PySem.W.keepIn K (.ref f3) = true)
    {f4 : Addr} {od4 an4 : Option Addr} {sl4 : Array (Option Value)} {oc4 kV4 dc4 pm4 cd4 ct4 : Value}
    (a4 : PySem.W.nsIn K mainGlobals "_law_draw" = some (some (.ref f4))) (l4 : K.lookup f4 = some ⟨oc4, od4, .func (PySem.W.fnOf "_law_draw" "_law_draw" (defArgs s__law_draw) (defBody s__law_draw) (defScope s__law_draw) .none kV4 dc4 pm4 an4 cd4 ct4), sl4⟩) (c4 : PySem.W.codeIn K cd4 "_law_draw" = true) (k4 : PySem.W.keepIn K (.ref f4) = true)
    {f5 : Addr} {od5 an5 : Option Addr} {sl5 : Array (Option Value)} {oc5 kV5 dc5 pm5 cd5 ct5 : Value}
    (a5 : PySem.W.nsIn K mainGlobals "_law_pick" = some (some (.ref f5))) (l5 : K.lookup f5 = some ⟨oc5, od5, .func (PySem.W.fnOf "_law_pick" "_law_pick" (defArgs s__law_pick) (defBody s__law_pick) (defScope s__law_pick) .none kV5 dc5 pm5 an5 cd5 ct5), sl5⟩) (c5 : PySem.W.codeIn K cd5 "_law_pick" = true) (k5 : PySem.W.keepIn K (.ref f5) = true)
    {f6 : Addr} {od6 an6 : Option Addr} {sl6 : Array (Option Value)} {oc6 kV6 dc6 pm6 cd6 ct6 : Value}
    (a6 : PySem.W.nsIn K mainGlobals "law" = some (some (.ref f6))) (l6 : K.lookup f6 = some ⟨oc6, od6, .func (PySem.W.fnOf "law" "law" (defArgs s_law) (defBody s_law) (defScope s_law) .none kV6 dc6 pm6 an6 cd6 ct6), sl6⟩) (c6 : PySem.W.codeIn K cd6 "law" = true) (k6 : PySem.W.keepIn K (.ref f6) = true)
    (z_isinstance : PySem.W.nsIn K mainGlobals "isinstance" = some none)
    (z_bool : PySem.W.nsIn K mainGlobals "bool" = some none)
    (z_int : PySem.W.nsIn K mainGlobals "int" = some none)
    (z_len : PySem.W.nsIn K mainGlobals "len" = some none)
    (z_str : PySem.W.nsIn K mainGlobals "str" = some none)
    (z_all : PySem.W.nsIn K mainGlobals "all" = some none)
    (z_sum : PySem.W.nsIn K mainGlobals "sum" = some none)
    (z_abs : PySem.W.nsIn K mainGlobals "abs" = some none)
    (z_range : PySem.W.nsIn K mainGlobals "range" = some none)
    (z_max : PySem.W.nsIn K mainGlobals "max" = some none)
    (z_min : PySem.W.nsIn K mainGlobals "min" = some none)
    (z_repr : PySem.W.nsIn K mainGlobals "repr" = some none)
    {t_LONGEST_WORD : Tok} (c_LONGEST_WORD : PySem.W.nsIn K mainGlobals "LONGEST_WORD" = some (some (.int 8 t_LONGEST_WORD)))
    {t_LETTERS : Tok} (c_LETTERS : PySem.W.nsIn K mainGlobals "LETTERS" = some (some (.str "abcdefghijklmnopqrstuvwxyz" t_LETTERS)))
    {t_LAST_DATE : Tok} (c_LAST_DATE : PySem.W.nsIn K mainGlobals "LAST_DATE" = some (some (.int 9999 t_LAST_DATE)))
    : ∃ fd : FuncData, (∀ (s : Shared) (v : Value), BindsTo s fd ⟨[v], []⟩ [("_law_script", v)]) ∧ ∀ base : Heap, K.In base → base.Ns mainGlobals mg → FnOk l.prog w K mg base CX0 3 fa fd ["_law_script"] (spLaw K) := by
  have e := hfa.symm.trans (PySem.W.mg_of X G a6)
  cases e
  have F0 := fun_mk (st := s_is_integer) l0 c0 k0
  have F1 := fun_mk (st := s_is_word) l1 c1 k1
  have F2 := fun_mk (st := s_is_date) l2 c2 k2
  have F3 := fun_mk (st := s__law_pool) l3 c3 k3
  have F4 := fun_mk (st := s__law_draw) l4 c4 k4
  have F5 := fun_mk (st := s__law_pick) l5 c5 k5
  have F6 := fun_mk (st := s_law) l6 c6 k6
  have b0 := F0.binds (ps := ["value", "lowest", "highest"]) fun _ _ _ _ _ _ us hl => match us, hl with | [_, _, _], _ => rfl
  have b1 := F1.binds (ps := ["value"]) fun _ _ _ _ _ _ us hl => match us, hl with | [_], _ => rfl
  have b2 := F2.binds (ps := ["value"]) fun _ _ _ _ _ _ us hl => match us, hl with | [_], _ => rfl
  have b3 := F3.binds (ps := ["_law_script", "_law_k"]) fun _ _ _ _ _ _ us hl => match us, hl with | [_, _], _ => rfl
  have b4 := F4.binds (ps := ["_law_pool_here", "_law_many"]) fun _ _ _ _ _ _ us hl => match us, hl with | [_, _], _ => rfl
  have b5 := F5.binds (ps := ["_law_pool_here", "_law_row"]) fun _ _ _ _ _ _ us hl => match us, hl with | [_, _], _ => rfl
  refine ⟨PySem.W.fnOf "law" "law" (defArgs s_law) (defBody s_law) (defScope s_law) .none kV6 dc6 pm6 an6 cd6 ct6, fun s v => .of_eq rfl, fun base _ _ => ?_⟩
  have O0 := ok_is_integer (P := l.prog) (w := w) (base := base) (cm := fun _ => 0) F0 (PySem.W.mg_none_of X G z_isinstance) (PySem.W.mg_none_of X G z_bool) (PySem.W.mg_none_of X G z_int)
  have O1 := ok_is_word (P := l.prog) (w := w) (base := base) (cm := fun _ => 0) F1 (PySem.W.mg_none_of X G z_len) (PySem.W.mg_none_of X G z_isinstance) (PySem.W.mg_none_of X G z_str) (PySem.W.mg_none_of X G z_all) (PySem.W.mg_of X G c_LONGEST_WORD) (PySem.W.mg_of X G c_LETTERS)
  have O2 := ok_is_date (P := l.prog) (w := w) (base := base) (cm := fun _ => 0) F2 (PySem.W.mg_of X G c_LAST_DATE) O0 (PySem.W.mg_of X G a0) k0 b0
  have O3 := ok__law_pool (P := l.prog) (w := w) (base := base) (cm := fun _ => 0) F3 (PySem.W.mg_none_of X G z_len) (PySem.W.mg_none_of X G z_sum) (PySem.W.mg_none_of X G z_abs) (PySem.W.mg_none_of X G z_int)
  have O4 := ok__law_draw (P := l.prog) (w := w) (base := base) (cm := fun _ => 0) F4 (PySem.W.mg_none_of X G z_int)
  have O5 := ok__law_pick (P := l.prog) (w := w) (base := base) (cm := fun _ => 0) F5 (PySem.W.mg_none_of X G z_len) O4 (PySem.W.mg_of X G a4) k4 b4
  have O6 := ok_law (P := l.prog) (w := w) (base := base) (cm := fun _ => 0) F6 (PySem.W.mg_none_of X G z_range) (PySem.W.mg_none_of X G z_max) (PySem.W.mg_none_of X G z_min) (PySem.W.mg_none_of X G z_len) (PySem.W.mg_none_of X G z_repr) O3 (PySem.W.mg_of X G a3) k3 b3 O4 (PySem.W.mg_of X G a4) k4 b4 O5 (PySem.W.mg_of X G a5) k5 b5 O1 (PySem.W.mg_of X G a1) k1 b1 O2 (PySem.W.mg_of X G a2) k2 b2 O0 (PySem.W.mg_of X G a0) k0 b0
  exact law_imp O6 law_true
end ThisLaw
open PySem PySem.W PyProof.Rows
set_option maxHeartbeats 0 in
theorem PySem.Challenge.cw_standinparts_k01_words_and_dates_holds : PySem.Challenge.rw_standinparts_k01_words_and_dates.Holds := by
  w_on; o_law; k_head; (case hw => w_witness2)
  k_fill
  refine L2.walk_of (l := PySem.Challenge.rw_standinparts_k01_words_and_dates) (n := 63) (k := 3) (x := "_law_script") (CX := fun _ => L2.CX0) (sp := fun w => EL.spLaw _) rfl (by decide) rfl ⟨rfl, by decide, by decide⟩ (fun w h Y => PySem.W.kIn_of Y) ?F (fun _ H a ns hl hO hS => ⟨a, ns, rfl, hO, hS, hl, fun _ => rfl⟩) (fun _ _ _ _ _ h => h)
  case F =>
    intro w mg fa h KX G hmg
    refine' ThisLaw.all_mk KX G hmg ?a0 ?l0 ?c0 ?k0 ?a1 ?l1 ?c1 ?k1 ?a2 ?l2 ?c2 ?k2 ?a3 ?l3 ?c3 ?k3 ?a4 ?l4 ?c4 ?k4 ?a5 ?l5 ?c5 ?k5 ?a6 ?l6 ?c6 ?k6 ?z_isinstance ?z_bool ?z_int ?z_len ?z_str ?z_all ?z_sum ?z_abs ?z_range ?z_max ?z_min ?z_repr ?c_LONGEST_WORD ?c_LETTERS ?c_LAST_DATE
    (case a0 => k_is); (case l0 => k_is); (case c0 => k_is); (case k0 => k_is); (case a1 => k_is); (case l1 => k_is); (case c1 => k_is); (case k1 => k_is); (case a2 => k_is); (case l2 => k_is); (case c2 => k_is); (case k2 => k_is); (case a3 => k_is); (case l3 => k_is); (case c3 => k_is); (case k3 => k_is); (case a4 => k_is); (case l4 => k_is); (case c4 => k_is); (case k4 => k_is); (case a5 => k_is); (case l5 => k_is); (case c5 => k_is); (case k5 => k_is); (case a6 => k_is); (case l6 => k_is); (case c6 => k_is); (case k6 => k_is); (case z_isinstance => k_is); (case z_bool => k_is); (case z_int => k_is); (case z_len => k_is); (case z_str => k_is); (case z_all => k_is); (case z_sum => k_is); (case z_abs => k_is); (case z_range => k_is); (case z_max => k_is); (case z_min => k_is); (case z_repr => k_is); (case c_LONGEST_WORD => k_is); (case c_LETTERS => k_is); (case c_LAST_DATE => k_is)
