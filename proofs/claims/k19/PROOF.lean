import PyProof.Rows.All
import Wide.All
import OpenK.AllK
import Wide.FinOn
import HandS.ForMost
import HandS.Wide
import HandS.SetKeys
import HandS.Star
import HandS.ExcField
import HandS.ExcInit
import HandS.Style
import HandS.IsInst
import HandS.SortInts
import HandS.Iter
import KE.GoesEnum
import KE.GoesMore
import PyProof.EnumMake
import HandS.Deep
import HandS.RaiseMore
import HandS.Defaults
import HandS.OwnEq
import KE.KOpsOwn
import OpenK.KMeth
import OpenK.KOps
import HandS.NamedTupSort
import PyProof.InstEq
import HandS.WordsDict
import HandS.DictComp
import KE.KEqDict
import PyProof.Rows.StrMeet
import HandS.Set
import HandS.Strs
import HandS.More
import KE.RegKIsAll
import HandS.Exc
import HandS.ExcOwn
import HandS.TryMany
import HandS.ExcIs
import HandS.WordsExc
import KE.KExcInit
import PyProof.ExcBaseAll.LookupError
import KE.KExcIs
import HandS.Replace
import PyProof.ReprRoads
import HandS.Ends
import PyProof.TwoTypes
import PyProof.StrOps2
import PySem.Challenge.RW_standinparts_k19_errors
set_option Elab.async false
set_option linter.all false
set_option maxRecDepth 100000
/-! EL: a small pure reading of the program's text. A value is a tree, an object a place in a list; each rule says that a piece of text does what a plain function does. -/
namespace EL
open PySem PySem.Spec L2
open PyProof.Rows hiding St

inductive W where
  | non | bl (b : Bool) | int (i : Int) | str (x : Str) | ref (i : Nat) | tup (xs : List W) | rol (xs : List W)
inductive O where
  | lst (xs : List W)
  | ins (C : Str) (fs : List (Str × W))
  | dK (kvs : List (Key × W))
  | dF (kvs : List (Key × W))
  | st (ks : List Str)
  | xc (C : Str) (f : Str) (w : W)
/-- where the classes lie; whose world it is -/
structure Cm where
  f : Str → Addr
  P : Program
  w : World
instance : CoeFun Cm (fun _ => Str → Addr) := ⟨Cm.f⟩
def inSt (ks : List Str) : Key → Bool := fun k => match k with
  | .inr x => ks.contains x
  | .inl _ => false
abbrev Hw := List O
inductive R (α : Type) where
  | ok (a : α) (h : Hw)
  | ex (c : Str) (v : W) (h : Hw)
  | no
abbrev M (α : Type) := Hw → R α
def bnd {α β : Type} (m : M α) (f : α → M β) : M β := fun h => match m h with
  | .ok a h' => f a h'
  | .ex c v h' => .ex c v h'
  | .no => .no
def rtn {α : Type} (a : α) : M α := fun h => .ok a h
def bad {α : Type} : M α := fun _ => .no
theorem bnd_ok {α β : Type} {m : M α} {f : α → M β} {h h' : Hw} {b : β} (e : bnd m f h = .ok b h') : ∃ a h1, m h = .ok a h1 ∧ f a h1 = .ok b h' := by
  unfold bnd at e
  split at e
  · exact ⟨_, _, by assumption, e⟩
  · cases e
  · cases e
abbrev SW := List (Option W)
abbrev ME := SW → M W
abbrev MT := SW → M Bool
abbrev MA := SW → M (List W)
inductive Fl where
  | nx (s : SW) | rt (w : W) | bk (s : SW) | ct (s : SW)
abbrev MS := SW → M Fl
abbrev MG := W → SW → M SW

mutual
def W.beq : W → W → Bool
  | .non, .non => true
  | .bl a, .bl b => a == b
  | .int a, .int b => a == b
  | .str a, .str b => a == b
  | .ref a, .ref b => a == b
  | .tup a, .tup b => W.beqL a b
  | .rol a, .rol b => W.beqL a b
  | _, _ => false
def W.beqL : List W → List W → Bool
  | [], [] => true
  | x :: xs, y :: ys => W.beq x y && W.beqL xs ys
  | _, _ => false
end
mutual
theorem W.beq_eq : ∀ {a b : W}, W.beq a b = true → a = b
  | .non, b, h => by cases b <;> first | rfl | (simp [W.beq] at h)
  | .bl a, b, h => by cases b <;> simp [W.beq] at h; simp [h]
  | .int a, b, h => by cases b <;> simp [W.beq] at h; simp [h]
  | .str a, b, h => by cases b <;> simp [W.beq] at h; simp [h]
  | .ref a, b, h => by cases b <;> simp [W.beq] at h; simp [h]
  | .tup a, b, h => by
    cases b <;> simp [W.beq] at h
    rw [W.beqL_eq h]
  | .rol a, b, h => by
    cases b <;> simp [W.beq] at h
    rw [W.beqL_eq h]
theorem W.beqL_eq : ∀ {a b : List W}, W.beqL a b = true → a = b
  | [], b, h => by cases b <;> first | rfl | (simp [W.beqL] at h)
  | x :: xs, b, h => by
    cases b with
    | nil => simp [W.beqL] at h
    | cons y ys =>
      simp only [W.beqL, Bool.and_eq_true] at h
      rw [W.beq_eq h.1, W.beqL_eq h.2]
end
mutual
theorem W.beq_refl : ∀ a : W, W.beq a a = true
  | .non => rfl
  | .bl a => by simp [W.beq]
  | .int a => by simp [W.beq]
  | .str a => by simp [W.beq]
  | .ref a => by simp [W.beq]
  | .tup a => by simp only [W.beq]; exact W.beqL_refl a
  | .rol a => by simp only [W.beq]; exact W.beqL_refl a
theorem W.beqL_refl : ∀ a : List W, W.beqL a a = true
  | [] => rfl
  | x :: xs => by simp only [W.beqL, W.beq_refl x, W.beqL_refl xs, Bool.and_self]
end

/-! ### how a tree lies in the heap -/
/-- a list that never changes: frozen or written -/
def SqP (K : PySem.W.Frag) (H : Hp) (a : Addr) (xs : List V) : Prop :=
  (∃ o, H a = some (.frz o (.lst xs))) ∨
    ∃ (o : Obj) (its : Array Value) (n : Nat), K.lookup a = some o ∧ o.cls = .type "list" ∧ o.dict = none ∧ o.data = .seq its n ∧ its.size ≤ sizeLine ∧ Vals xs its.toList
theorem SqP.sq {K : PySem.W.Frag} {H : Hp} {a : Addr} {xs : List V} (h : SqP K H a xs) : SqL K H a xs := by
  rcases h with h | h
  · exact .inl (.inr h)
  · exact .inr h
mutual
inductive Rel (K : PySem.W.Frag) (ρ : List Addr) (H : Hp) : W → V → Prop where
  | non : Rel K ρ H .non .non
  | bl (b : Bool) : Rel K ρ H (.bl b) (.bl b)
  | int (i : Int) : Rel K ρ H (.int i) (.int i)
  | str (x : Str) : Rel K ρ H (.str x) (.str x)
  | ref {i : Nat} {a : Addr} (h : ρ[i]? = some a) : Rel K ρ H (.ref i) (.ref a)
  | tup {ws : List W} {vs : List V} {a : Addr} (h : SqT K H a vs) (r : Rels K ρ H ws vs) : Rel K ρ H (.tup ws) (.ref a)
  | rol {ws : List W} {vs : List V} {a : Addr} (h : SqP K H a vs) (r : Rels K ρ H ws vs) : Rel K ρ H (.rol ws) (.ref a)
inductive Rels (K : PySem.W.Frag) (ρ : List Addr) (H : Hp) : List W → List V → Prop where
  | nil : Rels K ρ H [] []
  | cons {w : W} {v : V} {ws : List W} {vs : List V} (r : Rel K ρ H w v) (t : Rels K ρ H ws vs) : Rels K ρ H (w :: ws) (v :: vs)
end
structure Le (K : PySem.W.Frag) (ρ : List Addr) (H : Hp) (ρ' : List Addr) (H' : Hp) : Prop where
  pre : ρ <+: ρ'
  sq : ∀ a vs, SqT K H a vs → SqT K H' a vs
  sl : ∀ a vs, SqP K H a vs → SqP K H' a vs
  fz : ∀ a o u, H a = some (.frz o u) → H' a = some (.frz o u)
  xd : ∀ a fs, H a = some (.xd fs) → H' a = some (.xd fs)
theorem pre_get {ρ ρ' : List Addr} (h : ρ <+: ρ') {i : Nat} {a : Addr} (e : ρ[i]? = some a) : ρ'[i]? = some a := by
  obtain ⟨t, rfl⟩ := h
  obtain ⟨hi, _⟩ := List.getElem?_eq_some_iff.mp e
  rw [List.getElem?_append_left hi]
  exact e
section
variable {K : PySem.W.Frag} {ρ ρ' ρ'' : List Addr} {H H' H'' : Hp}
theorem Le.refl : Le K ρ H ρ H := ⟨List.prefix_refl _, fun _ _ h => h, fun _ _ h => h, fun _ _ _ h => h, fun _ _ h => h⟩
theorem Le.trans (a : Le K ρ H ρ' H') (b : Le K ρ' H' ρ'' H'') : Le K ρ H ρ'' H'' :=
  ⟨a.pre.trans b.pre, fun x vs h => b.sq x vs (a.sq x vs h), fun x vs h => b.sl x vs (a.sl x vs h), fun x o u h => b.fz x o u (a.fz x o u h), fun x f h => b.xd x f (a.xd x f h)⟩
mutual
theorem Rel.mono (l : Le K ρ H ρ' H') : ∀ {w : W} {v : V}, Rel K ρ H w v → Rel K ρ' H' w v
  | _, _, .non => .non
  | _, _, .bl b => .bl b
  | _, _, .int i => .int i
  | _, _, .str x => .str x
  | _, _, .ref h => .ref (pre_get l.pre h)
  | _, _, .tup h r => .tup (l.sq _ _ h) (Rels.mono l r)
  | _, _, .rol h r => .rol (l.sl _ _ h) (Rels.mono l r)
theorem Rels.mono (l : Le K ρ H ρ' H') : ∀ {ws : List W} {vs : List V}, Rels K ρ H ws vs → Rels K ρ' H' ws vs
  | _, _, .nil => .nil
  | _, _, .cons r t => .cons (Rel.mono l r) (Rels.mono l t)
end
theorem Rels.length : ∀ {ws : List W} {vs : List V}, Rels K ρ H ws vs → ws.length = vs.length
  | _, _, .nil => rfl
  | _, _, .cons _ t => by rw [List.length_cons, List.length_cons, Rels.length t]
theorem Rels.get : ∀ {ws : List W} {vs : List V} {i : Nat} {w : W}, Rels K ρ H ws vs → ws[i]? = some w → ∃ v, vs[i]? = some v ∧ Rel K ρ H w v
  | _, _, _, _, .nil, e => by simp at e
  | _, _, 0, _, .cons r _, e => by
    simp only [List.getElem?_cons_zero, Option.some.injEq] at e
    subst e
    exact ⟨_, rfl, r⟩
  | _, _, i + 1, w, .cons _ t, e => by
    obtain ⟨v, h1, h2⟩ := Rels.get (i := i) (w := w) t (by simpa using e)
    exact ⟨v, by simpa using h1, h2⟩
theorem Rels.append : ∀ {ws us : List W} {vs ts : List V}, Rels K ρ H ws vs → Rels K ρ H us ts → Rels K ρ H (ws ++ us) (vs ++ ts)
  | _, _, _, _, .nil, s => s
  | _, _, _, _, .cons r t, s => .cons r (Rels.append t s)
theorem Rels.take (n : Nat) : ∀ {ws : List W} {vs : List V}, Rels K ρ H ws vs → Rels K ρ H (ws.take n) (vs.take n) := by
  intro ws vs r
  induction n generalizing ws vs with
  | zero => exact .nil
  | succ n ih =>
    cases r with
    | nil => exact .nil
    | cons r t => exact .cons r (ih t)
theorem Rels.drop (n : Nat) : ∀ {ws : List W} {vs : List V}, Rels K ρ H ws vs → Rels K ρ H (ws.drop n) (vs.drop n) := by
  intro ws vs r
  induction n generalizing ws vs with
  | zero => exact r
  | succ n ih =>
    cases r with
    | nil => exact .nil
    | cons r t => exact ih t
theorem Rels.set {w : W} {v : V} (q : Rel K ρ H w v) : ∀ {ws : List W} {vs : List V} (i : Nat), Rels K ρ H ws vs → Rels K ρ H (ws.set i w) (vs.set i v)
  | _, _, _, .nil => .nil
  | _, _, 0, .cons _ t => .cons q t
  | _, _, i + 1, .cons r t => .cons r (Rels.set q i t)
theorem Rels.ints : ∀ (ns : List Int), Rels K ρ H (ns.map W.int) (ns.map V.int)
  | [] => .nil
  | n :: r => .cons (.int n) (Rels.ints r)
theorem Rels.of_ints : ∀ {ns : List Int} {vs : List V}, Rels K ρ H (ns.map W.int) vs → vs = ns.map V.int
  | [], _, .nil => rfl
  | n :: r, _, .cons q t => by
    cases q
    rw [Rels.of_ints t]
    rfl
theorem Rels.of_strs : ∀ {ns : List Str} {vs : List V}, Rels K ρ H (ns.map W.str) vs → vs = ns.map V.str
  | [], _, .nil => rfl
  | n :: r, _, .cons q t => by
    cases q
    rw [Rels.of_strs t]
    rfl
theorem Rels.of_bls : ∀ {ns : List Bool} {vs : List V}, Rels K ρ H (ns.map W.bl) vs → vs = ns.map V.bl
  | [], _, .nil => rfl
  | n :: r, _, .cons q t => by
    cases q
    rw [Rels.of_bls t]
    rfl
end
def RelO (K : PySem.W.Frag) (cm : Cm) (ρ : List Addr) (H : Hp) (a : Addr) : O → Prop
  | .lst xs => ∃ vs, H a = some (.lst vs) ∧ Rels K ρ H xs vs
  | .ins C fs => ∃ dx fv, H a = some (.ins (cm C) dx fv) ∧ fv.map (·.1) = fs.map (·.1) ∧ Rels K ρ H (fs.map (·.2)) (fv.map (·.2))
  | .dK kvs => ∃ kv, H a = some (.dK kv) ∧ kv.map (·.1) = kvs.map (·.1) ∧ Rels K ρ H (kvs.map (·.2)) (kv.map (·.2))
  | .dF kvs => ∃ o kv, H a = some (.frz o (.dK kv)) ∧ kv.map (·.1) = kvs.map (·.1) ∧ Rels K ρ H (kvs.map (·.2)) (kv.map (·.2))
  | .st ks => ∃ n, n ≤ ks.length ∧ H a = some (SetK cm.P cm.w a (inSt ks) n)
  | .xc C f w => ∃ d v, H a = some (exo a (cm C) (some d)) ∧ H d = some (.xd [(f, v)]) ∧ Rel K ρ H w v
structure RelH (K : PySem.W.Frag) (cm : Cm) (ρ : List Addr) (h : Hw) (H : Hp) : Prop where
  len : ρ.length = h.length
  nd : ρ.Nodup
  obj : ∀ (i : Nat) (o : O) (a : Addr), h[i]? = some o → ρ[i]? = some a → RelO K cm ρ H a o
def RelS (K : PySem.W.Frag) (ρ : List Addr) (H : Hp) (sw : SW) (σ : St) : Prop :=
  sw.length = σ.length ∧ ∀ (i : Nat) (w : W), sw[i]? = some (some w) → ∃ v, σ[i]? = some (some v) ∧ Rel K ρ H w v
section
variable {K : PySem.W.Frag} {cm : Cm} {ρ ρ' ρ'' : List Addr} {h h' : Hw} {H H' H'' : Hp} {sw : SW} {σ : St} {a : Addr} {i : Nat}
theorem RelS.mono (l : Le K ρ H ρ' H') (r : RelS K ρ H sw σ) : RelS K ρ' H' sw σ := ⟨r.1, fun i w e =>
  let ⟨v, h1, h2⟩ := r.2 i w e
  ⟨v, h1, h2.mono l⟩⟩
theorem RelS.set {w : W} {v : V} (r : RelS K ρ H sw σ) (q : Rel K ρ H w v) (i : Nat) : RelS K ρ H (sw.set i (some w)) (σ.set i (some v)) := by
  refine ⟨by rw [List.length_set, List.length_set]; exact r.1, fun j w' e => ?_⟩
  by_cases hj : i = j
  · subst hj
    rw [List.getElem?_set] at e
    rw [if_pos rfl] at e
    split at e
    · cases e
      refine ⟨v, ?_, q⟩
      rw [List.getElem?_set, if_pos rfl, if_pos (by rw [← r.1]; assumption)]
    · cases e
  · rw [List.getElem?_set_ne hj] at e
    rw [List.getElem?_set_ne hj]
    exact r.2 j w' e
/-- each place is known to the heap -/
theorem RelO.some {o : O} (r : RelO K cm ρ H a o) : ∃ u, H a = some u := by
  cases o with
  | lst xs => obtain ⟨vs, e, _⟩ := r; exact ⟨_, e⟩
  | ins C fs => obtain ⟨dx, fv, e, _⟩ := r; exact ⟨_, e⟩
  | dK kvs => obtain ⟨kv, e, _⟩ := r; exact ⟨_, e⟩
  | dF kvs => obtain ⟨o, kv, e, _⟩ := r; exact ⟨_, e⟩
  | st ks => obtain ⟨n, _, e⟩ := r; exact ⟨_, e⟩
  | xc C f w => obtain ⟨d, v, e, _⟩ := r; exact ⟨_, e⟩
theorem RelH.at (r : RelH K cm ρ h H) {w : W} (hi : ρ[i]? = some a) : ∃ o, h[i]? = some o ∧ RelO K cm ρ H a o := by
  obtain ⟨hl, _⟩ := List.getElem?_eq_some_iff.mp hi
  have hl' : i < h.length := by rw [← r.len]; exact hl
  exact ⟨h[i], List.getElem?_eq_getElem hl', r.obj i _ a (List.getElem?_eq_getElem hl') hi⟩
theorem RelH.mem (r : RelH K cm ρ h H) (hm : a ∈ ρ) : ∃ u, H a = some u := by
  obtain ⟨i, hl, e⟩ := List.mem_iff_getElem.mp hm
  obtain ⟨o, _, ho⟩ := r.at (w := .non) (List.getElem?_eq_some_iff.mpr ⟨hl, e⟩)
  exact ho.some
theorem mut_tup {u : HO} (m : Mut (some u)) : (∀ xs, u ≠ .tup xs) ∧ ∀ o v, u ≠ .frz o v :=
  ⟨fun xs e => by subst e; exact m, fun o v e => by subst e; exact m⟩
/-- a changed object that is neither a tuple nor frozen: what stands fast stands -/
theorem le_mut {o u : HO} (e : H a = some u) (m : Mut (some u)) : Le K ρ H ρ (upd H a o) := by
  have k : ∀ b x, H b = some x → (∀ q, Mut (some q) → x ≠ q) → upd H a o b = some x := fun b x hb hx => by
    rw [upd_ne (fun z => hx u m (Option.some.inj (hb.symm.trans ((congrArg H z).trans e))))]
    exact hb
  refine ⟨List.prefix_refl _, fun b vs q => ?_, fun b vs q => ?_, fun b ob v q => k b _ q fun z mz y => by rw [← y] at mz; exact mz, fun b f q => k b _ q fun z mz y => by rw [← y] at mz; exact mz⟩
  · rcases q with (q | ⟨ob, q⟩) | q
    · exact .inl (.inl (k b _ q fun z mz y => by rw [← y] at mz; exact mz))
    · exact .inl (.inr ⟨ob, k b _ q fun z mz y => by rw [← y] at mz; exact mz⟩)
    · exact .inr q
  · rcases q with ⟨ob, q⟩ | q
    · exact .inl ⟨ob, k b _ q fun z mz y => by rw [← y] at mz; exact mz⟩
    · exact .inr q
/-- a new object -/
theorem le_new {o : HO} (hn : H a = none) : Le K ρ H ρ (upd H a o) := by
  have k : ∀ b x, H b = some x → upd H a o b = some x := fun b x hb => by
    rw [upd_ne (ne_of_none hb hn)]
    exact hb
  refine ⟨List.prefix_refl _, fun b vs q => ?_, fun b vs q => ?_, fun b ob v q => k b _ q, fun b f q => k b _ q⟩
  · rcases q with (q | ⟨ob, q⟩) | q
    · exact .inl (.inl (k b _ q))
    · exact .inl (.inr ⟨ob, k b _ q⟩)
    · exact .inr q
  · rcases q with ⟨ob, q⟩ | q
    · exact .inl ⟨ob, k b _ q⟩
    · exact .inr q
theorem le_app (b : Addr) : Le K ρ H (ρ ++ [b]) H := ⟨List.prefix_append _ _, fun _ _ q => q, fun _ _ q => q, fun _ _ _ q => q, fun _ _ q => q⟩
theorem RelO.mono {o : O} (l : Le K ρ H ρ' H') (e : H' a = H a) (r : RelO K cm ρ H a o) : RelO K cm ρ' H' a o := by
  cases o with
  | lst xs => obtain ⟨vs, e1, q⟩ := r; exact ⟨vs, e.trans e1, q.mono l⟩
  | ins C fs => obtain ⟨dx, fv, e1, e2, q⟩ := r; exact ⟨dx, fv, e.trans e1, e2, q.mono l⟩
  | dK kvs => obtain ⟨kv, e1, e2, q⟩ := r; exact ⟨kv, e.trans e1, e2, q.mono l⟩
  | dF kvs => obtain ⟨o, kv, e1, e2, q⟩ := r; exact ⟨o, kv, e.trans e1, e2, q.mono l⟩
  | st ks => obtain ⟨n, l1, e1⟩ := r; exact ⟨n, l1, e.trans e1⟩
  | xc C f w => obtain ⟨d, v, e1, e2, q⟩ := r; exact ⟨d, v, e.trans e1, l.xd _ _ e2, q.mono l⟩
/-- what is written at a place -/
theorem RelH.set (r : RelH K cm ρ h H) (hi : ρ[i]? = some a) {u u0 : HO} {o : O} (e0 : H a = some u0) (m0 : Mut (some u0)) (n : RelO K cm ρ (upd H a u) a o) : RelH K cm ρ (h.set i o) (upd H a u) := by
  refine ⟨by rw [List.length_set]; exact r.len, r.nd, fun j o1 b hj hb => ?_⟩
  by_cases hji : i = j
  · subst hji
    rw [hi] at hb
    cases hb
    rw [List.getElem?_set, if_pos rfl] at hj
    split at hj
    · cases hj
      exact n
    · cases hj
  · rw [List.getElem?_set_ne hji] at hj
    have ne : b ≠ a := fun z => by
      subst z
      exact hji (nd_ix r.nd hi hb)
    exact (r.obj j o1 b hj hb).mono (le_mut e0 m0) (upd_ne ne)
/-- a new object that is no place: a tuple -/
theorem RelH.new (r : RelH K cm ρ h H) (hn : H a = none) {u : HO} : RelH K cm ρ h (upd H a u) :=
  ⟨r.len, r.nd, fun j o b hj hb => (r.obj j o b hj hb).mono (le_new hn) (by
    obtain ⟨x, e⟩ := (r.obj j o b hj hb).some
    exact upd_ne (ne_of_none e hn))⟩
/-- a new place -/
theorem RelH.push (r : RelH K cm ρ h H) (hn : H a = none) {u : HO} {o : O} (n : RelO K cm (ρ ++ [a]) (upd H a u) a o) : RelH K cm (ρ ++ [a]) (h ++ [o]) (upd H a u) := by
  refine ⟨by rw [List.length_append, List.length_append, r.len]; rfl, ?_, fun j o1 b hj hb => ?_⟩
  · refine List.nodup_append.mpr ⟨r.nd, by simp, fun x hx y hy z => ?_⟩
    have hy' : y = a := by simpa using hy
    subst hy' z
    obtain ⟨u1, e1⟩ := r.mem hx
    rw [hn] at e1
    cases e1
  · by_cases hl : j < h.length
    · rw [List.getElem?_append_left hl] at hj
      rw [List.getElem?_append_left (by rw [r.len]; exact hl)] at hb
      have q := r.obj j o1 b hj hb
      obtain ⟨x, e⟩ := q.some
      exact q.mono ((le_new (o := u) hn).trans (le_app a)) (upd_ne (ne_of_none e hn))
    · rw [List.getElem?_append_right (by omega)] at hj
      rw [List.getElem?_append_right (by rw [r.len]; omega), r.len] at hb
      have hz : j - h.length = 0 := by
        have := (List.getElem?_eq_some_iff.mp hj).1
        simp at this
        omega
      rw [hz] at hj hb
      cases hj
      cases hb
      exact n
theorem push_at (r : RelH K cm ρ h H) : (ρ ++ [a])[h.length]? = some a := by
  rw [← r.len]
  simp
end

/-! ### the judgements -/
/-- what follows, once the value has come -/
abbrev KE (K : PySem.W.Frag) (cm : Cm) (ρ : List Addr) (H : Hp) (w : W) (h' : Hw) (Q : VK) : Prop :=
  ∀ ρ' H' v, Le K ρ H ρ' H' → RelH K cm ρ' h' H' → Rel K ρ' H' w v → Q v H'
def tE (K : PySem.W.Frag) (cm : Cm) (m : ME) : TE := fun σ H Q => ∃ ρ h sw w h', RelH K cm ρ h H ∧ RelS K ρ H sw σ ∧ m sw h = .ok w h' ∧ KE K cm ρ H w h' Q
def tT (K : PySem.W.Frag) (cm : Cm) (m : MT) : TT := fun σ H Q => ∃ ρ h sw b h', RelH K cm ρ h H ∧ RelS K ρ H sw σ ∧ m sw h = .ok b h' ∧ ∀ ρ' H', Le K ρ H ρ' H' → RelH K cm ρ' h' H' → Q b H'
def tA (K : PySem.W.Frag) (cm : Cm) (m : MA) : TA := fun σ H Q => ∃ ρ h sw ws h', RelH K cm ρ h H ∧ RelS K ρ H sw σ ∧ m sw h = .ok ws h' ∧ ∀ ρ' H' vs, Le K ρ H ρ' H' → RelH K cm ρ' h' H' → Rels K ρ' H' ws vs → Q vs H'
def FlK (K : PySem.W.Frag) (cm : Cm) (ρ : List Addr) (H : Hp) (f : Fl) (h' : Hw) (D : Ends) : Prop :=
  match f with
  | .nx s => ∀ ρ' H' σ', Le K ρ H ρ' H' → RelH K cm ρ' h' H' → RelS K ρ' H' s σ' → D.nx σ' H'
  | .bk s => ∀ ρ' H' σ', Le K ρ H ρ' H' → RelH K cm ρ' h' H' → RelS K ρ' H' s σ' → D.bk σ' H'
  | .ct s => ∀ ρ' H' σ', Le K ρ H ρ' H' → RelH K cm ρ' h' H' → RelS K ρ' H' s σ' → D.ct σ' H'
  | .rt w => KE K cm ρ H w h' D.rt
theorem FlK.le {K : PySem.W.Frag} {cm : Cm} {ρ ρ' : List Addr} {H H' : Hp} {f : Fl} {h' : Hw} {D : Ends} (l : Le K ρ H ρ' H') (q : FlK K cm ρ H f h' D) : FlK K cm ρ' H' f h' D := by
  cases f with
  | nx s => exact fun ρ2 H2 σ2 l2 => q ρ2 H2 σ2 (l.trans l2)
  | bk s => exact fun ρ2 H2 σ2 l2 => q ρ2 H2 σ2 (l.trans l2)
  | ct s => exact fun ρ2 H2 σ2 l2 => q ρ2 H2 σ2 (l.trans l2)
  | rt w => exact fun ρ2 H2 v l2 => q ρ2 H2 v (l.trans l2)
def tS (K : PySem.W.Frag) (cm : Cm) (m : MS) : TS := fun D σ H => ∃ ρ h sw f h', RelH K cm ρ h H ∧ RelS K ρ H sw σ ∧ m sw h = .ok f h' ∧ FlK K cm ρ H f h' D
/-- alike but at some places -/
def But (vs : List Nat) (σ σ' : St) : Prop := σ'.length = σ.length ∧ ∀ j : Nat, j ∉ vs → σ'[j]? = σ[j]?
theorem But.refl {vs : List Nat} {σ : St} : But vs σ σ := ⟨rfl, fun _ _ => rfl⟩
theorem But.trans {vs : List Nat} {σ σ' σ'' : St} (a : But vs σ σ') (b : But vs σ' σ'') : But vs σ σ'' := ⟨b.1.trans a.1, fun j hj => (b.2 j hj).trans (a.2 j hj)⟩
theorem But.set {vs : List Nat} {σ : St} {i : Nat} {x : Option V} (h : i ∈ vs) : But vs σ (σ.set i x) := ⟨List.length_set .., fun j hj => List.getElem?_set_ne (fun (z : i = j) => hj (by rw [← z]; exact h))⟩
def tG (K : PySem.W.Frag) (cm : Cm) (vs : List Nat) (m : MG) : TG := fun v σ H Q => ∃ ρ h sw w s h', RelH K cm ρ h H ∧ RelS K ρ H sw σ ∧ Rel K ρ H w v ∧ m w sw h = .ok s h' ∧ ∀ ρ' H' σ', But vs σ σ' → Le K ρ H ρ' H' → RelH K cm ρ' h' H' → RelS K ρ' H' s σ' → Q σ' H'
abbrev RE (X : Cx) (cm : Cm) (e : Expr) (m : ME) : Prop := PE X e (tE X.K cm m)
abbrev RT (X : Cx) (cm : Cm) (e : Expr) (m : MT) : Prop := PT X e (tT X.K cm m)
abbrev RW (X : Cx) (cm : Cm) (e : Expr) (m : MT) : Prop := PW X e (tT X.K cm m)
abbrev RA (X : Cx) (cm : Cm) (es : List Expr) (m : MA) : Prop := PA X es (tA X.K cm m)
abbrev RS (X : Cx) (cm : Cm) (st : Stmt) (m : MS) : Prop := PS X st (tS X.K cm m)
abbrev RSs (X : Cx) (cm : Cm) (st : List Stmt) (m : MS) : Prop := PSs X st (tS X.K cm m)
abbrev RG (X : Cx) (cm : Cm) (vs : List Nat) (tg : Expr) (m : MG) : Prop := PG X tg (tG X.K cm vs m)
theorem peM {X : Cx} {e : Expr} {t t' : TE} (p : PE X e t) (f : ∀ σ H Q, t' σ H Q → t σ H Q) : PE X e t' := ⟨fun pins s σ H Q I q => p.run pins s σ H Q I (f σ H Q q)⟩
theorem ptM {X : Cx} {e : Expr} {t t' : TT} (p : PT X e t) (f : ∀ σ H Q, t' σ H Q → t σ H Q) : PT X e t' := ⟨fun pins s σ H Q I q => p.run pins s σ H Q I (f σ H Q q)⟩
theorem pwM {X : Cx} {e : Expr} {t t' : TT} (p : PW X e t) (f : ∀ σ H Q, t' σ H Q → t σ H Q) : PW X e t' := ⟨fun wh pins s σ H Q I q => p.run wh pins s σ H Q I (f σ H Q q)⟩
theorem paM {X : Cx} {e : List Expr} {t t' : TA} (p : PA X e t) (f : ∀ σ H Q, t' σ H Q → t σ H Q) : PA X e t' := ⟨fun pos pins s σ H Q I q => p.run pos pins s σ H Q I (f σ H Q q)⟩
theorem psM {X : Cx} {e : Stmt} {t t' : TS} (p : PS X e t) (f : ∀ D σ H, t' D σ H → t D σ H) : PS X e t' := ⟨fun pins s σ H D I q => p.run pins s σ H D I (f D σ H q)⟩
theorem pssM {X : Cx} {e : List Stmt} {t t' : TS} (p : PSs X e t) (f : ∀ D σ H, t' D σ H → t D σ H) : PSs X e t' := ⟨fun pins s σ H D I q => p.run pins s σ H D I (f D σ H q)⟩
theorem pgM {X : Cx} {e : Expr} {t t' : TG} (p : PG X e t) (f : ∀ v σ H Q, t' v σ H Q → t v σ H Q) : PG X e t' := ⟨fun pins s σ H v u Q I r q => p.run pins s σ H v u Q I r (f v σ H Q q)⟩
end EL
namespace EL
open PySem PySem.Spec L2
open PyProof.Rows hiding St
def lim : Nat := 16777216
theorem lim_eq : lim = sizeLine := sizeLine_eq.symm

/-! ### the plain functions -/
def mVar (i : Nat) : ME := fun sw h => match sw[i]? with
  | some (some w) => .ok w h
  | _ => .no
def mC (w : W) : ME := fun _ h => .ok w h
def mBin (f : W → W → M W) (a b : ME) : ME := fun sw => bnd (a sw) fun x => bnd (b sw) fun y => f x y
def mUn (f : W → M W) (a : ME) : ME := fun sw => bnd (a sw) f
def aNil : MA := fun _ => rtn []
def aCons (a : ME) (r : MA) : MA := fun sw => bnd (a sw) fun x => bnd (r sw) fun xs => rtn (x :: xs)
def mTup (a : MA) : ME := fun sw => bnd (a sw) fun xs => if xs.length ≤ lim then rtn (.tup xs) else bad
def alloc (o : O) : M W := fun h => .ok (.ref h.length) (h ++ [o])
def mLst (a : MA) : ME := fun sw => bnd (a sw) fun xs => if xs.length ≤ lim then alloc (.lst xs) else bad
def mCall (f : List W → M W) (a : MA) : ME := fun sw => bnd (a sw) f
def tVal (a : ME) : MT := fun sw => bnd (a sw) fun x => match x with
  | .bl b => rtn b
  | _ => bad
def tAnd (a b : MT) : MT := fun sw => bnd (a sw) fun x => if x = true then b sw else rtn false
def tOr (a b : MT) : MT := fun sw => bnd (a sw) fun x => if x = true then rtn true else b sw
def tNot (a : MT) : MT := fun sw => bnd (a sw) fun x => rtn (!x)
def mAnd (a b : ME) : ME := fun sw => bnd (a sw) fun x => match x with
  | .bl true => b sw
  | .bl false => rtn (.bl false)
  | _ => bad
def mOr (a b : ME) : ME := fun sw => bnd (a sw) fun x => match x with
  | .bl true => rtn (.bl true)
  | .bl false => b sw
  | _ => bad
def mNot (a : ME) : ME := fun sw => bnd (a sw) fun x => match x with
  | .bl b => rtn (.bl (!b))
  | _ => bad
def mIf (c : MT) (a b : ME) : ME := fun sw => bnd (c sw) fun x => if x = true then a sw else b sw
def sNil : MS := fun sw => rtn (.nx sw)
def sSeq (a b : MS) : MS := fun sw => bnd (a sw) fun f => match f with
  | .nx s => b s
  | .rt w => rtn (.rt w)
  | .bk s => rtn (.bk s)
  | .ct s => rtn (.ct s)
def sIf (c : MT) (a b : MS) : MS := fun sw => bnd (c sw) fun x => if x = true then a sw else b sw
def sRet (a : ME) : MS := fun sw => bnd (a sw) fun x => rtn (.rt x)
def sExp (a : ME) : MS := fun sw => bnd (a sw) fun _ => rtn (.nx sw)
def sAsg (g : MG) (a : ME) : MS := fun sw => bnd (a sw) fun x => bnd (g x sw) fun s => rtn (.nx s)
def gNm (i : Nat) : MG := fun w sw => rtn (sw.set i (some w))
def sBrk : MS := fun sw => rtn (.bk sw)
def sCnt : MS := fun sw => rtn (.ct sw)

/-! ### soundness: expressions -/
section
variable {X : Cx} {cm : Cm} {e a b c : Expr} {es rest : List Expr} {ma mb mc : ME} {mta mtb : MT} {pos : Pos}
theorem re_var (i : Nat) {x : Str} {pos : Pos} (hN : X.N[i]? = some x := by rfl) (hv : Vis X.env.scope x := by first | exact Or.inl rfl | exact Or.inr (Or.inl rfl) | exact Or.inr (Or.inr rfl)) (hd : (x == ("__debug__" : Str)) = false := by decide)
    (hcd : (x == ("__classdict__" : Str)) = false := by decide) : RE X cm (.Name x pos) (mVar i) := by
  refine peM (pe_var (i := i) hN hv hd hcd) fun σ H Q q => ?_
  obtain ⟨ρ, h, sw, w, h', rh, rs, e, k⟩ := q
  unfold mVar at e
  split at e
  · cases e
    obtain ⟨v, h1, h2⟩ := rs.2 i _ (by assumption)
    exact ⟨v, h1, k ρ H v .refl rh h2⟩
  · cases e
theorem re_tC {v : V} {w : W} (p : PE X e (tC v)) (r : ∀ ρ H, Rel X.K ρ H w v) : RE X cm e (mC w) := by
  refine peM p fun σ H Q q => ?_
  obtain ⟨ρ, h, sw, w, h', rh, rs, e, k⟩ := q
  cases e
  exact k ρ H v .refl rh (r ρ H)
theorem re_int {i : Int} {j pos} : RE X cm (.Constant (.int i) j pos) (mC (.int i)) := re_tC pe_int fun _ _ => .int i
theorem re_str {i : Str} {j pos} : RE X cm (.Constant (.str i) j pos) (mC (.str i)) := re_tC pe_str fun _ _ => .str i
theorem re_bl {i : Bool} {j pos} : RE X cm (.Constant (.bool i) j pos) (mC (.bl i)) := re_tC pe_bl fun _ _ => .bl i
theorem re_non {j pos} : RE X cm (.Constant .none j pos) (mC .non) := re_tC pe_non fun _ _ => .non
theorem re_gint {x : Str} {i : Int} {t : Tok} {pos : Pos} (hm : X.mg x = some (.int i t)) (hg : Gl X x := by rfl) (hd : (x == ("__debug__" : Str)) = false := by decide) : RE X cm (.Name x pos) (mC (.int i)) := re_tC (pe_glob (v := .int i) hg hm ⟨t, rfl⟩ hd) fun _ _ => .int i
theorem re_gstr {x : Str} {i : Str} {t : Tok} {pos : Pos} (hm : X.mg x = some (.str i t)) (hg : Gl X x := by rfl) (hd : (x == ("__debug__" : Str)) = false := by decide) : RE X cm (.Name x pos) (mC (.str i)) := re_tC (pe_glob (v := .str i) hg hm ⟨t, rfl⟩ hd) fun _ _ => .str i

/-- a two-place operation by values -/
def OpW (K : PySem.W.Frag) (cm : Cm) (r : R2) (f : W → W → M W) : Prop :=
  ∀ ρ h H x y x' y' z h' Q, RelH K cm ρ h H → Rel K ρ H x x' → Rel K ρ H y y' → f x y h = .ok z h' → KE K cm ρ H z h' Q → r x' y' H Q
theorem op_tE {r : R2} {f : W → W → M W} (ow : OpW X.K cm r f) {σ : St} {H : Hp} {Q : VK} (q : tE X.K cm (mBin f ma mb) σ H Q) : tOp r (tE X.K cm ma) (tE X.K cm mb) σ H Q := by
  obtain ⟨ρ, h, sw, w, h', rh, rs, e, k⟩ := q
  obtain ⟨x, h1, e1, e2⟩ := bnd_ok e
  obtain ⟨y, h2, e3, e4⟩ := bnd_ok e2
  refine ⟨ρ, h, sw, x, h1, rh, rs, e1, fun ρ1 H1 x' l1 rh1 rx => ?_⟩
  refine ⟨ρ1, h1, sw, y, h2, rh1, rs.mono l1, e3, fun ρ2 H2 y' l2 rh2 ry => ?_⟩
  exact ow ρ2 h2 H2 x y x' y' w h' Q rh2 (rx.mono l2) ry e4 fun ρ3 H3 v l3 => k ρ3 H3 v (l1.trans (l2.trans l3))
theorem re_op {op : Operator} {r : R2} {f : W → W → M W} (ho : OpR X (binaryOp op) r) (ow : OpW X.K cm r f) (ha : RE X cm a ma) (hb : RE X cm b mb) : RE X cm (.BinOp a op b pos) (mBin f ma mb) :=
  peM (pe_op ho ha hb) fun _ _ _ => op_tE ow
theorem re_cmp {op : CmpOp} {r : R2} {f : W → W → M W} (ho : OpR X (compareOp op) r) (ow : OpW X.K cm r f) (ha : RE X cm a ma) (hb : RE X cm b mb) (hm : behindInMarks op b = false := by first | exact nomark _ | rfl) : RE X cm (.Compare a [op] [b] pos) (mBin f ma mb) :=
  peM (pe_cmpR ho ha hb hm) fun _ _ _ => op_tE ow
theorem test_of {t : TE} {m : ME} {σ : St} {H : Hp} {Q : Bool → Hp → Prop} (f : ∀ Q', tE X.K cm m σ H Q' → t σ H Q') (q : tT X.K cm (tVal m) σ H Q) : tTest t σ H Q := by
  obtain ⟨ρ, h, sw, w, h', rh, rs, e, k⟩ := q
  obtain ⟨x, h1, e1, e2⟩ := bnd_ok e
  refine f _ ⟨ρ, h, sw, x, h1, rh, rs, e1, fun ρ1 H1 x' l1 rh1 rx => ?_⟩
  cases x with
  | bl b =>
    cases rx
    cases e2
    exact ⟨_, rfl, k ρ1 H1 l1 rh1⟩
  | _ => cases e2
theorem rt_cmp {op : CmpOp} {r : R2} {f : W → W → M W} (ho : OpR X (compareOp op) r) (ow : OpW X.K cm r f) (ha : RE X cm a ma) (hb : RE X cm b mb) (hm : behindInMarks op b = false := by first | exact nomark _ | rfl) : RT X cm (.Compare a [op] [b] pos) (tVal (mBin f ma mb)) :=
  ptM (pt_cmpR ho ha hb hm) fun σ H Q q => test_of (fun Q' => op_tE ow) q
/-- a value's truth -/
def tru (x : W) : M Bool := fun h => match x with
  | .non => .ok false h
  | .bl b => .ok b h
  | .int i => .ok (i != 0) h
  | .str y => if y.length ≤ lim then .ok ((y.length : Int) != 0) h else .no
  | .tup xs => .ok (!xs.isEmpty) h
  | .rol xs => .ok (!xs.isEmpty) h
  | .ref i => match h[i]? with
    | some (.lst xs) => .ok (!xs.isEmpty) h
    | some (.dK kvs) => .ok (!kvs.isEmpty) h
    | _ => .no
def tTru (a : ME) : MT := fun sw => bnd (a sw) tru
theorem emp_of {K : PySem.W.Frag} {ρ : List Addr} {H : Hp} {ws : List W} {vs : List V} (r : Rels K ρ H ws vs) : ws.isEmpty = vs.isEmpty := by
  cases r <;> rfl
theorem tru_of {K : PySem.W.Frag} {ρ : List Addr} {h h' : Hw} {H : Hp} {x : W} {v : V} {k : Bool} (rh : RelH K cm ρ h H) (r : Rel K ρ H x v) (e : tru x h = .ok k h') : TruV K v H k ∧ h' = h := by
  cases r with
  | non => cases e; exact ⟨rfl, rfl⟩
  | bl b => cases e; exact ⟨rfl, rfl⟩
  | int i => cases e; exact ⟨rfl, rfl⟩
  | str y =>
    have e' : (if y.length ≤ lim then R.ok ((y.length : Int) != 0) h else R.no) = .ok k h' := e
    split at e'
    · cases e'
      exact ⟨⟨by rw [← lim_eq]; assumption, rfl⟩, rfl⟩
    · cases e'
  | tup hq r => cases e; exact ⟨.inr (.inl ⟨_, hq, by rw [emp_of r]⟩), rfl⟩
  | rol hq r => cases e; exact ⟨.inl ⟨_, hq.sq, by rw [emp_of r]⟩, rfl⟩
  | @ref i a hi =>
    obtain ⟨o, ho, ro⟩ := rh.at (w := .non) hi
    have e' : (match h[i]? with
      | some (.lst xs) => R.ok (!xs.isEmpty) h
      | some (.dK kvs) => R.ok (!kvs.isEmpty) h
      | _ => R.no) = .ok k h' := e
    rw [ho] at e'
    cases o with
    | lst xs =>
      obtain ⟨vs, e1, q⟩ := ro
      cases e'
      exact ⟨.inl ⟨vs, .of e1, by rw [emp_of q]⟩, rfl⟩
    | dK kvs =>
      obtain ⟨kv, e1, e2, q⟩ := ro
      cases e'
      refine ⟨.inr (.inr ⟨kv, e1, ?_⟩), rfl⟩
      cases kvs <;> cases kv <;> first | rfl | cases e2
    | dF kvs => cases e'
    | ins C fs => cases e'
    | st ks => cases e'
    | xc C f w => cases e'
theorem rt_tru (ha : RE X cm a ma) (he : ∀ whole, isTrue a X.env whole = (do let v ← whole; standAt a.pos; holding [v] (truthy v)) := by intro _; rfl) : RT X cm a (tTru ma) := by
  refine ptM (pt_truth ha he) fun σ H Q q => ?_
  obtain ⟨ρ, h, sw, w, h', rh, rs, e, k⟩ := q
  obtain ⟨x, h1, e1, e2⟩ := bnd_ok e
  refine ⟨ρ, h, sw, x, h1, rh, rs, e1, fun ρ1 H1 x' l1 rh1 rx => ?_⟩
  obtain ⟨t, eh⟩ := tru_of rh1 rx e2
  subst eh
  exact ⟨_, t, k ρ1 H1 l1 rh1⟩
theorem rt_and1 (ha : RT X cm a mta) : RW X cm (.BoolOp .And [a] pos) mta := pw_and1 ha
theorem rt_or1 (ha : RT X cm a mta) : RW X cm (.BoolOp .Or [a] pos) mta := pw_or1 ha
theorem rt_and (ha : RT X cm a mta) (hb : RW X cm (.BoolOp .And (b :: rest) pos) mtb) : RW X cm (.BoolOp .And (a :: b :: rest) pos) (tAnd mta mtb) := by
  refine pwM (pw_and ha hb) fun σ H Q q => ?_
  obtain ⟨ρ, h, sw, w, h', rh, rs, e, k⟩ := q
  obtain ⟨x, h1, e1, e2⟩ := bnd_ok e
  refine ⟨ρ, h, sw, x, h1, rh, rs, e1, fun ρ1 H1 l1 rh1 => ?_⟩
  cases x with
  | true => exact iteT ⟨ρ1, h1, sw, w, h', rh1, rs.mono l1, e2, fun ρ2 H2 l2 => k ρ2 H2 (l1.trans l2)⟩
  | false =>
    cases e2
    exact iteF (k ρ1 H1 l1 rh1)
theorem rt_or (ha : RT X cm a mta) (hb : RW X cm (.BoolOp .Or (b :: rest) pos) mtb) : RW X cm (.BoolOp .Or (a :: b :: rest) pos) (tOr mta mtb) := by
  refine pwM (pw_or ha hb) fun σ H Q q => ?_
  obtain ⟨ρ, h, sw, w, h', rh, rs, e, k⟩ := q
  obtain ⟨x, h1, e1, e2⟩ := bnd_ok e
  refine ⟨ρ, h, sw, x, h1, rh, rs, e1, fun ρ1 H1 l1 rh1 => ?_⟩
  cases x with
  | false => exact iteF ⟨ρ1, h1, sw, w, h', rh1, rs.mono l1, e2, fun ρ2 H2 l2 => k ρ2 H2 (l1.trans l2)⟩
  | true =>
    cases e2
    exact iteT (k ρ1 H1 l1 rh1)
theorem rt_not (ha : RT X cm a mta) : RT X cm (.UnaryOp .Not a pos) (tNot mta) := by
  refine ptM (pt_not ha) fun σ H Q q => ?_
  obtain ⟨ρ, h, sw, w, h', rh, rs, e, k⟩ := q
  obtain ⟨x, h1, e1, e2⟩ := bnd_ok e
  cases e2
  exact ⟨ρ, h, sw, x, h', rh, rs, e1, fun ρ1 H1 l1 rh1 => k ρ1 H1 l1 rh1⟩
theorem rw_t (h : RW X cm e mta) : RT X cm e mta := PW.pt h
theorem re_one {op} (h : RE X cm a ma) : RE X cm (.BoolOp op [a] pos) ma := pe_one h
theorem re_and (ha : RE X cm a ma) (hb : RE X cm (.BoolOp .And (b :: rest) pos) mb) : RE X cm (.BoolOp .And (a :: b :: rest) pos) (mAnd ma mb) := by
  refine peM (pe_and ha hb) fun σ H Q q => ?_
  obtain ⟨ρ, h, sw, w, h', rh, rs, e, k⟩ := q
  obtain ⟨x, h1, e1, e2⟩ := bnd_ok e
  refine ⟨ρ, h, sw, x, h1, rh, rs, e1, fun ρ1 H1 x' l1 rh1 rx => ?_⟩
  cases x with
  | bl y =>
    cases rx
    cases y with
    | true => exact ⟨true, rfl, iteT ⟨ρ1, h1, sw, w, h', rh1, rs.mono l1, e2, fun ρ2 H2 v l2 => k ρ2 H2 v (l1.trans l2)⟩⟩
    | false =>
      cases e2
      exact ⟨false, rfl, iteF (k ρ1 H1 _ l1 rh1 (.bl false))⟩
  | _ => cases e2
theorem re_or (ha : RE X cm a ma) (hb : RE X cm (.BoolOp .Or (b :: rest) pos) mb) : RE X cm (.BoolOp .Or (a :: b :: rest) pos) (mOr ma mb) := by
  refine peM (pe_or ha hb) fun σ H Q q => ?_
  obtain ⟨ρ, h, sw, w, h', rh, rs, e, k⟩ := q
  obtain ⟨x, h1, e1, e2⟩ := bnd_ok e
  refine ⟨ρ, h, sw, x, h1, rh, rs, e1, fun ρ1 H1 x' l1 rh1 rx => ?_⟩
  cases x with
  | bl y =>
    cases rx
    cases y with
    | false => exact ⟨false, rfl, iteF ⟨ρ1, h1, sw, w, h', rh1, rs.mono l1, e2, fun ρ2 H2 v l2 => k ρ2 H2 v (l1.trans l2)⟩⟩
    | true =>
      cases e2
      exact ⟨true, rfl, iteT (k ρ1 H1 _ l1 rh1 (.bl true))⟩
  | _ => cases e2
theorem re_not (ha : RE X cm a ma) : RE X cm (.UnaryOp .Not a pos) (mNot ma) := by
  refine peM (pe_not ha) fun σ H Q q => ?_
  obtain ⟨ρ, h, sw, w, h', rh, rs, e, k⟩ := q
  obtain ⟨x, h1, e1, e2⟩ := bnd_ok e
  refine ⟨ρ, h, sw, x, h1, rh, rs, e1, fun ρ1 H1 x' l1 rh1 rx => ?_⟩
  cases x with
  | bl y =>
    cases rx
    cases e2
    exact ⟨y, rfl, k ρ1 H1 _ l1 rh1 (.bl _)⟩
  | _ => cases e2
theorem re_if (hc : RT X cm c mta) (ha : RE X cm a ma) (hb : RE X cm b mb) : RE X cm (.IfExp c a b pos) (mIf mta ma mb) := by
  refine peM (pe_ifExp hc ha hb) fun σ H Q q => ?_
  obtain ⟨ρ, h, sw, w, h', rh, rs, e, k⟩ := q
  obtain ⟨x, h1, e1, e2⟩ := bnd_ok e
  refine ⟨ρ, h, sw, x, h1, rh, rs, e1, fun ρ1 H1 l1 rh1 => ?_⟩
  cases x with
  | true => exact iteT ⟨ρ1, h1, sw, w, h', rh1, rs.mono l1, e2, fun ρ2 H2 v l2 => k ρ2 H2 v (l1.trans l2)⟩
  | false => exact iteF ⟨ρ1, h1, sw, w, h', rh1, rs.mono l1, e2, fun ρ2 H2 v l2 => k ρ2 H2 v (l1.trans l2)⟩
theorem ra_nil : RA X cm [] aNil := by
  refine paM pa_nil fun σ H Q q => ?_
  obtain ⟨ρ, h, sw, w, h', rh, rs, e, k⟩ := q
  cases e
  exact k ρ H [] .refl rh .nil
theorem ra_cons {mr : MA} (ha : RE X cm e ma) (hr : RA X cm es mr) (hs : starEach (e :: es) X.env = (false, eval e X.env) :: starEach es X.env := by rfl) : RA X cm (e :: es) (aCons ma mr) := by
  refine paM (pa_cons ha hr hs) fun σ H Q q => ?_
  obtain ⟨ρ, h, sw, w, h', rh, rs, e, k⟩ := q
  obtain ⟨x, h1, e1, e2⟩ := bnd_ok e
  obtain ⟨y, h2, e3, e4⟩ := bnd_ok e2
  cases e4
  refine ⟨ρ, h, sw, x, h1, rh, rs, e1, fun ρ1 H1 x' l1 rh1 rx => ?_⟩
  refine ⟨ρ1, h1, sw, y, h', rh1, rs.mono l1, e3, fun ρ2 H2 y' l2 rh2 ry => ?_⟩
  exact k ρ2 H2 _ (l1.trans l2) rh2 (.cons (rx.mono l2) ry)
/-- a new tuple -/
theorem new_tup {K : PySem.W.Frag} {ρ : List Addr} {h : Hw} {H : Hp} {ws : List W} {vs : List V} {Q : VK} {p : Addr} (rh : RelH K cm ρ h H) (r : Rels K ρ H ws vs) (hp : H p = none) (k : KE K cm ρ H (.tup ws) h Q) : Q (.ref p) (upd H p (.tup vs)) :=
  k ρ _ _ (le_new hp) (rh.new hp) (.tup (.of upd_same) (r.mono (le_new hp)))
/-- a new list -/
theorem new_lst {K : PySem.W.Frag} {ρ : List Addr} {h : Hw} {H : Hp} {ws : List W} {vs : List V} {Q : VK} {p : Addr} (rh : RelH K cm ρ h H) (r : Rels K ρ H ws vs) (hp : H p = none) (k : KE K cm ρ H (.ref h.length) (h ++ [.lst ws]) Q) : Q (.ref p) (upd H p (.lst vs)) :=
  k (ρ ++ [p]) _ _ ((le_new hp).trans (le_app p)) (rh.push hp ⟨vs, upd_same, r.mono ((le_new hp).trans (le_app p))⟩) (.ref (push_at rh))
theorem re_tup {mr : MA} {x1} (ha : RA X cm es mr) : RE X cm (.Tuple es x1 pos) (mTup mr) := by
  refine peM (pe_tup ha) fun σ H Q q => ?_
  obtain ⟨ρ, h, sw, w, h', rh, rs, e, k⟩ := q
  obtain ⟨x, h1, e1, e2⟩ := bnd_ok e
  refine ⟨ρ, h, sw, x, h1, rh, rs, e1, fun ρ1 H1 x' l1 rh1 rx => ?_⟩
  split at e2
  · cases e2
    exact ⟨by rw [← rx.length, ← lim_eq]; assumption, fun p hp => new_tup rh1 rx hp fun ρ2 H2 v l2 => k ρ2 H2 v (l1.trans l2)⟩
  · cases e2
theorem re_lst {mr : MA} (ha : RA X cm es mr) : RE X cm (.List es pos) (mLst mr) := by
  refine peM (pe_lst ha) fun σ H Q q => ?_
  obtain ⟨ρ, h, sw, w, h', rh, rs, e, k⟩ := q
  obtain ⟨x, h1, e1, e2⟩ := bnd_ok e
  refine ⟨ρ, h, sw, x, h1, rh, rs, e1, fun ρ1 H1 x' l1 rh1 rx => ?_⟩
  split at e2
  · cases e2
    exact ⟨by rw [← rx.length, ← lim_eq]; assumption, fun p hp => new_lst rh1 rx hp fun ρ2 H2 v l2 => k ρ2 H2 v (l1.trans l2)⟩
  · cases e2
end

/-! ### calls -/
/-- what a def promises: it does what m does -/
def spM (K : PySem.W.Frag) (cm : Cm) (m : List W → M W) : Sp := fun vs H Q _ => ∃ ρ h ws w h', RelH K cm ρ h H ∧ Rels K ρ H ws vs ∧ m ws h = .ok w h' ∧ KE K cm ρ H w h' Q
section
variable {X : Cx} {cm : Cm} {e a b c : Expr} {es rest : List Expr} {ma mb mc : ME} {mr : MA} {mta mtb : MT} {pos p : Pos} {k : Nat} {f : Addr} {fd : FuncData} {ps : List Str} {x : Str} {m : List W → M W} {n : Nat}
theorem re_call (F : FnOk X.prog X.w X.K X.mg X.base CX0 k f fd ps (spM X.K cm m)) (hr : Room k X.A) (hm : X.mg x = some (.ref f)) (hk : PySem.W.keepIn X.K (.ref f) = true) (hb : Binds X.K fd ps []) (ha : RA X cm (e :: es) mr) (hg : Gl X x := by rfl)
    (hdb : (x == ("__debug__" : Str)) = false := by decide) (he : starEach (e :: es) X.env = (false, eval e X.env) :: starEach es X.env := by rfl) (hpl : (backTo pos (starEach es X.env)).any (·.1) = false := by rfl) : RE X cm (.Call (.Name x p) (e :: es) [] pos) (mCall m mr) := by
  refine peM (pe_call F hr hg hm hk hb .nil pass0 ha hdb he hpl) fun σ H Q q => ?_
  obtain ⟨ρ, h, sw, w, h', rh, rs, e, k⟩ := q
  obtain ⟨ws, h1, e1, e2⟩ := bnd_ok e
  refine ⟨ρ, h, sw, ws, h1, rh, rs, e1, fun ρ1 H1 vs l1 rh1 rx => ?_⟩
  refine ⟨ρ1, h1, ws, w, h', rh1, by rw [List.append_nil]; exact rx, e2, fun ρ2 H2 v l2 => k ρ2 H2 v (l1.trans l2)⟩
/-- a built-in by values -/
def CallW (K : PySem.W.Frag) (cm : Cm) (r : List V → Hp → VK → Prop) (f : List W → M W) : Prop :=
  ∀ ρ h H ws vs z h' Q, RelH K cm ρ h H → Rels K ρ H ws vs → f ws h = .ok z h' → KE K cm ρ H z h' Q → r vs H Q
theorem cb_tE {r : List V → Hp → VK → Prop} {f : List W → M W} (cw : CallW X.K cm r f) {σ : St} {H : Hp} {Q : VK} (q : tE X.K cm (mCall f mr) σ H Q) : tCB r (tA X.K cm mr) σ H Q := by
  obtain ⟨ρ, h, sw, w, h', rh, rs, e, k⟩ := q
  obtain ⟨ws, h1, e1, e2⟩ := bnd_ok e
  refine ⟨ρ, h, sw, ws, h1, rh, rs, e1, fun ρ1 H1 vs l1 rh1 rx => ?_⟩
  exact cw ρ1 h1 H1 ws vs w h' Q rh1 rx e2 fun ρ2 H2 v l2 => k ρ2 H2 v (l1.trans l2)
theorem re_callB {id : String} {r : List V → Hp → VK → Prop} {f : List W → M W} (hc : CallR X (.builtin id) r) (cw : CallW X.K cm r f) (hm : X.mg x = none) (ha : RA X cm (e :: es) mr) (hv : bootBuiltins x = some (.builtin id) := by decide +kernel) (hg : Gl X x := by rfl) (hn : x ≠ "__name__" := by decide) (hdb : (x == ("__debug__" : Str)) = false := by decide)
    (he : starEach (e :: es) X.env = (false, eval e X.env) :: starEach es X.env := by rfl) (hpl : (backTo pos (starEach es X.env)).any (·.1) = false := by rfl) : RE X cm (.Call (.Name x p) (e :: es) [] pos) (mCall f mr) :=
  peM (pe_callB hc hg hm hv ha hn hdb he hpl) fun _ _ _ => cb_tE cw
theorem re_callTy {T : String} {r : List V → Hp → VK → Prop} {f : List W → M W} (hc : CallR X (.type T) r) (cw : CallW X.K cm r f) (hm : X.mg x = none) (ha : RA X cm (e :: es) mr) (hv : bootBuiltins x = some (.type T) := by decide +kernel) (hg : Gl X x := by rfl) (hn : x ≠ "__name__" := by decide) (hdb : (x == ("__debug__" : Str)) = false := by decide)
    (he : starEach (e :: es) X.env = (false, eval e X.env) :: starEach es X.env := by rfl) (hpl : (backTo pos (starEach es X.env)).any (·.1) = false := by rfl) : RE X cm (.Call (.Name x p) (e :: es) [] pos) (mCall f mr) :=
  peM (pe_callTy hc hg hm hv ha hn hdb he hpl) fun _ _ _ => cb_tE cw
end
end EL
/-! EL2b: enumerate over a tuple. -/
namespace EL
open PySem PySem.Spec L2
open PyProof.Rows hiding St
open PySem.Sem (wp)
open PySem.AutoSeq1 (wpAny_loadPart')
theorem el_enumT_new (l : Addr) (items : Array Value) (n : Nat) (dct : Option Addr) (sl : Array (Option Value)) :
    Meets (Builtin.«enumerate.__new__» ⟨[.type "enumerate", .ref l], []⟩) (fun _ R s => s.heap.get? l = some { cls := .type "tuple", dict := dct, data := .seq items n, slots := sl } ∧
      R (.ok (.ret (.ref (s.heap.push { cls := .type "tuple_iterator", data := .fields #[.ref l, .int 0 0] }).objs.size)))
        { s with heap := (s.heap.push { cls := .type "tuple_iterator", data := .fields #[.ref l, .int 0 0] }).push { cls := .type "enumerate", data := .fields #[.none, .bool false, .ref s.heap.objs.size, rawInt 0, .none, .none] } }) :=
  .of_wp fun prog w A R s h => by
    obtain ⟨hp, g, d, tk, os⟩ := s; obtain ⟨hl, h⟩ := h
    have hsub := sub_enumerate
    have hL : Heap.IsTuple (Shared.heap ⟨hp, g, d, tk, os⟩) l items := ⟨_, hl, rfl, n, rfl⟩
    wp_walk using wpAny_loadPart' hl
    refine wpAny_stack_any fun st => wpAny_pure ?_
    split
    · rename_i c _ _ _ _ _
      cases (c == Value.type "enumerate")
      · wp_walk using wpAny_loadPart' hl, wpAny_pyIter_tuple hL
        exact ⟨_, rfl, h⟩
      · wp_walk using wpAny_loadPart' hl, wpAny_pyIter_tuple hL
        exact ⟨_, rfl, h⟩
    · wp_walk using wpAny_loadPart' hl, wpAny_pyIter_tuple hL
      exact ⟨_, rfl, h⟩
section
variable {prog : Program} {w : World} {A : Around} {E : Value → Shared → Prop} {s : Shared}
theorem el_enumT {l : Addr} {items : Array Value} {Q : Value → Shared → Prop} (hL : s.heap.IsTuple l items)
    (h : ∀ h', IsEnum h' (s.heap.objs.size + 1) s.heap.objs.size 0 .none → h'.IsTupleIter s.heap.objs.size l 0 → h'.objs.size = s.heap.objs.size + 2 →
      (∀ b o, s.heap.get? b = some o → h'.get? b = some o) → Q (.ref (s.heap.objs.size + 1)) { s with heap := h' }) :
    wpAny (model prog w) A (call (.type "enumerate") [.ref l]) Q E s := by
  obtain ⟨⟨c, dct, dt, sl⟩, hl, hc, n, hd⟩ := hL
  replace hc : c = .type "tuple" := hc
  replace hd : dt = .seq items n := hd
  subst hc hd
  refine callType_new F.called_enumerate (by decide) (F.typeCall_enumerate_1 _) (F.newCall_enumerate_1 _) (fun obj => F.args_object_init_2 obj _) F.entry_enumerate_new
    (el_enumT_new l items n dct sl) ⟨hl, ?_⟩
  have hz : (s.heap.push { cls := .type "tuple_iterator", data := .fields #[.ref l, .int 0 0] }).objs.size = s.heap.objs.size + 1 := Heap.size_push ..
  show _ ∧ _
  rw [hz]
  have he : IsEnum ((s.heap.push { cls := .type "tuple_iterator", data := .fields #[.ref l, .int 0 0] }).push
      { cls := .type "enumerate", data := .fields #[.none, .bool false, .ref s.heap.objs.size, rawInt 0, .none, .none] }) (s.heap.objs.size + 1) s.heap.objs.size 0 .none := by
    have := Heap.get?_push_size (s.heap.push { cls := .type "tuple_iterator", data := .fields #[.ref l, .int 0 0] })
      (o := { cls := .type "enumerate", data := .fields #[.none, .bool false, .ref s.heap.objs.size, rawInt 0, .none, .none] }) rfl
    rw [hz] at this; exact this
  refine ⟨⟨_, he, rfl⟩, h _ he ⟨_, Heap.get?_push_of_some _ (Heap.get?_push_size _ rfl), rfl, rfl⟩ (by rw [Heap.size_push, hz]) fun b o x => Heap.get?_push_of_some _ (Heap.get?_push_of_some _ x)⟩
end
/-- the tuple at a, each item in a new pair -/
def IteT (K : PySem.W.Frag) (a : Addr) : It :=
  ⟨fun i H => ∃ (xs : List V) (x : V), SqT K H a xs ∧ xs[i]? = some x, fun i H v H' => ∃ T x, v = .ref T ∧ H T = none ∧ H' = upd H T (.tup [.int (i : Nat), x]) ∧ ∀ xs, SqT K H a xs → xs[i]? = some x, fun i H => ∃ xs : List V, SqT K H a xs ∧ xs.length ≤ i⟩
theorem turn_enumT {P : Program} {w : World} {K : PySem.W.Frag} {elts : List Expr} {kk : Nat} {tpos : Pos} (a e it : Addr) (hai : a ≠ it) :
    Turn P w K (.Tuple elts kk tpos) (IteT K a) [e, it] e (fun i h => (∃ old, IsEnum h e it ((i : Nat) : Int) old) ∧ h.IsTupleIter it a i ∧ e ≠ it ∧ e ≠ a) where
  mem := by simp
  obj := fun i h st b hb => by
    obtain ⟨⟨old, he⟩, ⟨o, ho, hc, hd⟩, _⟩ := st
    have e' : b = e ∨ b = it := by simpa using hb
    rcases e' with z | z
    · rw [z]; exact ⟨_, he, fun v q => nomatch q⟩
    · rw [z]; exact ⟨o, ho, fun v q => by rw [hd] at q; cases q⟩
  keep := fun i h h' st k => let ⟨⟨old, he⟩, hi, hne, ha⟩ := st; ⟨⟨old, k e (by simp) _ he⟩, hi.at fun o q => k it (by simp) o q, hne, ha⟩
  item := by
    intro X hP hw hK hc i pins s σ H E I hf st hg
    subst hP hw hK
    obtain ⟨⟨old, he⟩, hit, hne, hea⟩ := st
    obtain ⟨xs, x, hq, hx⟩ := hg
    obtain ⟨its, rv, p, hz⟩ := I.tuple hq
    obtain ⟨u, hu, ru⟩ := rv.get hx
    have hel : e < s.heap.objs.size := Heap.lt_size he
    have hil : it < s.heap.objs.size := by obtain ⟨_, q, _⟩ := hit; exact Heap.lt_size q
    have D := Draws.tuple (prog := X.prog) (w := X.w) (A := X.A.in1) (I.ok.hd hc) it a hai its.toArray
    have hlt : i < its.toArray.size := by
      have := (List.getElem?_eq_some_iff.mp hu).1
      simpa using this
    refine wpAny_pyNext_enum_itemC D he ⟨hit, (show s.heap.IsTuple a its.toArray from p)⟩ hlt hne (by simp [hne, hea]) fun x' h' tk hP ho hst' hT hsz hk => ?_
    have hx' : x' = u := by
      have q : its.toArray[i]? = some u := by simpa using hu
      exact Option.some.inj (hP.symm.trans q)
    subst hx'
    have hit' := hst'.1
    refine ⟨_, rfl, wpAny_letOwnedTupleGo_enum (s := { s with heap := h', toks := tk + 1 }) ho fun h'' he' sb => ?_⟩
    have hT2 : h''.get? s.heap.objs.size = some { cls := .type "tuple", data := .seq #[.int i tk, x'] } := (sb.2 _ (Nat.ne_of_gt hel)).trans hT
    have new : ObjOk X.prog X.w (upd H s.heap.objs.size (.tup [.int (i : Nat), x])) h'' s.heap.objs.size (.tup [.int (i : Nat), x]) :=
      ⟨by show 2 ≤ sizeLine; decide, [.int i tk, x'], .cons ⟨_, rfl⟩ (.cons ru .nil), ⟨_, hT2, rfl, _, rfl⟩⟩
    have I1 : Inv X pins σ (upd H s.heap.objs.size (.tup [.int (i : Nat), x])) { s with heap := h'', toks := tk + 1 } :=
      I.turnedNew (ch := [e, it]) (fun b ob hb q => (sb.2 b (fun z => hb (by simp [z]))).trans (hk b ob (fun z => hb (by simp [z])) (fun z => hb (by simp [z])) q)) hf (Nat.le_refl _) new
    refine ⟨.ref s.heap.objs.size, _, I1, rfl, ⟨_, x, rfl, I.hok.fresh (Nat.le_refl _), rfl, fun ys hy => by rw [I.tuple_inj hy hq]; exact hx⟩, ⟨⟨x', ?_⟩, hit'.at fun o q => (sb.2 it (Ne.symm hne)).trans q, hne, hea⟩, fun b hb => ?_⟩
    · have e1 : ((i + 1 : Nat) : Int) = (i : Int) + 1 := by omega
      rw [e1]; exact he'
    · have hb' : b < s.heap.objs.size := by
        have e' : b = e ∨ b = it := by simpa using hb
        rcases e' with z | z
        · rw [z]; exact hel
        · rw [z]; exact hil
      rw [upd_ne (Nat.ne_of_lt hb')]
      exact (hf b hb).1
  done := by
    intro X hP hw hK hc i pins s σ H E I hf st hg
    subst hP hw hK
    obtain ⟨⟨old, he⟩, hit, hne, hea⟩ := st
    obtain ⟨xs, hq, hx⟩ := hg
    obtain ⟨its, rv, p, hz⟩ := I.tuple hq
    obtain ⟨f0, f1, f2, f3, f4, f5⟩ := hf it (by simp)
    have hl := rv.length
    have hT : s.TypeIs (.ref e) "enumerate" := ⟨_, he, rfl⟩
    unfold pyNext
    refine wpAny_bind (wpAny_attempt (wpAny_callSpecial?_slot (name := Str.ofString "__next__") hT F.slot_enumerate_next
      (wpAny_call_entry F.slot_enumerate_next hT F.entry_enumerate_next ?_ (F.args_enumerate_next_1 _))))
    show wpAny _ _ (field (.ref e) 2 >>= _) _ _ _
    refine wpAny_bind (wpAny_field he rfl (x := .ref it) rfl ?_)
    refine wpAny_bind (wpAny_nextOf_tuple_end (A := X.A.in1) (I.ok.hd hc) hit (show s.heap.IsTuple a its.toArray from p) (by simp; omega) fun h' x he' hx' => ?_)
    obtain ⟨o, ho, hc'⟩ := hx'
    refine wpAny_bind (wpAny_isInstance (T := "StopIteration") (b := true) ⟨o, ho, hc'⟩ isSubtype_stop ?_)
    exact wpAny_pure ⟨rfl, I.turned (t' := s.toks) (fun b o hb q => he' b o hb q) f0 f1 f3 f4 f5⟩
  self := fun A i s Q E st h => let ⟨⟨_, he⟩, _⟩ := st; wpAny_pyIter_enum he h
/-- enumerate(v), v a list or a tuple -/
def iEnum2 (K : PySem.W.Frag) (ta : TA) : TI := fun σ H R => ta σ H fun vs H1 => ∃ a, vs = [.ref a] ∧ ((∃ xs, SqL K H1 a xs ∧ R (Ite K a) H1) ∨ ∃ xs, SqT K H1 a xs ∧ R (IteT K a) H1)
theorem pi_enum2 {X : Cx} {e : Expr} {ta : TA} {p pos tpos : Pos} {elts : List Expr} {kk : Nat} (hg : Gl X "enumerate") (hm : X.mg "enumerate" = none) (ha : PA X [e] ta) (hs : starEach [e] X.env = [(false, eval e X.env)] := by rfl) :
    PI X (.Tuple elts kk tpos) (.Call (.Name "enumerate" p) [e] [] pos) (iEnum2 X.K ta) := by
  refine ⟨fun pins s σ H R I h => ?_⟩
  refine Call_ (ld_blt I hg hm boot_enumerate (PyProof.Rows.callWith_type1 (thn (ha.run pos pins s σ H _ I h) fun us s1 ⟨vs, H1, I1, r1, q1⟩ => ?_) hs rfl))
  obtain ⟨a, ex, q⟩ := q1
  subst ex
  cases r1 with
  | cons r rr =>
    cases rr
    cases r
    have fresh : ∀ (b : Addr), b ∈ [s1.heap.objs.size + 1, s1.heap.objs.size] → FpOk X pins H1 b := fun b hb => by
      have e' : b = s1.heap.objs.size + 1 ∨ b = s1.heap.objs.size := by simpa using hb
      have hle : s1.heap.objs.size ≤ b := by
        rcases e' with z | z
        · rw [z]; exact Nat.le_add_right _ _
        · rw [z]; exact Nat.le_refl _
      exact I1.fpOk hle (I1.hok.fresh hle)
    rcases q with ⟨xs, hq, q⟩ | ⟨xs, hq, q⟩
    · obtain ⟨its, rv, p', hz⟩ := I1.list hq
      refine call_enumerate_list p'.isList fun h' he hit hsz hk => wpAny_pyIter_enum he ?_
      have I2 : Inv X pins σ H1 { s1 with heap := h' } := I1.kept (t' := s1.toks) hk
      exact ⟨s1.heap.objs.size + 1, [s1.heap.objs.size + 1, s1.heap.objs.size], _, _, H1, rfl, I2, turn_enum a (s1.heap.objs.size + 1) s1.heap.objs.size, ⟨⟨.none, he⟩, hit, Nat.succ_ne_self _⟩, fresh, q⟩
    · obtain ⟨its, rv, p', hz⟩ := I1.tuple hq
      have hT : s1.heap.IsTuple a its.toArray := p'
      have hal : a < s1.heap.objs.size := by obtain ⟨_, q, _⟩ := hT; exact Heap.lt_size q
      refine el_enumT hT fun h' he hit hsz hk => wpAny_pyIter_enum he ?_
      have I2 : Inv X pins σ H1 { s1 with heap := h' } := I1.kept (t' := s1.toks) hk
      exact ⟨s1.heap.objs.size + 1, [s1.heap.objs.size + 1, s1.heap.objs.size], _, _, H1, rfl, I2, turn_enumT a (s1.heap.objs.size + 1) s1.heap.objs.size (Nat.ne_of_lt hal), ⟨⟨.none, he⟩, hit, Nat.succ_ne_self _, Nat.ne_of_gt (Nat.lt_succ_of_lt hal)⟩, fresh, q⟩
end EL
/-! EL2c: enumerate over a text. -/
namespace EL
open PySem PySem.Spec L2
open PyProof.Rows hiding St
open PySem.Sem (wp)
/-- the text's signs, each in a new pair -/
def IteS (x : Str) : It :=
  ⟨fun i _ => i < x.cps.size, fun i H v H' => ∃ T c, v = .ref T ∧ H T = none ∧ H' = upd H T (.tup [.int (i : Nat), .str ⟨#[c]⟩]) ∧ x.cps[i]? = some c, fun i _ => x.cps.size ≤ i⟩
theorem turn_enumS {P : Program} {w : World} {K : PySem.W.Frag} {elts : List Expr} {kk : Nat} {tpos : Pos} (x : Str) (t : Tok) (e it : Addr) :
    Turn P w K (.Tuple elts kk tpos) (IteS x) [e, it] e (fun i h => (∃ old, IsEnum h e it ((i : Nat) : Int) old) ∧ h.IsStrIter it (strIterType x) x t (min i x.cps.size) ∧ e ≠ it) where
  mem := by simp
  obj := fun i h st b hb => by
    obtain ⟨⟨old, he⟩, ⟨o, ho, hc, hd⟩, _⟩ := st
    have e' : b = e ∨ b = it := by simpa using hb
    rcases e' with z | z
    · rw [z]; exact ⟨_, he, fun v q => nomatch q⟩
    · rw [z]; exact ⟨o, ho, fun v q => by rw [hd] at q; cases q⟩
  keep := fun i h h' st k => let ⟨⟨old, he⟩, ⟨o, ho, r⟩, hne⟩ := st; ⟨⟨old, k e (by simp) _ he⟩, ⟨o, k it (by simp) o ho, r⟩, hne⟩
  item := by
    intro X hP hw hK hc i pins s σ H E I hf st hg
    subst hP hw hK
    obtain ⟨⟨old, he⟩, hit, hne⟩ := st
    have hlt : i < x.cps.size := hg
    rw [Nat.min_eq_left (Nat.le_of_lt hlt)] at hit
    have hel : e < s.heap.objs.size := Heap.lt_size he
    have hil : it < s.heap.objs.size := by obtain ⟨_, q, _⟩ := hit; exact Heap.lt_size q
    have D := Draws.text (prog := X.prog) (w := X.w) (A := X.A.in1) (I.ok.hd hc) it x t
    refine wpAny_pyNext_enum_itemC D he hit hlt hne (by simp [hne]) fun x' h' tk hP ho hst' hT hsz hk => ?_
    obtain ⟨c, u, hc', rfl⟩ := hP
    refine ⟨_, rfl, wpAny_letOwnedTupleGo_enum (s := { s with heap := h', toks := tk + 1 }) ho fun h'' he' sb => ?_⟩
    have hT2 : h''.get? s.heap.objs.size = some { cls := .type "tuple", data := .seq #[.int i tk, .str ⟨#[c]⟩ u] } := (sb.2 _ (Nat.ne_of_gt hel)).trans hT
    have new : ObjOk X.prog X.w (upd H s.heap.objs.size (.tup [.int (i : Nat), .str ⟨#[c]⟩])) h'' s.heap.objs.size (.tup [.int (i : Nat), .str ⟨#[c]⟩]) :=
      ⟨by show 2 ≤ sizeLine; decide, [.int i tk, .str ⟨#[c]⟩ u], .cons ⟨_, rfl⟩ (.cons ⟨_, rfl⟩ .nil), ⟨_, hT2, rfl, _, rfl⟩⟩
    have I1 : Inv X pins σ (upd H s.heap.objs.size (.tup [.int (i : Nat), .str ⟨#[c]⟩])) { s with heap := h'', toks := tk + 1 } :=
      I.turnedNew (ch := [e, it]) (fun b ob hb q => (sb.2 b (fun z => hb (by simp [z]))).trans (hk b ob (fun z => hb (by simp [z])) (fun z => hb (by simp [z])) q)) hf (Nat.le_refl _) new
    refine ⟨.ref s.heap.objs.size, _, I1, rfl, ⟨_, c, rfl, I.hok.fresh (Nat.le_refl _), rfl, hc'⟩, ⟨⟨.str ⟨#[c]⟩ u, ?_⟩, ?_, hne⟩, fun b hb => ?_⟩
    · have e1 : ((i + 1 : Nat) : Int) = (i : Int) + 1 := by omega
      rw [e1]; exact he'
    · rw [Nat.min_eq_left hlt]
      obtain ⟨o, ho2, r⟩ := hst'
      exact ⟨o, (sb.2 it (Ne.symm hne)).trans ho2, r⟩
    · have hb' : b < s.heap.objs.size := by
        have e' : b = e ∨ b = it := by simpa using hb
        rcases e' with z | z
        · rw [z]; exact hel
        · rw [z]; exact hil
      rw [upd_ne (Nat.ne_of_lt hb')]
      exact (hf b hb).1
  done := by
    intro X hP hw hK hc i pins s σ H E I hf st hg
    subst hP hw hK
    obtain ⟨⟨old, he⟩, hit, hne⟩ := st
    rw [Nat.min_eq_right hg] at hit
    obtain ⟨f0, f1, f2, f3, f4, f5⟩ := hf it (by simp)
    have hT : s.TypeIs (.ref e) "enumerate" := ⟨_, he, rfl⟩
    have D := Draws.text (prog := X.prog) (w := X.w) (A := X.A.in1) (I.ok.hd hc) it x t
    unfold pyNext
    refine wpAny_bind (wpAny_attempt (wpAny_callSpecial?_slot (name := Str.ofString "__next__") hT F.slot_enumerate_next
      (wpAny_call_entry F.slot_enumerate_next hT F.entry_enumerate_next ?_ (F.args_enumerate_next_1 _))))
    show wpAny _ _ (field (.ref e) 2 >>= _) _ _ _
    refine wpAny_bind (wpAny_field he rfl (x := .ref it) rfl ?_)
    refine wpAny_bind (D.done s _ _ hit fun h' y he' hx' => ?_)
    obtain ⟨o, ho, hc'⟩ := hx'
    refine wpAny_bind (wpAny_isInstance (T := "StopIteration") (b := true) ⟨o, ho, hc'⟩ isSubtype_stop ?_)
    exact wpAny_pure ⟨rfl, I.turned (t' := s.toks) (fun b o hb q => he' b o hb q) f0 f1 f3 f4 f5⟩
  self := fun A i s Q E st h => let ⟨⟨_, he⟩, _⟩ := st; wpAny_pyIter_enum he h
/-- enumerate(v), v a text -/
def iEnumS (ta : TA) : TI := fun σ H R => ta σ H fun vs H1 => ∃ x, vs = [.str x] ∧ R (IteS x) H1
theorem pi_enumS {X : Cx} {e : Expr} {ta : TA} {p pos tpos : Pos} {elts : List Expr} {kk : Nat} (hg : Gl X "enumerate") (hm : X.mg "enumerate" = none) (ha : PA X [e] ta) (hs : starEach [e] X.env = [(false, eval e X.env)] := by rfl) :
    PI X (.Tuple elts kk tpos) (.Call (.Name "enumerate" p) [e] [] pos) (iEnumS ta) := by
  refine ⟨fun pins s σ H R I h => ?_⟩
  refine Call_ (ld_blt I hg hm boot_enumerate (PyProof.Rows.callWith_type1 (thn (ha.run pos pins s σ H _ I h) fun us s1 ⟨vs, H1, I1, r1, q1⟩ => ?_) hs rfl))
  obtain ⟨x, ex, q⟩ := q1
  subst ex
  cases r1 with
  | cons r rr =>
    cases rr
    obtain ⟨t, rfl⟩ := (show ∃ t, _ = Value.str x t from r)
    have fresh : ∀ (b : Addr), b ∈ [s1.heap.objs.size + 1, s1.heap.objs.size] → FpOk X pins H1 b := fun b hb => by
      have e' : b = s1.heap.objs.size + 1 ∨ b = s1.heap.objs.size := by simpa using hb
      have hle : s1.heap.objs.size ≤ b := by
        rcases e' with z | z
        · rw [z]; exact Nat.le_add_right _ _
        · rw [z]; exact Nat.le_refl _
      exact I1.fpOk hle (I1.hok.fresh hle)
    refine call_enumerate_str fun h' he hit hsz hk => wpAny_pyIter_enum he ?_
    have I2 : Inv X pins σ H1 { s1 with heap := h' } := I1.kept (t' := s1.toks) hk
    exact ⟨s1.heap.objs.size + 1, [s1.heap.objs.size + 1, s1.heap.objs.size], _, _, H1, rfl, I2, turn_enumS x t (s1.heap.objs.size + 1) s1.heap.objs.size, ⟨⟨.none, he⟩, by rw [Nat.zero_min]; exact hit, Nat.succ_ne_self _⟩, fresh, q⟩
end EL
namespace EL
open PySem PySem.Spec L2
open PyProof.Rows hiding St

/-! ### statements -/
section
variable {X : Cx} {cm : Cm} {e a b c tg : Expr} {st : Stmt} {sts sts' : List Stmt} {ma mb mc : ME} {mr : MA} {mt : MT} {m m1 m2 : MS} {g : MG} {pos : Pos} {vs : List Nat}
theorem rss_nil : RSs X cm [] sNil := by
  refine pssM pss_nil fun D σ H q => ?_
  obtain ⟨ρ, h, sw, f, h', rh, rs, e, k⟩ := q
  cases e
  exact k ρ H σ .refl rh rs
theorem rss_cons (h1 : RS X cm st m1) (h2 : RSs X cm sts m2) : RSs X cm (st :: sts) (sSeq m1 m2) := by
  refine pssM (pss_cons h1 h2) fun D σ H q => ?_
  obtain ⟨ρ, h, sw, f, h', rh, rs, e, k⟩ := q
  obtain ⟨f1, h1, e1, e2⟩ := bnd_ok e
  refine ⟨ρ, h, sw, f1, h1, rh, rs, e1, ?_⟩
  cases f1 with
  | nx s => exact fun ρ1 H1 σ1 l1 rh1 rs1 => ⟨ρ1, h1, s, f, h', rh1, rs1, e2, k.le l1⟩
  | rt w => cases e2; exact k
  | bk s => cases e2; exact k
  | ct s => cases e2; exact k
theorem rss_one (h1 : RS X cm st m1) : RSs X cm [st] m1 := pss_one h1
theorem rs_if (hc : RT X cm c mt) (ha : RSs X cm sts m1) (hb : RSs X cm sts' m2) : RS X cm (.If c sts sts' pos) (sIf mt m1 m2) := by
  refine psM (ps_if hc ha hb) fun D σ H q => ?_
  obtain ⟨ρ, h, sw, f, h', rh, rs, e, k⟩ := q
  obtain ⟨x, h1, e1, e2⟩ := bnd_ok e
  refine ⟨ρ, h, sw, x, h1, rh, rs, e1, fun ρ1 H1 l1 rh1 => ?_⟩
  cases x with
  | true => exact iteT ⟨ρ1, h1, sw, f, h', rh1, rs.mono l1, e2, k.le l1⟩
  | false => exact iteF ⟨ρ1, h1, sw, f, h', rh1, rs.mono l1, e2, k.le l1⟩
theorem rs_ret (ha : RE X cm e ma) : RS X cm (.Return (some e) pos) (sRet ma) := by
  refine psM (ps_ret ha) fun D σ H q => ?_
  obtain ⟨ρ, h, sw, f, h', rh, rs, e, k⟩ := q
  obtain ⟨x, h1, e1, e2⟩ := bnd_ok e
  cases e2
  exact ⟨ρ, h, sw, x, h', rh, rs, e1, k⟩
def sRetN : MS := fun _ => rtn (.rt .non)
theorem rs_retN : RS X cm (.Return none pos) sRetN := by
  refine psM ps_retN fun D σ H q => ?_
  obtain ⟨ρ, h, sw, f, h', rh, rs, e, k⟩ := q
  cases e
  exact k ρ H .non .refl rh .non
theorem rs_expr (ha : RE X cm e ma) (hs : swapsWith e none pos.line X.env = pure false := by rfl) : RS X cm (.Expr e pos) (sExp ma) := by
  refine psM (ps_expr ha hs) fun D σ H q => ?_
  obtain ⟨ρ, h, sw, f, h', rh, rs, e, k⟩ := q
  obtain ⟨x, h1, e1, e2⟩ := bnd_ok e
  cases e2
  exact ⟨ρ, h, sw, x, h', rh, rs, e1, fun ρ1 H1 v l1 rh1 _ => k ρ1 H1 σ l1 rh1 (rs.mono l1)⟩
theorem rs_pass : RS X cm (.Pass pos) sNil := by
  refine psM ps_pass fun D σ H q => ?_
  obtain ⟨ρ, h, sw, f, h', rh, rs, e, k⟩ := q
  cases e
  exact k ρ H σ .refl rh rs
theorem rs_brk : RS X cm (.Break pos) sBrk := by
  refine psM ps_break fun D σ H q => ?_
  obtain ⟨ρ, h, sw, f, h', rh, rs, e, k⟩ := q
  cases e
  exact k ρ H σ .refl rh rs
theorem rs_cnt : RS X cm (.Continue pos) sCnt := by
  refine psM ps_continue fun D σ H q => ?_
  obtain ⟨ρ, h, sw, f, h', rh, rs, e, k⟩ := q
  cases e
  exact k ρ H σ .refl rh rs
/-- what is never reached -/
theorem rs_bad : RS X cm st (fun _ => bad) := by
  refine psM ps_never fun D σ H q => ?_
  obtain ⟨ρ, h, sw, f, h', rh, rs, e, k⟩ := q
  cases e
theorem rg_name (i : Nat) {x : Str} (hN : X.N.Nodup) (hv : i ∈ vs := by decide) (hi : X.N[i]? = some x := by rfl) (hx : Loc X.env.scope x := by first | exact Or.inl rfl | exact Or.inr rfl) (hf : X.fn x = true ∨ X.env.scope.names.lookup x = some .local := by first | exact .inl rfl | exact .inr rfl | assumption) : RG X cm vs (.Name x pos) (gNm i) := by
  refine pgM (pg_name (i := i) hN hi hx hf) fun v σ H Q q => ?_
  obtain ⟨ρ, h, sw, w, s, h', rh, rs, rw', e, k⟩ := q
  cases e
  exact k ρ H _ (.set hv) .refl rh (rs.set rw' i)
/-- targets one after another -/
def gsNil : List W → SW → M SW := fun ws sw => if ws.isEmpty then rtn sw else bad
def gsCons (g : MG) (r : List W → SW → M SW) : List W → SW → M SW := fun ws sw => match ws with
  | w :: ws => bnd (g w sw) fun s => r ws s
  | [] => bad
def tGs (K : PySem.W.Frag) (cm : Cm) (ps : List Nat) (m : List W → SW → M SW) : TGs := fun vs σ H Q => ∃ ρ h sw ws s h', RelH K cm ρ h H ∧ RelS K ρ H sw σ ∧ Rels K ρ H ws vs ∧ m ws sw h = .ok s h' ∧ ∀ ρ' H' σ', But ps σ σ' → Le K ρ H ρ' H' → RelH K cm ρ' h' H' → RelS K ρ' H' s σ' → Q σ' H'
abbrev RGs (X : Cx) (cm : Cm) (vs : List Nat) (tg : List Expr) (m : List W → SW → M SW) : Prop := PGs X tg (tGs X.K cm vs m)
theorem rgs_nil : RGs X cm vs [] gsNil := ⟨fun pins s σ H xs us Q I r q => by
  refine pgs_nil.run pins s σ H xs us Q I r ?_
  obtain ⟨ρ, h, sw, ws, s, h', rh, rs, rw', e, k⟩ := q
  cases rw' with
  | nil =>
    cases e
    exact ⟨rfl, k ρ H σ .refl .refl rh rs⟩
  | cons _ _ => cases e⟩
theorem rgs_cons {es : List Expr} {g : MG} {r : List W → SW → M SW} (h1 : RG X cm vs e g) (h2 : RGs X cm vs es r) (hs : (assignEach (e :: es) X.env).map (·.2) = assign e X.env :: (assignEach es X.env).map (·.2) := by rfl) : RGs X cm vs (e :: es) (gsCons g r) := ⟨fun pins s σ H xs us Q I r q => by
  refine (pgs_cons h1 h2 hs).run pins s σ H xs us Q I r ?_
  obtain ⟨ρ, h, sw, ws, s, h', rh, rs, rw', e, k⟩ := q
  cases rw' with
  | nil => cases e
  | cons q1 q2 =>
    obtain ⟨s1, h1, e1, e2⟩ := bnd_ok e
    refine ⟨_, _, rfl, ρ, h, sw, _, s1, h1, rh, rs, q1, e1, fun ρ1 H1 σ1 b1 l1 rh1 rs1 => ?_⟩
    exact ⟨ρ1, h1, s1, _, s, h', rh1, rs1, q2.mono l1, e2, fun ρ2 H2 σ2 b2 l2 => k ρ2 H2 σ2 (b1.trans b2) (l1.trans l2)⟩⟩
def gTu (n : Nat) (r : List W → SW → M SW) : MG := fun w sw => match w with
  | .tup ws => if ws.length = n then r ws sw else bad
  | _ => bad
theorem rg_tup {es : List Expr} {r : List W → SW → M SW} {k0 : Nat} {n : Nat} (hc : X.calm = true) (h : RGs X cm vs es r) (hn : (assignEach es X.env).length = n := by rfl) (hst : (assignEach es X.env).findIdx? (·.1) = none := by rfl) : RG X cm vs (.Tuple es k0 pos) (gTu n r) := by
  refine pgM (pg_tup hc h hn hst) fun v σ H Q q => ?_
  obtain ⟨ρ, h, sw, w, s, h', rh, rs, rw', e, k⟩ := q
  cases rw' with
  | tup hq r =>
    have e' : (if _ then _ else bad) h = R.ok s h' := e
    split at e'
    · rename_i hl
      exact ⟨_, _, rfl, hq, by rw [← r.length]; exact hl, ρ, h, sw, _, s, h', rh, rs, r, e', k⟩
    · cases e'
  | _ => cases e
theorem rs_asg (he : RE X cm e ma) (hg : RG X cm vs tg g) (hs : swapsWithSole [tg] e pos.line X.env = pure false := by rfl) (hw : swappedStores [tg] e X.env = pure none := by rfl)
    (h1 : (assignEach [tg] X.env).map (·.2) = [assign tg X.env] := by rfl) : RS X cm (.Assign [tg] e pos) (sAsg g ma) := by
  refine psM (ps_asg he hg hs hw h1) fun D σ H q => ?_
  obtain ⟨ρ, h, sw, f, h', rh, rs, e, k⟩ := q
  obtain ⟨x, h1, e1, e2⟩ := bnd_ok e
  obtain ⟨s, h2, e3, e4⟩ := bnd_ok e2
  cases e4
  refine ⟨ρ, h, sw, x, h1, rh, rs, e1, fun ρ1 H1 v l1 rh1 rv => ?_⟩
  exact ⟨ρ1, h1, sw, x, s, h', rh1, rs.mono l1, rv, e3, fun ρ2 H2 σ2 _ l2 => k ρ2 H2 σ2 (l1.trans l2)⟩
/-- name op= e -/
def sAug (i : Nat) (f : W → W → M W) (ma : ME) : MS := fun sw => bnd (mVar i sw) fun x => bnd (ma sw) fun y => bnd (f x y) fun z => rtn (.nx (sw.set i (some z)))
def IpW (K : PySem.W.Frag) (cm : Cm) (r : TIp) (f : W → W → M W) : Prop :=
  ∀ ρ h H x y x' y' z h' Q, RelH K cm ρ h H → Rel K ρ H x x' → Rel K ρ H y y' → f x y h = .ok z h' → KE K cm ρ H z h' Q → r x' y' H Q
theorem rs_aug (i : Nat) {x : Str} {op : Operator} {ti : TIp} {f : W → W → M W} {pos' : Pos} (hN : X.N.Nodup) (he : RE X cm e ma) (ho : PIp X op ti) (ow : IpW X.K cm ti f) (hi : X.N[i]? = some x := by rfl) (hx : Loc X.env.scope x := by first | exact Or.inl rfl | exact Or.inr rfl)
    (hf : X.fn x = true ∨ X.env.scope.names.lookup x = some .local := by first | exact .inl rfl | exact .inr rfl | assumption) : RS X cm (.AugAssign (.Name x pos') op e pos) (sAug i f ma) := by
  refine psM (ps_aug (i := i) hN hi hx he ho hf) fun D σ H q => ?_
  obtain ⟨ρ, h, sw, fl, h', rh, rs, e, k⟩ := q
  obtain ⟨x0, h0, e0, e⟩ := bnd_ok e
  obtain ⟨y, h1, e1, e2⟩ := bnd_ok e
  obtain ⟨z, h2, e3, e4⟩ := bnd_ok e2
  cases e4
  unfold mVar at e0
  split at e0
  · cases e0
    obtain ⟨v, hv, rv⟩ := rs.2 i _ (by assumption)
    refine ⟨v, hv, ρ, h, sw, y, h1, rh, rs, e1, fun ρ1 H1 y' l1 rh1 ry => ?_⟩
    refine ow ρ1 h1 H1 _ _ _ _ _ _ _ rh1 (rv.mono l1) ry e3 fun ρ2 H2 z' l2 rh2 rz => ?_
    exact k ρ2 H2 _ (l1.trans l2) rh2 ((rs.mono (l1.trans l2)).set rz i)
  · cases e0
/-- o[i] = e, o[i] of a list -/
def wSet (o i v : W) : M Unit := fun h => match o, i with
  | .ref p, .int k => match h[p]? with
    | some (.lst xs) => match ixN xs.length k with
      | some j => .ok () (h.set p (.lst (xs.set j v)))
      | none => .no
    | _ => .no
  | _, _ => .no
def gSubL (mo mi : ME) : MG := fun w sw => bnd (mo sw) fun o => bnd (mi sw) fun i => bnd (wSet o i w) fun _ => rtn sw
theorem rg_sub {o i : Expr} {mo mi : ME} (ho : RE X cm o mo) (hi : RE X cm i mi)
    (ha : ∀ v, assign (.Subscript o i pos) X.env v = (do
      let ov ← holding [v] (eval o X.env)
      let iv ← holding [v, ov] (eval i X.env)
      standAt pos
      holding [v, ov, iv] (setItem ov iv v)
      release [v, ov, iv] []) := by intro _; rfl) : RG X cm vs (.Subscript o i pos) (gSubL mo mi) := by
  refine pgM (pg_sub ho hi set_list ha) fun v σ H Q q => ?_
  obtain ⟨ρ, h, sw, w, s, h', rh, rs, rw', e, k⟩ := q
  obtain ⟨x, h1, e1, e2⟩ := bnd_ok e
  obtain ⟨y, h2, e3, e4⟩ := bnd_ok e2
  obtain ⟨u, h3, e5, e6⟩ := bnd_ok e4
  cases e6
  refine ⟨ρ, h, sw, x, h1, rh, rs, e1, fun ρ1 H1 x' l1 rh1 rx => ?_⟩
  refine ⟨ρ1, h1, sw, y, h2, rh1, rs.mono l1, e3, fun ρ2 H2 y' l2 rh2 ry => ?_⟩
  cases rx with
  | @ref p a hp =>
    cases ry with
    | int j =>
      have e5' : (match h2[p]? with
        | some (.lst xs) => (match ixN xs.length j with
          | some j => R.ok () (h2.set p (.lst (xs.set j w)))
          | none => R.no)
        | _ => R.no) = .ok u h' := e5
      obtain ⟨o, ho, ro⟩ := rh2.at (w := .non) (pre_get l2.pre hp)
      rw [ho] at e5'
      cases o with
      | lst xs =>
        obtain ⟨ys, ea, rxs⟩ := ro
        simp only at e5'
        split at e5'
        · rename_i jj hj
          cases e5'
          have lu : Le X.K ρ2 H2 ρ2 (upd H2 a (.lst (ys.set jj v))) := le_mut ea trivial
          refine ⟨a, ys, j, jj, rfl, rfl, ea, by rw [← rxs.length]; exact hj, ?_⟩
          refine k ρ2 _ σ .refl (l1.trans (l2.trans lu)) (rh2.set (pre_get l2.pre hp) ea trivial ⟨_, upd_same, ?_⟩) (rs.mono (l1.trans (l2.trans lu)))
          exact (rxs.set (rw'.mono (l1.trans l2)) jj).mono lu
        · cases e5'
      | _ => cases e5'
    | _ => cases e5
  | _ => cases ry <;> cases e5
end

/-! ### while -/
def sWhile (c : MT) (b : MS) : Nat → MS
  | 0 => fun _ => bad
  | n + 1 => fun sw => bnd (c sw) fun x => if x = true then bnd (b sw) fun f => match f with
      | .nx s => sWhile c b n s
      | .ct s => sWhile c b n s
      | .bk s => rtn (.nx s)
      | .rt w => rtn (.rt w)
    else rtn (.nx sw)
section
variable {X : Cx} {cm : Cm} {c : Expr} {body : List Stmt} {mt : MT} {m : MS} {pos : Pos}
theorem rs_while (N : Nat) (hp : PassesOwn (model X.prog X.w) X.A X.env X.xe) (hc : RT X cm c mt) (hb : RSs X cm body m) : RS X cm (.While c body [] pos) (sWhile mt m N) := by
  refine psM (ps_while hp hc hb) fun D σ H q => ?_
  obtain ⟨ρ, h, sw, f, h', rh, rs, e, k⟩ := q
  refine ⟨fun n σ1 H1 => ∃ ρ1 h1 sw1, Le X.K ρ H ρ1 H1 ∧ RelH X.K cm ρ1 h1 H1 ∧ RelS X.K ρ1 H1 sw1 σ1 ∧ sWhile mt m n sw1 h1 = .ok f h', ⟨N, ρ, h, sw, .refl, rh, rs, e⟩, fun n σ1 H1 w => ?_⟩
  obtain ⟨ρ1, h1, sw1, l1, rh1, rs1, e1⟩ := w
  cases n with
  | zero => cases e1
  | succ n =>
    obtain ⟨x, h2, e2, e3⟩ := bnd_ok e1
    refine ⟨ρ1, h1, sw1, x, h2, rh1, rs1, e2, fun ρ2 H2 l2 rh2 => ?_⟩
    cases x with
    | false =>
      cases e3
      exact iteF (k ρ2 H2 σ1 (l1.trans l2) rh2 (rs1.mono l2))
    | true =>
      obtain ⟨f1, h3, e4, e5⟩ := bnd_ok e3
      refine iteT ⟨fun σ3 H3 => ∃ ρ3 h3 sw3, Le X.K ρ H ρ3 H3 ∧ RelH X.K cm ρ3 h3 H3 ∧ RelS X.K ρ3 H3 sw3 σ3 ∧ sWhile mt m n sw3 h3 = .ok f h', fun σ3 H3 z => ⟨n, Nat.lt_succ_self n, z⟩, ?_⟩
      refine ⟨ρ2, h2, sw1, f1, h3, rh2, rs1.mono l2, e4, ?_⟩
      cases f1 with
      | nx s => exact fun ρ3 H3 σ3 l3 rh3 rs3 => ⟨ρ3, h3, s, l1.trans (l2.trans l3), rh3, rs3, e5⟩
      | ct s => exact fun ρ3 H3 σ3 l3 rh3 rs3 => ⟨ρ3, h3, s, l1.trans (l2.trans l3), rh3, rs3, e5⟩
      | bk s =>
        cases e5
        exact fun ρ3 H3 σ3 l3 rh3 rs3 => k ρ3 H3 σ3 (l1.trans (l2.trans l3)) rh3 rs3
      | rt w =>
        cases e5
        exact fun ρ3 H3 v l3 rh3 rv => k ρ3 H3 v (l1.trans (l2.trans l3)) rh3 rv
end

/-! ### for -/
/-- what is walked: the items, and what must stand still meanwhile -/
inductive Src where
  | lst (p : Nat) | tup (xs : List W) | rol (xs : List W) | rng (lo : Int) (n : Nat) | str (x : Str) | dit (p : Nat) | dky (p : Nat) | dvl (p : Nat) | enu (p : Nat) | enr (xs : List W) | enuT (xs : List W) | enuS (x : Str)
def kW : Key → W
  | .inl i => .int i
  | .inr x => .str x
/-- the item at a turn; none: the end -/
def Src.item (s : Src) (i : Nat) (h : Hw) : Option (Option W) := match s with
  | .lst p => match h[p]? with
    | some (.lst xs) => some xs[i]?
    | _ => none
  | .tup xs => some xs[i]?
  | .rol xs => some xs[i]?
  | .rng lo n => some (if i < n then some (.int (lo + i)) else none)
  | .str x => some (x.cps[i]?.map fun c => .str ⟨#[c]⟩)
  | .dit p => match h[p]? with
    | some (.dF kvs) => some (kvs[i]?.map fun kv => .tup [kW kv.1, kv.2])
    | _ => none
  | .dky p => match h[p]? with
    | some (.dF kvs) => some (kvs[i]?.map fun kv => kW kv.1)
    | _ => none
  | .dvl p => match h[p]? with
    | some (.dF kvs) => some (kvs[i]?.map fun kv => kv.2)
    | _ => none
  | .enu p => match h[p]? with
    | some (.lst xs) => some (xs[i]?.map fun x => .tup [.int i, x])
    | _ => none
  | .enr xs => some (xs[i]?.map fun x => .tup [.int i, x])
  | .enuT xs => some (xs[i]?.map fun x => .tup [.int i, x])
  | .enuS x => some (x.cps[i]?.map fun c => .tup [.int i, .str ⟨#[c]⟩])
def sFor (src : Src) (g : MG) (b : MS) : Nat → Nat → MS
  | _, 0 => fun _ => bad
  | i, n + 1 => fun sw h => match src.item i h with
    | none => .no
    | some none => .ok (.nx sw) h
    | some (some x) => bnd (g x sw) (fun s => bnd (b s) fun f => match f with
      | .nx s => sFor src g b (i + 1) n s
      | .ct s => sFor src g b (i + 1) n s
      | .bk s => rtn (.nx s)
      | .rt w => rtn (.rt w)) h
/-- how a source lies: its iterator -/
def SrcR (K : PySem.W.Frag) (ρ : List Addr) (H : Hp) (src : Src) (J : It) : Prop := match src with
  | .lst p => ∃ a, ρ[p]? = some a ∧ J = Itl K a
  | .tup xs => ∃ a vs, SqT K H a vs ∧ Rels K ρ H xs vs ∧ J = Itt K a
  | .rol xs => ∃ a vs, SqP K H a vs ∧ Rels K ρ H xs vs ∧ J = Itl K a
  | .rng lo n => J = Itr lo n
  | .str x => J = Its x
  | .dit p => ∃ a o kv, ρ[p]? = some a ∧ H a = some (.frz o (.dK kv)) ∧ J = Iti a o kv
  | .dky p => ∃ a o kv, ρ[p]? = some a ∧ H a = some (.frz o (.dK kv)) ∧ J = Itk a o kv
  | .dvl p => ∃ a o kv, ρ[p]? = some a ∧ H a = some (.frz o (.dK kv)) ∧ J = Itd a o kv
  | .enu p => ∃ a, ρ[p]? = some a ∧ J = Ite K a
  | .enr xs => ∃ a vs, SqP K H a vs ∧ Rels K ρ H xs vs ∧ J = Ite K a
  | .enuT xs => ∃ a vs, SqT K H a vs ∧ Rels K ρ H xs vs ∧ J = IteT K a
  | .enuS x => J = IteS x
theorem SrcR.mono {K : PySem.W.Frag} {ρ ρ' : List Addr} {H H' : Hp} {src : Src} {J : It} (l : Le K ρ H ρ' H') (r : SrcR K ρ H src J) : SrcR K ρ' H' src J := by
  cases src with
  | lst p => obtain ⟨a, h1, h2⟩ := r; exact ⟨a, pre_get l.pre h1, h2⟩
  | tup xs => obtain ⟨a, vs, h1, h2, h3⟩ := r; exact ⟨a, vs, l.sq _ _ h1, h2.mono l, h3⟩
  | rol xs => obtain ⟨a, vs, h1, h2, h3⟩ := r; exact ⟨a, vs, l.sl _ _ h1, h2.mono l, h3⟩
  | rng lo n => exact r
  | str x => exact r
  | dit p => obtain ⟨a, o, kv, h1, h2, h3⟩ := r; exact ⟨a, o, kv, pre_get l.pre h1, l.fz _ _ _ h2, h3⟩
  | dky p => obtain ⟨a, o, kv, h1, h2, h3⟩ := r; exact ⟨a, o, kv, pre_get l.pre h1, l.fz _ _ _ h2, h3⟩
  | dvl p => obtain ⟨a, o, kv, h1, h2, h3⟩ := r; exact ⟨a, o, kv, pre_get l.pre h1, l.fz _ _ _ h2, h3⟩
  | enu p => obtain ⟨a, h1, h2⟩ := r; exact ⟨a, pre_get l.pre h1, h2⟩
  | enr xs => obtain ⟨a, vs, h1, h2, h3⟩ := r; exact ⟨a, vs, l.sl _ _ h1, h2.mono l, h3⟩
  | enuT xs => obtain ⟨a, vs, h1, h2, h3⟩ := r; exact ⟨a, vs, l.sq _ _ h1, h2.mono l, h3⟩
  | enuS x => exact r
theorem get_none {K : PySem.W.Frag} {ρ : List Addr} {H : Hp} {ws : List W} {vs : List V} {i : Nat} (r : Rels K ρ H ws vs) (e : ws[i]? = none) : vs.length ≤ i := by
  rw [← r.length]
  exact List.getElem?_eq_none_iff.mp e
theorem SqT.one {K : PySem.W.Frag} {H : Hp} {a : Addr} {xs ys : List V} (h : SqT K H a xs) (h' : SqT K H a ys) : True := trivial
theorem rel_kW {K : PySem.W.Frag} {ρ : List Addr} {H : Hp} (k : Key) : Rel K ρ H (kW k) (kV k) := by
  cases k
  · exact .int _
  · exact .str _
theorem kv_get {κ : Type} {K : PySem.W.Frag} {ρ : List Addr} {H : Hp} {kvs : List (κ × W)} {kv : List (κ × V)} {i : Nat} {p : κ × W} (ek : kv.map (·.1) = kvs.map (·.1)) (rl : Rels K ρ H (kvs.map (·.2)) (kv.map (·.2))) (e : kvs[i]? = some p) : ∃ v, kv[i]? = some (p.1, v) ∧ Rel K ρ H p.2 v := by
  obtain ⟨v, hv, rv⟩ := rl.get (i := i) (w := p.2) (by rw [List.getElem?_map, e]; rfl)
  rw [List.getElem?_map] at hv
  have ek' : (kv.map (·.1))[i]? = some p.1 := by rw [ek, List.getElem?_map, e]; rfl
  rw [List.getElem?_map] at ek'
  cases q : kv[i]? with
  | none => rw [q] at hv; cases hv
  | some q2 =>
    rw [q] at hv ek'
    cases q2
    cases hv
    cases ek'
    exact ⟨_, rfl, rv⟩
theorem dict_src {K : PySem.W.Frag} {cm : Cm} {ρ : List Addr} {h : Hw} {H : Hp} {J : It} {p : Nat} {F : List (Key × W) → Option (Option W)} {r : Option W} {it : Addr → Obj → List (Key × V) → It} (rh : RelH K cm ρ h H) (hr : ∃ a o kv, ρ[p]? = some a ∧ H a = some (.frz o (.dK kv)) ∧ J = it a o kv)
    (e : (match h[p]? with
      | some (.dF kvs) => F kvs
      | _ => none) = some r) : ∃ kvs kv a o, H a = some (.frz o (.dK kv)) ∧ J = it a o kv ∧ kv.map (·.1) = kvs.map (·.1) ∧ Rels K ρ H (kvs.map (·.2)) (kv.map (·.2)) ∧ F kvs = some r ∧ True := by
  obtain ⟨a, o, kv, hp, ea, ej⟩ := hr
  obtain ⟨ob, ho, ro⟩ := rh.at (w := .non) hp
  rw [ho] at e
  cases ob with
  | dF kvs =>
    obtain ⟨o', kv', ea', ek, rl⟩ := ro
    rw [ea] at ea'
    cases ea'
    exact ⟨kvs, kv, a, o, ea, ej, ek, rl, e, trivial⟩
  | _ => cases e
theorem enu_go {K : PySem.W.Frag} {cm : Cm} {ρ : List Addr} {h : Hw} {H : Hp} {a : Addr} {xs : List W} {vs : List V} {i : Nat} {x : W} (rh : RelH K cm ρ h H) (hq : SqL K H a vs) (rx : Rels K ρ H xs vs) (e : (xs[i]?.map fun x => W.tup [.int i, x]) = some x) :
    (Ite K a).go i H ∧ ∀ v H', (Ite K a).yld i H v H' → Le K ρ H ρ H' ∧ RelH K cm ρ h H' ∧ Rel K ρ H' x v := by
  cases q1 : xs[i]? with
  | none => rw [q1] at e; cases e
  | some y =>
    rw [q1] at e
    cases e
    obtain ⟨v, hv, rv⟩ := rx.get q1
    refine ⟨⟨vs, v, hq, hv⟩, fun u H' z => ?_⟩
    obtain ⟨T, x', rfl, hT, rfl, hx⟩ := z
    have := hx vs hq
    rw [hv] at this
    cases this
    exact ⟨le_new hT, rh.new hT, .tup (.of upd_same) (.cons (.int _) (.cons (rv.mono (le_new hT)) .nil))⟩
/-- a turn of the iterator -/
theorem enuT_go {K : PySem.W.Frag} {cm : Cm} {ρ : List Addr} {h : Hw} {H : Hp} {a : Addr} {xs : List W} {vs : List V} {i : Nat} {x : W} (rh : RelH K cm ρ h H) (hq : SqT K H a vs) (rx : Rels K ρ H xs vs) (e : (xs[i]?.map fun x => W.tup [.int i, x]) = some x) :
    (IteT K a).go i H ∧ ∀ v H', (IteT K a).yld i H v H' → Le K ρ H ρ H' ∧ RelH K cm ρ h H' ∧ Rel K ρ H' x v := by
  cases q1 : xs[i]? with
  | none => rw [q1] at e; cases e
  | some y =>
    rw [q1] at e
    cases e
    obtain ⟨v, hv, rv⟩ := rx.get q1
    refine ⟨⟨vs, v, hq, hv⟩, fun u H' z => ?_⟩
    obtain ⟨T, x', rfl, hT, rfl, hx⟩ := z
    have := hx vs hq
    rw [hv] at this
    cases this
    exact ⟨le_new hT, rh.new hT, .tup (.of upd_same) (.cons (.int _) (.cons (rv.mono (le_new hT)) .nil))⟩
/-- a turn of the iterator -/
theorem src_go {K : PySem.W.Frag} {cm : Cm} {ρ : List Addr} {h : Hw} {H : Hp} {src : Src} {J : It} {i : Nat} {x : W} (rh : RelH K cm ρ h H) (r : SrcR K ρ H src J) (e : src.item i h = some (some x)) :
    J.go i H ∧ ∀ v H', J.yld i H v H' → Le K ρ H ρ H' ∧ RelH K cm ρ h H' ∧ Rel K ρ H' x v := by
  cases src with
  | lst p =>
    obtain ⟨a, hp, rfl⟩ := r
    obtain ⟨o, ho, ro⟩ := rh.at (w := .non) hp
    have e' : (match h[p]? with
      | some (.lst xs) => some xs[i]?
      | _ => none) = some (some x) := e
    rw [ho] at e'
    cases o with
    | lst xs =>
      obtain ⟨vs, ea, rx⟩ := ro
      have e2 : xs[i]? = some x := Option.some.inj e'
      obtain ⟨v, hv, rv⟩ := rx.get e2
      refine ⟨⟨vs, v, .of ea, hv⟩, fun v' H' y => ?_⟩
      obtain ⟨y1, y2⟩ := y
      subst y1
      refine ⟨.refl, rh, ?_⟩
      have := y2 vs (.of ea)
      rw [hv] at this
      cases this
      exact rv
    | _ => cases e'
  | tup xs =>
    obtain ⟨a, vs, hq, rx, rfl⟩ := r
    have e2 : xs[i]? = some x := Option.some.inj e
    obtain ⟨v, hv, rv⟩ := rx.get e2
    refine ⟨⟨vs, v, hq, hv⟩, fun v' H' y => ?_⟩
    obtain ⟨y1, y2⟩ := y
    subst y1
    refine ⟨.refl, rh, ?_⟩
    have := y2 vs hq
    rw [hv] at this
    cases this
    exact rv
  | rol xs =>
    obtain ⟨a, vs, hq, rx, rfl⟩ := r
    have e2 : xs[i]? = some x := Option.some.inj e
    obtain ⟨v, hv, rv⟩ := rx.get e2
    refine ⟨⟨vs, v, hq.sq, hv⟩, fun v' H' y => ?_⟩
    obtain ⟨y1, y2⟩ := y
    subst y1
    refine ⟨.refl, rh, ?_⟩
    have := y2 vs hq.sq
    rw [hv] at this
    cases this
    exact rv
  | rng lo n =>
    have r' : J = Itr lo n := r
    subst r'
    have e2 : (if i < n then some (W.int (lo + i)) else none) = some x := Option.some.inj e
    split at e2
    · cases e2
      refine ⟨by assumption, fun v H' y => ?_⟩
      obtain ⟨y1, y2⟩ := y
      subst y1
      refine ⟨.refl, rh, ?_⟩
      rw [y2]
      exact .int _
    · cases e2
  | str z =>
    have r' : J = Its z := r
    subst r'
    have e2 : (z.cps[i]?.map fun c => W.str ⟨#[c]⟩) = some x := Option.some.inj e
    cases q : z.cps[i]? with
    | none => rw [q] at e2; cases e2
    | some c =>
      rw [q] at e2
      cases e2
      refine ⟨(Array.getElem?_eq_some_iff.mp q).1, fun v H' y => ?_⟩
      obtain ⟨y1, c', h1, h2⟩ := y
      subst y1
      refine ⟨.refl, rh, ?_⟩
      rw [q] at h1
      cases h1
      rw [h2]
      exact .str _
  | dit p =>
    obtain ⟨kvs, kv, a, o, ea, rfl, ek, rl, e2, q⟩ := dict_src rh r e
    have e3 : ((kvs[i]?).map fun kv => W.tup [kW kv.1, kv.2]) = some x := Option.some.inj e2
    cases q1 : kvs[i]? with
    | none => rw [q1] at e3; cases e3
    | some p1 =>
      rw [q1] at e3
      cases e3
      obtain ⟨v, hv, rv⟩ := kv_get ek rl q1
      refine ⟨⟨ea, (List.getElem?_eq_some_iff.mp hv).1⟩, fun u H' y => ?_⟩
      obtain ⟨T, k, v', h1, rfl, hT, rfl⟩ := y
      rw [hv] at h1
      cases h1
      exact ⟨le_new hT, rh.new hT, .tup (.of upd_same) (.cons (rel_kW _) (.cons (rv.mono (le_new hT)) .nil))⟩
  | dky p =>
    obtain ⟨kvs, kv, a, o, ea, rfl, ek, rl, e2, q⟩ := dict_src rh r e
    have e3 : ((kvs[i]?).map fun kv => kW kv.1) = some x := Option.some.inj e2
    cases q1 : kvs[i]? with
    | none => rw [q1] at e3; cases e3
    | some p1 =>
      rw [q1] at e3
      cases e3
      obtain ⟨v, hv, rv⟩ := kv_get ek rl q1
      refine ⟨⟨ea, (List.getElem?_eq_some_iff.mp hv).1⟩, fun u H' y => ?_⟩
      obtain ⟨y1, k, v', h1, rfl⟩ := y
      subst y1
      rw [hv] at h1
      cases h1
      exact ⟨.refl, rh, rel_kW _⟩
  | dvl p =>
    obtain ⟨kvs, kv, a, o, ea, rfl, ek, rl, e2, q⟩ := dict_src rh r e
    have e3 : ((kvs[i]?).map fun kv => kv.2) = some x := Option.some.inj e2
    cases q1 : kvs[i]? with
    | none => rw [q1] at e3; cases e3
    | some p1 =>
      rw [q1] at e3
      cases e3
      obtain ⟨v, hv, rv⟩ := kv_get ek rl q1
      refine ⟨⟨ea, (List.getElem?_eq_some_iff.mp hv).1⟩, fun u H' y => ?_⟩
      obtain ⟨y1, k, h1⟩ := y
      subst y1
      rw [hv] at h1
      cases h1
      exact ⟨.refl, rh, rv⟩
  | enu p =>
    obtain ⟨a, hp, rfl⟩ := r
    obtain ⟨o, ho, ro⟩ := rh.at (w := .non) hp
    have e' : (match h[p]? with
      | some (.lst xs) => some (xs[i]?.map fun x => W.tup [.int i, x])
      | _ => none) = some (some x) := e
    rw [ho] at e'
    cases o with
    | lst xs =>
      obtain ⟨vs, ea, rx⟩ := ro
      exact enu_go rh (.of ea) rx (Option.some.inj e')
    | _ => cases e'
  | enr xs =>
    obtain ⟨a, vs, hq, rx, rfl⟩ := r
    exact enu_go rh hq.sq rx (Option.some.inj e)
  | enuT xs =>
    obtain ⟨a, vs, hq, rx, rfl⟩ := r
    exact enuT_go rh hq rx (Option.some.inj e)
  | enuS y =>
    have r' : J = IteS y := r
    subst r'
    have e' : (y.cps[i]?.map fun c => W.tup [.int i, .str ⟨#[c]⟩]) = some x := Option.some.inj e
    cases q1 : y.cps[i]? with
    | none => rw [q1] at e'; cases e'
    | some c =>
      rw [q1] at e'
      cases e'
      refine ⟨(Array.getElem?_eq_some_iff.mp q1).1, fun v H' z => ?_⟩
      obtain ⟨T, c', rfl, hT, rfl, hc⟩ := z
      rw [q1] at hc
      cases hc
      exact ⟨le_new hT, rh.new hT, .tup (.of upd_same) (.cons (.int _) (.cons (.str _) .nil))⟩
theorem kv_end {κ : Type} {kvs : List (κ × W)} {kv : List (κ × V)} {i : Nat} (ek : kv.map (·.1) = kvs.map (·.1)) (e : kvs.length ≤ i) : kv.length ≤ i := by
  have := congrArg List.length ek
  simp at this
  omega
theorem src_stop {K : PySem.W.Frag} {cm : Cm} {ρ : List Addr} {h : Hw} {H : Hp} {src : Src} {J : It} {i : Nat} (rh : RelH K cm ρ h H) (r : SrcR K ρ H src J) (e : src.item i h = some none) : J.stop i H := by
  cases src with
  | lst p =>
    obtain ⟨a, hp, rfl⟩ := r
    obtain ⟨o, ho, ro⟩ := rh.at (w := .non) hp
    have e' : (match h[p]? with
      | some (.lst xs) => some xs[i]?
      | _ => none) = some none := e
    rw [ho] at e'
    cases o with
    | lst xs =>
      obtain ⟨vs, ea, rx⟩ := ro
      exact ⟨vs, .of ea, get_none rx (Option.some.inj e')⟩
    | _ => cases e'
  | tup xs =>
    obtain ⟨a, vs, hq, rx, rfl⟩ := r
    exact ⟨vs, hq, get_none rx (Option.some.inj e)⟩
  | rol xs =>
    obtain ⟨a, vs, hq, rx, rfl⟩ := r
    exact ⟨vs, hq.sq, get_none rx (Option.some.inj e)⟩
  | rng lo n =>
    have r' : J = Itr lo n := r
    subst r'
    have e2 : (if i < n then some (W.int (lo + i)) else none) = none := Option.some.inj e
    split at e2
    · cases e2
    · exact Nat.le_of_not_lt (by assumption)
  | str z =>
    have r' : J = Its z := r
    subst r'
    have e2 : (z.cps[i]?.map fun c => W.str ⟨#[c]⟩) = none := Option.some.inj e
    cases q : z.cps[i]? with
    | none => exact Array.getElem?_eq_none_iff.mp q
    | some c => rw [q] at e2; cases e2
  | dit p =>
    obtain ⟨kvs, kv, a, o, ea, rfl, ek, rl, e2, q⟩ := dict_src rh r e
    exact ⟨ea, kv_end ek (by simpa using (Option.some.inj e2))⟩
  | dky p =>
    obtain ⟨kvs, kv, a, o, ea, rfl, ek, rl, e2, q⟩ := dict_src rh r e
    exact ⟨ea, kv_end ek (by simpa using (Option.some.inj e2))⟩
  | dvl p =>
    obtain ⟨kvs, kv, a, o, ea, rfl, ek, rl, e2, q⟩ := dict_src rh r e
    exact ⟨ea, kv_end ek (by simpa using (Option.some.inj e2))⟩
  | enu p =>
    obtain ⟨a, hp, rfl⟩ := r
    obtain ⟨o, ho, ro⟩ := rh.at (w := .non) hp
    have e' : (match h[p]? with
      | some (.lst xs) => some (xs[i]?.map fun x => W.tup [.int i, x])
      | _ => none) = some none := e
    rw [ho] at e'
    cases o with
    | lst xs =>
      obtain ⟨vs, ea, rx⟩ := ro
      exact ⟨vs, .of ea, get_none rx (List.getElem?_eq_none_iff.mpr (by simpa using (Option.some.inj e')))⟩
    | _ => cases e'
  | enr xs =>
    obtain ⟨a, vs, hq, rx, rfl⟩ := r
    exact ⟨vs, hq.sq, get_none rx (List.getElem?_eq_none_iff.mpr (by simpa using (Option.some.inj e)))⟩
  | enuT xs =>
    obtain ⟨a, vs, hq, rx, rfl⟩ := r
    exact ⟨vs, hq, get_none rx (List.getElem?_eq_none_iff.mpr (by simpa using (Option.some.inj e)))⟩
  | enuS y =>
    have r' : J = IteS y := r
    subst r'
    have e' : (y.cps[i]?.map fun c => W.tup [.int i, .str ⟨#[c]⟩]) = none := Option.some.inj e
    cases q1 : y.cps[i]? with
    | none => exact Array.getElem?_eq_none_iff.mp q1
    | some c => rw [q1] at e'; cases e'
/-- a walk's start: the source, and how many turns it has at most -/
abbrev MI := SW → M (Src × Nat)
def tI (K : PySem.W.Frag) (cm : Cm) (m : MI) : TI := fun σ H R => ∃ ρ h sw src h', RelH K cm ρ h H ∧ RelS K ρ H sw σ ∧ m sw h = .ok src h' ∧ ∀ ρ' H' J, Le K ρ H ρ' H' → RelH K cm ρ' h' H' → SrcR K ρ' H' src.1 J → R J H'
abbrev RI (X : Cx) (cm : Cm) (tg it : Expr) (m : MI) : Prop := PI X tg it (tI X.K cm m)
theorem piM {X : Cx} {tg it : Expr} {t t' : TI} (p : PI X tg it t) (f : ∀ σ H R, t' σ H R → t σ H R) : PI X tg it t' := ⟨fun pins s σ H R I q => p.run pins s σ H R I (f σ H R q)⟩
def sForI (mi : MI) (g : MG) (b : MS) : MS := fun sw => bnd (mi sw) fun src => sFor src.1 g b 0 (src.2 + 1) sw
section
variable {X : Cx} {cm : Cm} {tg it : Expr} {body : List Stmt} {mi : MI} {g : MG} {m : MS} {pos : Pos} {vs : List Nat}
theorem rs_for (hp : PassesOwn (model X.prog X.w) X.A X.env X.xe) (hc : X.calm = true) (hi : RI X cm tg it mi) (hg : RG X cm vs tg g) (hb : RSs X cm body m) (hs : ∀ x, foldedSetIterable it X.env x = pure x := by intro _; rfl) : RS X cm (.For tg it body [] pos) (sForI mi g m) := by
  refine psM (ps_for hp hc hi hg hb hs) fun D σ H q => ?_
  obtain ⟨ρ, h, sw, f, h', rh, rs, e, k⟩ := q
  obtain ⟨src, h0, e0, e⟩ := bnd_ok e
  refine ⟨ρ, h, sw, src, h0, rh, rs, e0, fun ρ0 H0 J l0 rh0 rj => ?_⟩
  refine ⟨fun i n σ1 H1 => ∃ ρ1 h1 sw1, Le X.K ρ H ρ1 H1 ∧ RelH X.K cm ρ1 h1 H1 ∧ RelS X.K ρ1 H1 sw1 σ1 ∧ SrcR X.K ρ1 H1 src.1 J ∧ sFor src.1 g m i n sw1 h1 = .ok f h', ⟨_, ρ0, h0, sw, l0, rh0, rs.mono l0, rj, e⟩, fun i n σ1 H1 w => ?_⟩
  obtain ⟨ρ1, h1, sw1, l1, rh1, rs1, rj1, e1⟩ := w
  cases n with
  | zero => cases e1
  | succ n =>
    have e1' : (match src.1.item i h1 with
      | none => (EL.R.no : EL.R Fl)
      | some none => .ok (Fl.nx sw1) h1
      | some (some x) => bnd (g x sw1) (fun s => bnd (m s) fun f => match f with
        | .nx s => sFor src.1 g m (i + 1) n s
        | .ct s => sFor src.1 g m (i + 1) n s
        | .bk s => rtn (.nx s)
        | .rt w => rtn (.rt w)) h1) = .ok f h' := e1
    split at e1'
    · cases e1'
    · rename_i he
      cases e1'
      exact .inl ⟨src_stop rh1 rj1 he, k ρ1 H1 σ1 l1 rh1 rs1⟩
    · rename_i x he
      obtain ⟨s2, h2, e2, e3⟩ := bnd_ok e1'
      obtain ⟨f1, h3, e4, e5⟩ := bnd_ok e3
      obtain ⟨go, yl⟩ := src_go rh1 rj1 he
      refine .inr ⟨go, fun σ3 H3 => ∃ ρ3 h3 sw3, Le X.K ρ H ρ3 H3 ∧ RelH X.K cm ρ3 h3 H3 ∧ RelS X.K ρ3 H3 sw3 σ3 ∧ SrcR X.K ρ3 H3 src.1 J ∧ sFor src.1 g m (i + 1) n sw3 h3 = .ok f h', fun σ3 H3 z => ⟨n, Nat.lt_succ_self n, z⟩, fun v H' y => ?_⟩
      obtain ⟨ly, rhy, rv⟩ := yl v H' y
      have l1 := l1.trans ly
      have rj1 := rj1.mono ly
      refine ⟨ρ1, h1, sw1, x, s2, h2, rhy, rs1.mono ly, rv, e2, fun ρ2 H2 σ2 _ l2 rh2 rs2 => ?_⟩
      refine ⟨ρ2, h2, s2, f1, h3, rh2, rs2, e4, ?_⟩
      cases f1 with
      | nx s => exact fun ρ3 H3 σ3 l3 rh3 rs3 => ⟨ρ3, h3, s, l1.trans (l2.trans l3), rh3, rs3, (rj1.mono l2).mono l3, e5⟩
      | ct s => exact fun ρ3 H3 σ3 l3 rh3 rs3 => ⟨ρ3, h3, s, l1.trans (l2.trans l3), rh3, rs3, (rj1.mono l2).mono l3, e5⟩
      | bk s =>
        cases e5
        exact fun ρ3 H3 σ3 l3 rh3 rs3 => k ρ3 H3 σ3 (l1.trans (l2.trans l3)) rh3 rs3
      | rt w =>
        cases e5
        exact fun ρ3 H3 v l3 rh3 rv => k ρ3 H3 v (l1.trans (l2.trans l3)) rh3 rv
/-- over a list -/
def iSeq (a : ME) : MI := fun sw => bnd (a sw) fun x h => match x with
  | .ref p => match h[p]? with
    | some (.lst xs) => .ok (.lst p, xs.length) h
    | _ => .no
  | .rol xs => .ok (.rol xs, xs.length) h
  | _ => .no
theorem ri_lst {ma : ME} (ha : RE X cm it ma) : RI X cm tg it (iSeq ma) := by
  refine piM (pi_list ha) fun σ H R q => ?_
  obtain ⟨ρ, h, sw, src, h', rh, rs, e, k⟩ := q
  obtain ⟨x, h1, e1, e2⟩ := bnd_ok e
  refine ⟨ρ, h, sw, x, h1, rh, rs, e1, fun ρ1 H1 v l1 rh1 rx => ?_⟩
  cases rx with
  | @ref p a hp =>
    obtain ⟨o, ho, ro⟩ := rh1.at (w := .non) hp
    simp only at e2
    rw [ho] at e2
    cases o with
    | lst xs =>
      obtain ⟨vs, ea, rx⟩ := ro
      cases e2
      exact ⟨a, rfl, ⟨vs, .of ea⟩, k ρ1 H1 _ l1 rh1 ⟨a, hp, rfl⟩⟩
    | _ => cases e2
  | rol hq r =>
    cases e2
    exact ⟨_, rfl, ⟨_, hq.sq⟩, k ρ1 H1 _ l1 rh1 ⟨_, _, hq, r, rfl⟩⟩
  | _ => cases e2
def iTu (a : ME) : MI := fun sw => bnd (a sw) fun x h => match x with
  | .tup xs => .ok (.tup xs, xs.length) h
  | _ => .no
theorem ri_tup {ma : ME} (ha : RE X cm it ma) : RI X cm tg it (iTu ma) := by
  refine piM (pi_tup ha) fun σ H R q => ?_
  obtain ⟨ρ, h, sw, src, h', rh, rs, e, k⟩ := q
  obtain ⟨x, h1, e1, e2⟩ := bnd_ok e
  refine ⟨ρ, h, sw, x, h1, rh, rs, e1, fun ρ1 H1 v l1 rh1 rx => ?_⟩
  cases rx with
  | tup hq r =>
    cases e2
    exact ⟨_, rfl, ⟨_, hq⟩, k ρ1 H1 _ l1 rh1 ⟨_, _, hq, r, rfl⟩⟩
  | _ => cases e2
/-- over whatever it is: a list, a tuple, a text -/
def itAny (K : PySem.W.Frag) (tl : TE) : TI := fun σ H R => tl σ H fun x H1 =>
  (∃ a, x = .ref a ∧ (∃ xs, SqL K H1 a xs) ∧ R (Itl K a) H1) ∨ (∃ a, x = .ref a ∧ (∃ xs, SqT K H1 a xs) ∧ R (Itt K a) H1) ∨ ∃ z, x = .str z ∧ R (Its z) H1
theorem pi_any {l : Expr} {tl : TE} (hl : PE X l tl) : PI X tg l (itAny X.K tl) := by
  refine ⟨fun pins s σ H R I q => thn (hl.run pins s σ H _ I q) fun v s1 z => ?_⟩
  obtain ⟨x, H1, I1, r1, z⟩ := z
  rcases z with ⟨a, rfl, ⟨xs, hx⟩, z⟩ | ⟨a, rfl, ⟨xs, hx⟩, z⟩ | ⟨y, rfl, z⟩
  · cases r1
    obtain ⟨its, _, pl, _⟩ := I1.list hx
    exact wpAny_pyIter_list pl.isList (pi_one (tk := s1.toks) I1 _ (turn_list a _) ⟨_, Heap.get?_push_size _ rfl, rfl, rfl⟩ z)
  · cases r1
    obtain ⟨its, _, pl, _⟩ := I1.tuple hx
    exact wpAny_pyIter_tuple pl (pi_one (tk := s1.toks) I1 _ (turn_tuple a _) ⟨_, Heap.get?_push_size _ rfl, rfl, rfl⟩ z)
  · obtain ⟨t, rfl⟩ := r1
    cases hw : y.cps.all (· < 128) with
    | true => exact wpAny_pyIter_ascii hw (pi_one (tk := s1.toks) I1 _ (turn_str _ y t _ (.inl rfl)) ⟨_, Heap.get?_push_size _ rfl, rfl, rfl⟩ z)
    | false => exact wpAny_pyIter_wide hw (pi_one (tk := s1.toks) I1 _ (turn_str _ y t _ (.inr rfl)) ⟨_, Heap.get?_push_size _ rfl, rfl, rfl⟩ z)
def iAny (a : ME) : MI := fun sw => bnd (a sw) fun x h => match x with
  | .ref p => match h[p]? with
    | some (.lst xs) => .ok (.lst p, xs.length) h
    | _ => .no
  | .rol xs => .ok (.rol xs, xs.length) h
  | .tup xs => .ok (.tup xs, xs.length) h
  | .str x => .ok (.str x, x.cps.size) h
  | _ => .no
theorem ri_any {ma : ME} (ha : RE X cm it ma) : RI X cm tg it (iAny ma) := by
  refine piM (pi_any ha) fun σ H R q => ?_
  obtain ⟨ρ, h, sw, src, h', rh, rs, e, k⟩ := q
  obtain ⟨x, h1, e1, e2⟩ := bnd_ok e
  refine ⟨ρ, h, sw, x, h1, rh, rs, e1, fun ρ1 H1 v l1 rh1 rx => ?_⟩
  cases rx with
  | @ref p a hp =>
    obtain ⟨o, ho, ro⟩ := rh1.at (w := .non) hp
    simp only at e2
    rw [ho] at e2
    cases o with
    | lst xs =>
      obtain ⟨vs, ea, rx⟩ := ro
      cases e2
      exact .inl ⟨a, rfl, ⟨vs, .of ea⟩, k ρ1 H1 _ l1 rh1 ⟨a, hp, rfl⟩⟩
    | _ => cases e2
  | rol hq r =>
    cases e2
    exact .inl ⟨_, rfl, ⟨_, hq.sq⟩, k ρ1 H1 _ l1 rh1 ⟨_, _, hq, r, rfl⟩⟩
  | tup hq r =>
    cases e2
    exact .inr (.inl ⟨_, rfl, ⟨_, hq⟩, k ρ1 H1 _ l1 rh1 ⟨_, _, hq, r, rfl⟩⟩)
  | str z =>
    cases e2
    exact .inr (.inr ⟨z, rfl, k ρ1 H1 _ l1 rh1 rfl⟩)
  | _ => cases e2
def big : Int := 4611686018427387904
def iRg1 (a : ME) : MI := fun sw => bnd (a sw) fun x h => match x with
  | .int j => if -big ≤ j ∧ j < big then .ok (.rng 0 j.toNat, j.toNat) h else .no
  | _ => .no
theorem ri_rng1 {a : Expr} {ma : ME} {p : Pos} (hm : X.mg "range" = none) (ha : RE X cm a ma) (hg : Gl X "range" := by rfl) (hs : starEach [a] X.env = [(false, eval a X.env)] := by rfl) (hs' : starEach (a :: []) X.env = (false, eval a X.env) :: starEach [] X.env := by rfl) : RI X cm tg (.Call (.Name "range" p) [a] [] pos) (iRg1 ma) := by
  refine piM (pi_range1 hg hm (ra_cons ha ra_nil hs') hs) fun σ H R q => ?_
  obtain ⟨ρ, h, sw, src, h', rh, rs, e, k⟩ := q
  obtain ⟨x, h1, e1, e2⟩ := bnd_ok e
  refine ⟨ρ, h, sw, [x], h1, rh, rs, ?_, fun ρ1 H1 vs l1 rh1 rx => ?_⟩
  · show bnd (ma sw) _ h = _
    unfold bnd
    rw [e1]
    rfl
  · cases x with
    | int j =>
      cases rx with
      | cons r t =>
        cases r
        cases t
        have e2' : (if -big ≤ j ∧ j < big then EL.R.ok (Src.rng 0 j.toNat, j.toNat) h1 else EL.R.no) = EL.R.ok src h' := e2
        split at e2'
        · rename_i hj
          cases e2'
          exact ⟨j, rfl, hj.1, hj.2, k ρ1 H1 _ l1 rh1 rfl⟩
        · cases e2'
    | _ => cases e2
def iRg2 (a b : ME) : MI := fun sw => bnd (a sw) fun x => bnd (b sw) fun y h => match x, y with
  | .int i, .int j => if (-big ≤ i ∧ i < big) ∧ -big ≤ j ∧ j < big then .ok (.rng i (j - i).toNat, (j - i).toNat) h else .no
  | _, _ => .no
theorem ri_rng2 {a b : Expr} {ma mb : ME} {p : Pos} (hm : X.mg "range" = none) (ha : RE X cm a ma) (hb : RE X cm b mb) (hg : Gl X "range" := by rfl) (hs : starEach [a, b] X.env = [(false, eval a X.env), (false, eval b X.env)] := by rfl) (hs2 : starEach [b] X.env = [(false, eval b X.env)] := by rfl)
    (hs' : starEach (a :: [b]) X.env = (false, eval a X.env) :: starEach [b] X.env := by rfl) (hs'' : starEach (b :: []) X.env = (false, eval b X.env) :: starEach [] X.env := by rfl) : RI X cm tg (.Call (.Name "range" p) [a, b] [] pos) (iRg2 ma mb) := by
  refine piM (pi_range2 hg hm (ra_cons ha (ra_cons hb ra_nil hs'') hs') hs hs2) fun σ H R q => ?_
  obtain ⟨ρ, h, sw, src, h', rh, rs, e, k⟩ := q
  obtain ⟨x, h1, e1, e2⟩ := bnd_ok e
  obtain ⟨y, h2, e3, e4⟩ := bnd_ok e2
  refine ⟨ρ, h, sw, [x, y], h2, rh, rs, ?_, fun ρ1 H1 vs l1 rh1 rx => ?_⟩
  · show bnd (ma sw) (fun x => bnd (bnd (mb sw) _) _) h = _
    simp only [bnd, e1, e3]
    rfl
  · cases x with
    | int i =>
      cases y with
      | int j =>
        cases rx with
        | cons r t =>
          cases r
          cases t with
          | cons r t =>
            cases r
            cases t
            have e2' : (if (-big ≤ i ∧ i < big) ∧ -big ≤ j ∧ j < big then EL.R.ok (Src.rng i (j - i).toNat, (j - i).toNat) h2 else EL.R.no) = EL.R.ok src h' := e4
            split at e2'
            · rename_i hj
              cases e2'
              exact ⟨i, j, rfl, ⟨hj.1.1, hj.1.2, hj.2.1, hj.2.2⟩, k ρ1 H1 _ l1 rh1 rfl⟩
            · cases e2'
      | _ => cases e4
    | _ => cases e4
end
end EL
namespace EL
open PySem PySem.Spec L2
open PyProof.Rows hiding St

/-! ### a def -/
def finF (f : Fl) : M W := match f with
  | .rt w => rtn w
  | .nx _ => rtn .non
  | _ => bad
def mFn (n N : Nat) (m : MS) : List W → M W := fun ws => if ws.length = n then bnd (m (ws.map some ++ List.replicate (N - n) none)) finF else bad
theorem relS_start {K : PySem.W.Frag} {ρ : List Addr} {H : Hp} {ws : List W} {vs : List V} {N : List Str} (r : Rels K ρ H ws vs) : RelS K ρ H (ws.map some ++ List.replicate (N.length - ws.length) none) (L2.start N vs) := by
  unfold L2.start
  rw [← r.length]
  refine ⟨by simp [r.length], fun i w e => ?_⟩
  by_cases hi : i < ws.length
  · rw [List.getElem?_append_left (by simpa using hi), List.getElem?_map] at e
    cases hw : ws[i]? with
    | none => rw [hw] at e; cases e
    | some w' =>
      rw [hw] at e
      cases e
      obtain ⟨v, hv, rv⟩ := r.get hw
      refine ⟨v, ?_, rv⟩
      rw [List.getElem?_append_left (by rw [List.length_map, ← r.length]; exact hi), List.getElem?_map, hv]
      rfl
  · rw [List.getElem?_append_right (by simpa using hi)] at e
    rw [List.getElem?_replicate] at e
    split at e <;> cases e
section
variable {P : Program} {w : World} {K : PySem.W.Frag} {mg : Str → Option Value} {base : Heap}
theorem efn {x qual : Str} {st : Stmt} {f : Addr} {fd : FuncData} {N ps : List Str} {k : Nat} {cm : Cm} {m : MS} (F : Fun K x qual st f fd) (S : FnScope N ps (defScope st))
    (hb : ∀ (cdv : Value) (A : Around) (outer : List Env) (s : Shared) (H : Hp) (E : XK), Room k (A.deeper (envOfC qual (defScope st) s.heap.objs.size f cdv)) → RSs (cxOf CX0 P w K mg base N qual (defScope st) f cdv A outer s H E).nox cm (defBody st) m) :
    FnOk P w K mg base CX0 (k + 1) f fd ps (spM K cm (mFn ps.length N.length m)) := by
  refine F.ok S (fun vs H Q E h => ?_) (fun cdv A outer s H vs Q E hr h => ?_)
  · obtain ⟨ρ, h, ws, w, h', rh, rs, e, k⟩ := h
    unfold mFn at e
    split at e
    · rw [← rs.length]
      assumption
    · cases e
  · refine ⟨_, hb cdv A outer s H E hr, ?_⟩
    obtain ⟨ρ, h, ws, w, h', rh, rs, e, k⟩ := h
    unfold mFn at e
    split at e
    · rename_i hl
      obtain ⟨fl, h1, e1, e2⟩ := bnd_ok e
      refine ⟨ρ, h, _, fl, h1, rh, ?_, e1, ?_⟩
      · have q := relS_start (N := N) rs
        rw [hl] at q
        exact q
      · cases fl with
        | rt w =>
          cases e2
          exact k
        | nx s =>
          cases e2
          exact fun ρ' H' σ' l rh' _ => k ρ' H' .non l rh' .non
        | bk s => cases e2
        | ct s => cases e2
    · cases e
end

/-! ### a comprehension -/
def wipeW (σ : SW) : List Nat → SW
  | [] => σ
  | v :: vs => (wipeW σ vs).set v none
theorem wipeW_get {sw : SW} {i : Nat} {w : W} : ∀ {vs : List Nat}, (wipeW sw vs)[i]? = some (some w) → sw[i]? = some (some w) ∧ i ∉ vs
  | [], h => ⟨h, by simp⟩
  | v :: vs, h => by
    unfold wipeW at h
    by_cases e : v = i
    · subst e
      rw [List.getElem?_set] at h
      rw [if_pos rfl] at h
      split at h <;> cases h
    · rw [List.getElem?_set_ne e] at h
      obtain ⟨h1, h2⟩ := wipeW_get h
      refine ⟨h1, fun z => ?_⟩
      rcases List.mem_cons.mp z with z | z
      · exact e z.symm
      · exact h2 z
theorem wipeW_len (sw : SW) : ∀ vs : List Nat, (wipeW sw vs).length = sw.length
  | [] => rfl
  | v :: vs => by
    unfold wipeW
    rw [List.length_set]
    exact wipeW_len sw vs
theorem relS_wipe {K : PySem.W.Frag} {ρ : List Addr} {H : Hp} {sw : SW} {σ : St} (r : RelS K ρ H sw σ) (vs : List Nat) : RelS K ρ H (wipeW sw vs) (wipe σ vs) := by
  refine ⟨by rw [wipeW_len, wipe_length]; exact r.1, fun i w e => ?_⟩
  obtain ⟨h1, h2⟩ := wipeW_get e
  obtain ⟨v, hv, rv⟩ := r.2 i w h1
  exact ⟨v, by rw [wipe_out h2]; exact hv, rv⟩
theorem wipe_in {σ : St} {i : Nat} (hi : i < σ.length) : ∀ {vs : List Nat}, i ∈ vs → (wipe σ vs)[i]? = some none
  | [], h => by cases h
  | v :: vs, h => by
    unfold wipe
    by_cases e : v = i
    · subst e
      rw [List.getElem?_set, if_pos rfl, if_pos (by rw [wipe_length]; exact hi)]
    · rw [List.getElem?_set_ne e]
      refine wipe_in hi ?_
      rcases List.mem_cons.mp h with z | z
      · exact absurd z.symm e
      · exact z
theorem wipe_ext {σ σ' : St} {vs : List Nat} (b : But vs (wipe σ vs) σ') : wipe σ' vs = wipe σ vs := by
  have hl : σ'.length = σ.length := b.1.trans (wipe_length σ vs)
  refine List.ext_getElem? fun i => ?_
  by_cases hi : i ∈ vs
  · by_cases hlt : i < σ.length
    · rw [wipe_in (by rw [hl]; exact hlt) hi, wipe_in hlt hi]
    · rw [List.getElem?_eq_none (by rw [wipe_length, hl]; omega), List.getElem?_eq_none (by rw [wipe_length]; omega)]
  · rw [wipe_out hi, b.2 i hi]
def app (d y : W) : M Unit := fun h => match d with
  | .ref p => match h[p]? with
    | some (.lst acc) => if acc.length < lim then .ok () (h.set p (.lst (acc ++ [y]))) else .no
    | _ => .no
  | _ => .no
def lcGo (src : Src) (g : MG) (t : MT) (e : ME) (vs : List Nat) (d : W) (sw : SW) : Nat → Nat → M Unit
  | _, 0 => bad
  | i, n + 1 => fun h => match src.item i h with
    | none => .no
    | some none => .ok () h
    | some (some x) => bnd (g x (wipeW sw vs)) (fun s => bnd (t s) fun b => if b = true then bnd (e s) (fun y => bnd (app d y) fun _ => lcGo src g t e vs d sw (i + 1) n) else lcGo src g t e vs d sw (i + 1) n) h
def mLc (mi : MI) (g : MG) (t : MT) (e : ME) (vs : List Nat) : ME := fun sw => bnd (mi sw) fun src => bnd (alloc (.lst [])) fun d => bnd (lcGo src.1 g t e vs d sw 0 (src.2 + 1)) fun _ => rtn d
def tYs : MT := fun _ => rtn true
theorem app_ok {K : PySem.W.Frag} {cm : Cm} {ρ : List Addr} {h h' : Hw} {H : Hp} {p : Nat} {D : Addr} {y : W} {v : V} (rh : RelH K cm ρ h H) (hp : ρ[p]? = some D) (rv : Rel K ρ H y v) (e : app (.ref p) y h = .ok () h') :
    ∃ acc, H D = some (.lst acc) ∧ acc.length < sizeLine ∧ RelH K cm ρ h' (upd H D (.lst (acc ++ [v]))) ∧ Le K ρ H ρ (upd H D (.lst (acc ++ [v]))) := by
  have e' : (match h[p]? with
    | some (.lst acc) => if acc.length < lim then EL.R.ok () (h.set p (.lst (acc ++ [y]))) else EL.R.no
    | _ => .no) = .ok () h' := e
  obtain ⟨o, ho, ro⟩ := rh.at (w := .non) hp
  rw [ho] at e'
  cases o with
  | lst xs =>
    obtain ⟨vs, ea, rx⟩ := ro
    simp only at e'
    split at e'
    · rename_i hl
      cases e'
      have lu : Le K ρ H ρ (upd H D (.lst (vs ++ [v]))) := le_mut ea trivial
      refine ⟨vs, ea, by rw [← rx.length, ← lim_eq]; exact hl, rh.set hp ea trivial ⟨_, upd_same, ?_⟩, lu⟩
      exact (rx.append (.cons rv .nil)).mono lu
    · cases e'
  | _ => cases e'
section
variable {X : Cx} {cm : Cm} {elt tg it : Expr} {ifs : List Expr} {scope : Scope} {own : List (Str × Nat)} {pos spos : Pos} {mi : MI} {g : MG} {t : MT} {me : ME}
theorem lc_tE {σ : St} {H : Hp} {Q : VK} {vs : List Nat} {G : TG} {T : TT} {E : TE} (q : tE X.K cm (mLc mi g t me vs) σ H Q)
    (hG : ∀ v σ H Q, tG X.K cm vs g v σ H Q → G v σ H Q) (hT : ∀ σ H Q, tT X.K cm t σ H Q → T σ H Q) (hE : ∀ σ H Q, tE X.K cm me σ H Q → E σ H Q) : tLc (tI X.K cm mi) G T E vs σ H Q := by
  obtain ⟨ρ, h, sw, w, h', rh, rs, e, k⟩ := q
  obtain ⟨src, h1, e1, e2⟩ := bnd_ok e
  obtain ⟨d, h2, e3, e4⟩ := bnd_ok e2
  obtain ⟨u, h3, e5, e6⟩ := bnd_ok e4
  cases e6
  cases e3
  refine ⟨ρ, h, sw, src, h1, rh, rs, e1, fun ρ1 H1 J l1 rh1 rj => ?_⟩
  intro D hD
  have l2 : Le X.K ρ1 H1 (ρ1 ++ [D]) (upd H1 D (.lst [])) := (le_new hD).trans (le_app D)
  have rh2 : RelH X.K cm (ρ1 ++ [D]) (h1 ++ [.lst []]) (upd H1 D (.lst [])) := rh1.push hD ⟨[], upd_same, .nil⟩
  refine ⟨fun i n H3 => ∃ ρ3 h3, Le X.K ρ H ρ3 H3 ∧ Le X.K (ρ1 ++ [D]) (upd H1 D (.lst [])) ρ3 H3 ∧ RelH X.K cm ρ3 h3 H3 ∧ SrcR X.K ρ3 H3 src.1 J ∧ lcGo src.1 g t me vs (.ref h1.length) sw i n h3 = .ok u h', ⟨_, ρ1 ++ [D], _, l1.trans l2, .refl, rh2, rj.mono l2, e5⟩, fun i n H3 w => ?_⟩
  obtain ⟨ρ3, h3, l3, m3, rh3, rj3, e7⟩ := w
  have hp : ρ3[h1.length]? = some D := pre_get m3.pre (push_at rh1)
  cases n with
  | zero => cases e7
  | succ n =>
    have e7' : (match src.1.item i h3 with
      | none => (EL.R.no : EL.R Unit)
      | some none => .ok () h3
      | some (some x) => bnd (g x (wipeW sw vs)) (fun s => bnd (t s) fun b => if b = true then bnd (me s) (fun y => bnd (app (.ref h1.length) y) fun _ => lcGo src.1 g t me vs (.ref h1.length) sw (i + 1) n) else lcGo src.1 g t me vs (.ref h1.length) sw (i + 1) n) h3) = .ok u h' := e7
    split at e7'
    · cases e7'
    · rename_i he
      cases e7'
      exact .inl ⟨src_stop rh3 rj3 he, k ρ3 H3 _ l3 rh3 (.ref hp)⟩
    · rename_i x he
      obtain ⟨s2, h4, e8, e9⟩ := bnd_ok e7'
      obtain ⟨b, h5, e10, e11⟩ := bnd_ok e9
      obtain ⟨go, yl⟩ := src_go rh3 rj3 he
      refine .inr ⟨go, fun H6 => ∃ ρ6 h6, Le X.K ρ H ρ6 H6 ∧ Le X.K (ρ1 ++ [D]) (upd H1 D (.lst [])) ρ6 H6 ∧ RelH X.K cm ρ6 h6 H6 ∧ SrcR X.K ρ6 H6 src.1 J ∧ lcGo src.1 g t me vs (.ref h1.length) sw (i + 1) n h6 = .ok u h', fun H6 z => ⟨n, Nat.lt_succ_self n, z⟩, fun v H6 y => ?_⟩
      obtain ⟨ly, rhy, rv⟩ := yl v H6 y
      have l3 := l3.trans ly
      have m3 := m3.trans ly
      have rj3 := rj3.mono ly
      refine hG _ _ _ _ ⟨ρ3, h3, _, x, s2, h4, rhy, relS_wipe (rs.mono l3) vs, rv, e8, fun ρ4 H4 σ4 b4 l4 rh4 rs4 => ⟨wipe_ext b4, ?_⟩⟩
      refine hT _ _ _ ⟨ρ4, h4, s2, b, h5, rh4, rs4, e10, fun ρ5 H5 l5 rh5 => ?_⟩
      have l45 := l4.trans l5
      cases b with
      | false => exact iteF ⟨ρ5, h5, l3.trans l45, m3.trans l45, rh5, rj3.mono l45, e11⟩
      | true =>
        obtain ⟨yw, h6, e12, e13⟩ := bnd_ok e11
        obtain ⟨u2, h7, e14, e15⟩ := bnd_ok e13
        refine iteT (hE _ _ _ ⟨ρ5, h5, s2, yw, h6, rh5, rs4.mono l5, e12, fun ρ6 H6 v6 l6 rh6 rv6 => ?_⟩)
        have l46 := l45.trans l6
        obtain ⟨acc, ea, hl, rh7, l7⟩ := app_ok rh6 (pre_get l46.pre hp) rv6 e14
        have l47 := l46.trans l7
        exact ⟨acc, ea, hl, ρ6, h7, l3.trans l47, m3.trans l47, rh7, rj3.mono l47, e15⟩
theorem re_lc (own : List (Str × Nat)) (hc : X.calm = true) (hN : X.N.Nodup) (hi : RI X cm tg it mi) {N0 : List Str} {sc0 : Scope} (ok : blkC N0 sc0 scope own = true)
    (hg : ∀ (s : Shared) (H : Hp) (C : Addr) (cl : List (Str × Addr)) (fp : List Addr), RG (X.blk s H scope (compEnvC scope cl C X.env) fp) cm (own.map (·.2)) tg g)
    (he : ∀ (s : Shared) (H : Hp) (C : Addr) (cl : List (Str × Addr)) (fp : List Addr), RE (X.blk s H scope (compEnvC scope cl C X.env) fp) cm elt me) (hs : ∀ x, foldedSetIterable it X.env x = pure x := by intro _; rfl) (eN : N0 = X.N := by rfl) (eS : sc0 = X.env.scope := by rfl) :
    RE X cm (.ListComp elt [⟨tg, it, [], 0⟩] scope pos) (mLc mi g tYs me (own.map (·.2))) :=
  peM (pe_lc (own := own) hc hN hi (by rw [← eN, ← eS]; exact blkOk_by ok) hg (fun _ _ _ _ _ => pts_nil) he hs) fun σ H Q q => lc_tE q (fun _ _ _ _ z => z) (fun _ _ _ z => by
    obtain ⟨ρ, h, sw, b, h', rh, rs, e, k⟩ := z
    cases e
    exact k ρ _ .refl rh) (fun _ _ _ z => z)
theorem re_lc1 {c : Expr} (own : List (Str × Nat)) (hc : X.calm = true) (hN : X.N.Nodup) (hi : RI X cm tg it mi) {N0 : List Str} {sc0 : Scope} (ok : blkC N0 sc0 scope own = true)
    (hg : ∀ (s : Shared) (H : Hp) (C : Addr) (cl : List (Str × Addr)) (fp : List Addr), RG (X.blk s H scope (compEnvC scope cl C X.env) fp) cm (own.map (·.2)) tg g)
    (ht : ∀ (s : Shared) (H : Hp) (C : Addr) (cl : List (Str × Addr)) (fp : List Addr), RT (X.blk s H scope (compEnvC scope cl C X.env) fp) cm c t)
    (he : ∀ (s : Shared) (H : Hp) (C : Addr) (cl : List (Str × Addr)) (fp : List Addr), RE (X.blk s H scope (compEnvC scope cl C X.env) fp) cm elt me) (hs : ∀ x, foldedSetIterable it X.env x = pure x := by intro _; rfl) (eN : N0 = X.N := by rfl) (eS : sc0 = X.env.scope := by rfl) :
    RE X cm (.ListComp elt [⟨tg, it, [c], 0⟩] scope pos) (mLc mi g t me (own.map (·.2))) :=
  peM (pe_lc (own := own) hc hN hi (by rw [← eN, ← eS]; exact blkOk_by ok) hg (fun _ _ _ _ _ => pts_one (ht _ _ _ _ _)) he hs) fun σ H Q q => lc_tE q (fun _ _ _ _ z => z) (fun _ _ _ z => z) (fun _ _ _ z => z)
/-- name = [..] -/
theorem rs_setLc {i : Nat} {y : Str} {py : Pos} (own : List (Str × Nat)) (hc : X.calm = true) (hN : X.N.Nodup) (hi : RI X cm tg it mi) {N0 : List Str} {sc0 : Scope} (ok : blkC N0 sc0 scope own = true)
    (hg : ∀ (s : Shared) (H : Hp) (C : Addr) (cl : List (Str × Addr)) (fp : List Addr), RG (X.blk s H scope (compEnvC scope cl C X.env) fp) cm (own.map (·.2)) tg g)
    (he : ∀ (s : Shared) (H : Hp) (C : Addr) (cl : List (Str × Addr)) (fp : List Addr), RE (X.blk s H scope (compEnvC scope cl C X.env) fp) cm elt me)
    (hy : X.N[i]? = some y := by rfl) (hyl : X.env.scope.names.lookup y = some .local := by rfl) (hsw : swapsWith (.ListComp elt [⟨tg, it, [], 0⟩] scope pos) (some (.Name y py)) spos.line X.env = pure true := by exact sw_true rfl rfl rfl (by decide +kernel)) (hs : ∀ x, foldedSetIterable it X.env x = pure x := by intro _; rfl) (eN : N0 = X.N := by rfl) (eS : sc0 = X.env.scope := by rfl) :
    RS X cm (.Assign [.Name y py] (.ListComp elt [⟨tg, it, [], 0⟩] scope pos) spos) (sAsg (gNm i) (mLc mi g tYs me (own.map (·.2)))) := by
  refine psM (ps_setLc (own := own) (te := tE X.K cm me) (g := tG X.K cm (own.map (·.2)) g) hc hN hy hyl hsw hi (by rw [← eN, ← eS]; exact blkOk_by ok) hg (fun _ _ _ _ _ => pts_nil) he hs) fun D σ H q => ?_
  obtain ⟨ρ, h, sw, f, h', rh, rs, e, k⟩ := q
  obtain ⟨x, h1, e1, e2⟩ := bnd_ok e
  obtain ⟨s, h2, e3, e4⟩ := bnd_ok e2
  cases e4
  cases e3
  refine lc_tE (g := g) (t := tYs) (me := me) ⟨ρ, h, sw, x, h', rh, rs, e1, fun ρ1 H1 v l1 rh1 rv => ?_⟩ (fun _ _ _ _ z => z) (fun _ _ _ z => by
    obtain ⟨ρ, h, sw, b, h', rh, rs, e, k⟩ := z
    cases e
    exact k ρ _ .refl rh) (fun _ _ _ z => z)
  exact k ρ1 H1 _ l1 rh1 ((rs.mono l1).set rv i)
theorem rs_setLc1 {c : Expr} {i : Nat} {y : Str} {py : Pos} (own : List (Str × Nat)) (hc : X.calm = true) (hN : X.N.Nodup) (hi : RI X cm tg it mi) {N0 : List Str} {sc0 : Scope} (ok : blkC N0 sc0 scope own = true)
    (hg : ∀ (s : Shared) (H : Hp) (C : Addr) (cl : List (Str × Addr)) (fp : List Addr), RG (X.blk s H scope (compEnvC scope cl C X.env) fp) cm (own.map (·.2)) tg g)
    (ht : ∀ (s : Shared) (H : Hp) (C : Addr) (cl : List (Str × Addr)) (fp : List Addr), RT (X.blk s H scope (compEnvC scope cl C X.env) fp) cm c t)
    (he : ∀ (s : Shared) (H : Hp) (C : Addr) (cl : List (Str × Addr)) (fp : List Addr), RE (X.blk s H scope (compEnvC scope cl C X.env) fp) cm elt me)
    (hy : X.N[i]? = some y := by rfl) (hyl : X.env.scope.names.lookup y = some .local := by rfl) (hsw : swapsWith (.ListComp elt [⟨tg, it, [c], 0⟩] scope pos) (some (.Name y py)) spos.line X.env = pure true := by exact sw_true rfl rfl rfl (by decide +kernel)) (hs : ∀ x, foldedSetIterable it X.env x = pure x := by intro _; rfl) (eN : N0 = X.N := by rfl) (eS : sc0 = X.env.scope := by rfl) :
    RS X cm (.Assign [.Name y py] (.ListComp elt [⟨tg, it, [c], 0⟩] scope pos) spos) (sAsg (gNm i) (mLc mi g t me (own.map (·.2)))) := by
  refine psM (ps_setLc (own := own) (te := tE X.K cm me) (g := tG X.K cm (own.map (·.2)) g) (tt := tT X.K cm t) hc hN hy hyl hsw hi (by rw [← eN, ← eS]; exact blkOk_by ok) hg (fun _ _ _ _ _ => pts_one (ht _ _ _ _ _)) he hs) fun D σ H q => ?_
  obtain ⟨ρ, h, sw, f, h', rh, rs, e, k⟩ := q
  obtain ⟨x, h1, e1, e2⟩ := bnd_ok e
  obtain ⟨s, h2, e3, e4⟩ := bnd_ok e2
  cases e4
  cases e3
  refine lc_tE (g := g) (t := t) (me := me) ⟨ρ, h, sw, x, h', rh, rs, e1, fun ρ1 H1 v l1 rh1 rv => ?_⟩ (fun _ _ _ _ z => z) (fun _ _ _ z => z) (fun _ _ _ z => z)
  exact k ρ1 H1 _ l1 rh1 ((rs.mono l1).set rv i)
end
end EL
namespace EL
open PySem PySem.Spec L2
open PyProof.Rows hiding St

section
variable {K : PySem.W.Frag} {cm : Cm} {ρ : List Addr} {h h' : Hw} {H : Hp}
/-- a value that leaves the heap as it is -/
theorem KE.at {w : W} {v : V} {Q : VK} (k : KE K cm ρ H w h Q) (rh : RelH K cm ρ h H) (r : Rel K ρ H w v) : Q v H := k ρ H v .refl rh r
/-- a list's items by its place -/
theorem RelH.lst {p : Nat} {a : Addr} {xs : List W} (rh : RelH K cm ρ h H) (hp : ρ[p]? = some a) (e : h[p]? = some (.lst xs)) : ∃ vs, H a = some (.lst vs) ∧ Rels K ρ H xs vs := rh.obj p _ a e hp
end
/-- the items of a list, at a place or standing fast -/
def items (h : Hw) (x : W) : Option (List W) := match x with
  | .ref p => match h[p]? with
    | some (.lst xs) => some xs
    | _ => none
  | .rol xs => some xs
  | _ => none
theorem items_of {K : PySem.W.Frag} {cm : Cm} {ρ : List Addr} {h : Hw} {H : Hp} {x : W} {v : V} {xs : List W} (rh : RelH K cm ρ h H) (r : Rel K ρ H x v) (e : items h x = some xs) :
    ∃ a vs, v = .ref a ∧ SqL K H a vs ∧ Rels K ρ H xs vs := by
  cases r with
  | @ref p a hp =>
    have e' : (match h[p]? with
      | some (.lst xs) => some xs
      | _ => none) = some xs := e
    split at e'
    · rename_i ys hy
      cases e'
      obtain ⟨vs, ea, rx⟩ := rh.lst hp hy
      exact ⟨a, vs, rfl, .of ea, rx⟩
    · cases e'
  | rol hq r =>
    cases e
    exact ⟨_, _, rfl, hq.sq, r⟩
  | _ => cases e

/-! ### arithmetic -/
def mulOk (i j : Int) : Bool := decide (i.natAbs.log2 + j.natAbs.log2 < 1000000) || (decide (-18446744073709551616 < i) && decide (i < 18446744073709551616)) || (decide (-18446744073709551616 < j) && decide (j < 18446744073709551616))
def fAdd : W → W → M W
  | .int i, .int j => rtn (.int (i + j))
  | .str x, .str y => if x.length + y.length ≤ lim then rtn (.str (x ++ y)) else bad
  | .ref p, .ref q => fun h => match h[p]?, h[q]? with
    | some (.lst xs), some (.lst ys) => if xs.length + ys.length ≤ lim then alloc (.lst (xs ++ ys)) h else .no
    | _, _ => .no
  | .tup xs, .tup ys => if xs.isEmpty = false ∧ xs.length + ys.length ≤ lim then rtn (.tup (xs ++ ys)) else bad
  | _, _ => bad
def fSub : W → W → M W
  | .int i, .int j => rtn (.int (i - j))
  | _, _ => bad
def fMul : W → W → M W
  | .int i, .int j => if mulOk i j = true then rtn (.int (i * j)) else bad
  | _, _ => bad
def fDiv : W → W → M W
  | .int i, .int j => if 0 < j ∧ j.natAbs.log2 < 9000 then rtn (.int (i / j)) else bad
  | _, _ => bad
def fMod : W → W → M W
  | .int i, .int j => if 0 < j then rtn (.int (i % j)) else bad
  | _, _ => bad
def fPow : W → W → M W
  | .int i, .int j => if (0 ≤ j ∧ j ≤ 1000000) ∧ i.natAbs < 18446744073709551616 then rtn (.int (i ^ j.toNat)) else bad
  | _, _ => bad
section
variable {X : Cx} {cm : Cm}
theorem oAdd : OpR X (binaryOp .Add) (fun x y H Q => rI0 (fun i j => .int (i + j)) x y H Q ∨ (∃ i j, x = .str i ∧ y = .str j ∧ i.length + j.length ≤ sizeLine ∧ Q (.str (i ++ j)) H) ∨ rCat x y H Q ∨ rCatT X.K x y H Q) := op_add.or (op_add_str.or (op_cat.or op_catT))
theorem wAdd : OpW X.K cm (fun x y H Q => rI0 (fun i j => .int (i + j)) x y H Q ∨ (∃ i j, x = .str i ∧ y = .str j ∧ i.length + j.length ≤ sizeLine ∧ Q (.str (i ++ j)) H) ∨ rCat x y H Q ∨ rCatT X.K x y H Q) fAdd := by
  intro ρ h H x y x' y' z h' Q rh rx ry e k
  cases rx with
  | int i =>
    cases ry with
    | int j => cases e; exact .inl ⟨i, j, rfl, rfl, k.at rh (.int _)⟩
    | _ => cases e
  | str i =>
    cases ry with
    | str j =>
      have e' : (if i.length + j.length ≤ lim then rtn (W.str (i ++ j)) else bad) h = .ok z h' := e
      split at e'
      · rename_i hl
        cases e'
        exact .inr (.inl ⟨i, j, rfl, rfl, by rw [← lim_eq]; exact hl, k.at rh (.str _)⟩)
      · cases e'
    | _ => cases e
  | @ref p a hp =>
    cases ry with
    | @ref q b hq =>
      have e' : (match h[p]?, h[q]? with
        | some (.lst xs), some (.lst ys) => if xs.length + ys.length ≤ lim then alloc (.lst (xs ++ ys)) h else EL.R.no
        | _, _ => EL.R.no) = .ok z h' := e
      split at e'
      · rename_i xs ys h1 h2
        obtain ⟨vs, ea, r1⟩ := rh.lst hp h1
        obtain ⟨us, eb, r2⟩ := rh.lst hq h2
        split at e'
        · rename_i hl
          cases e'
          exact .inr (.inr (.inl ⟨a, b, vs, us, rfl, rfl, ea, eb, by rw [← r1.length, ← r2.length, ← lim_eq]; exact hl, fun p' hp' => new_lst rh (r1.append r2) hp' k⟩))
        · cases e'
      · cases e'
    | _ => cases e
  | @tup ws vs a hq r1 =>
    cases ry with
    | @tup us ts b hq2 r2 =>
      have e' : (if ws.isEmpty = false ∧ ws.length + us.length ≤ lim then rtn (W.tup (ws ++ us)) else bad) h = .ok z h' := e
      split at e'
      · rename_i hl
        cases e'
        refine .inr (.inr (.inr ⟨a, b, vs, ts, rfl, rfl, hq, hq2, fun z => ?_, by rw [← r1.length, ← r2.length, ← lim_eq]; exact hl.2, fun z => ?_, fun _ p hp => ?_⟩))
        · subst z
          cases r1
          simp at hl
        · subst z
          cases r2
          refine k.at rh (.tup hq ?_)
          rw [List.append_nil]
          exact r1
        · exact new_tup rh (r1.append r2) hp k
      · cases e'
    | _ => cases e
  | _ => cases e
theorem wInt {g : Int → Int → W} {gv : Int → Int → V} {f : W → W → M W} (hg : ∀ ρ H i j, Rel X.K ρ H (g i j) (gv i j)) (hf : ∀ x y h z h', f x y h = .ok z h' → ∃ i j, x = .int i ∧ y = .int j ∧ z = g i j ∧ h' = h) : OpW X.K cm (rI0 gv) f := by
  intro ρ h H x y x' y' z h' Q rh rx ry e k
  obtain ⟨i, j, rfl, rfl, rfl, rfl⟩ := hf _ _ _ _ _ e
  cases rx
  cases ry
  exact ⟨i, j, rfl, rfl, k.at rh (hg ρ H i j)⟩
theorem wIntC {C : Int → Int → Prop} {g : Int → Int → W} {gv : Int → Int → V} {f : W → W → M W} (hg : ∀ ρ H i j, Rel X.K ρ H (g i j) (gv i j)) (hf : ∀ x y h z h', f x y h = .ok z h' → ∃ i j, x = .int i ∧ y = .int j ∧ C i j ∧ z = g i j ∧ h' = h) : OpW X.K cm (rI C gv) f := by
  intro ρ h H x y x' y' z h' Q rh rx ry e k
  obtain ⟨i, j, rfl, rfl, c, rfl, rfl⟩ := hf _ _ _ _ _ e
  cases rx
  cases ry
  exact ⟨i, j, rfl, rfl, c, k.at rh (hg ρ H i j)⟩
theorem wSub : OpW X.K cm (rI0 fun i j => .int (i - j)) fSub := wInt (g := fun i j => .int (i - j)) (fun _ _ _ _ => .int _) fun x y h z h' e => by
  cases x <;> cases y <;> cases e
  exact ⟨_, _, rfl, rfl, rfl, rfl⟩
theorem oMul : OpR X (binaryOp .Mult) (fun x y H Q => rI CMulW (fun i j => .int (i * j)) x y H Q ∨ rI CMul (fun i j => .int (i * j)) x y H Q) := op_mulW.or op_mul
theorem wMul : OpW X.K cm (fun x y H Q => rI CMulW (fun i j => .int (i * j)) x y H Q ∨ rI CMul (fun i j => .int (i * j)) x y H Q) fMul := by
  intro ρ h H x y x' y' z h' Q rh rx ry e k
  cases rx with
  | int i =>
    cases ry with
    | int j =>
      have e' : (if mulOk i j = true then rtn (W.int (i * j)) else bad) h = .ok z h' := e
      split at e'
      · rename_i hl
        cases e'
        have q := k.at rh (.int (i * j))
        unfold mulOk at hl
        simp only [Bool.or_eq_true, Bool.and_eq_true, decide_eq_true_eq] at hl
        rcases hl with (hl | hl) | hl
        · exact .inl ⟨i, j, rfl, rfl, hl, q⟩
        · exact .inr ⟨i, j, rfl, rfl, .inl ⟨by omega, by omega⟩, q⟩
        · exact .inr ⟨i, j, rfl, rfl, .inr ⟨by omega, by omega⟩, q⟩
      · cases e'
    | _ => cases e
  | _ => cases ry <;> cases e
theorem wDiv : OpW X.K cm (rI CDivW fun i j => .int (i / j)) fDiv := wIntC (g := fun i j => .int (i / j)) (fun _ _ _ _ => .int _) fun x y h z h' e => by
  cases x <;> cases y <;> first | cases e | skip
  rename_i i j
  have e' : (if 0 < j ∧ j.natAbs.log2 < 9000 then rtn (W.int (i / j)) else bad) h = .ok z h' := e
  split at e'
  · rename_i hl
    cases e'
    exact ⟨_, _, rfl, rfl, hl, rfl, rfl⟩
  · cases e'
theorem wMod : OpW X.K cm (rI (fun _ j => 0 < j) fun i j => .int (i % j)) fMod := wIntC (g := fun i j => .int (i % j)) (fun _ _ _ _ => .int _) fun x y h z h' e => by
  cases x <;> cases y <;> first | cases e | skip
  rename_i i j
  have e' : (if 0 < j then rtn (W.int (i % j)) else bad) h = .ok z h' := e
  split at e'
  · rename_i hl
    cases e'
    exact ⟨_, _, rfl, rfl, hl, rfl, rfl⟩
  · cases e'
theorem wPow : OpW X.K cm (rI CPow fun i j => .int (i ^ j.toNat)) fPow := wIntC (g := fun i j => .int (i ^ j.toNat)) (fun _ _ _ _ => .int _) fun x y h z h' e => by
  cases x <;> cases y <;> first | cases e | skip
  rename_i i j
  have e' : (if (0 ≤ j ∧ j ≤ 1000000) ∧ i.natAbs < 18446744073709551616 then rtn (W.int (i ^ j.toNat)) else bad) h = .ok z h' := e
  split at e'
  · rename_i hl
    cases e'
    exact ⟨_, _, rfl, rfl, ⟨hl.1.1, hl.1.2, by omega⟩, rfl, rfl⟩
  · cases e'
end

def fNeg : W → M W
  | .int i => rtn (.int (-i))
  | _ => bad
section
variable {X : Cx} {cm : Cm}
theorem re_neg {a : Expr} {ma : ME} {pos : Pos} (ha : RE X cm a ma) : RE X cm (.UnaryOp .USub a pos) (mUn fNeg ma) := by
  refine peM (pe_un un_neg ha) fun σ H Q q => ?_
  obtain ⟨ρ, h, sw, w, h', rh, rs, e, k⟩ := q
  obtain ⟨x, h1, e1, e2⟩ := bnd_ok e
  refine ⟨ρ, h, sw, x, h1, rh, rs, e1, fun ρ1 H1 v l1 rh1 rx => ?_⟩
  cases rx with
  | int i =>
    cases e2
    exact ⟨i, rfl, k ρ1 H1 _ l1 rh1 (.int _)⟩
  | _ => cases e2
theorem hu65 {k : Nat} {A : Around} (r : Room k A) : A.units + 65 < cLine := by
  have := r.un
  omega
end
/-! ### comparisons -/
def fCmp (pi : Int → Int → Bool) (ps : List Nat → List Nat → Bool) : W → W → M W
  | .int i, .int j => rtn (.bl (pi i j))
  | .str x, .str y => rtn (.bl (ps x.cps.toList y.cps.toList))
  | _, _ => bad
def fLt := fCmp (fun i j => decide (i < j)) (fun x y => decide (x < y))
def fLe := fCmp (fun i j => decide (i ≤ j)) (fun x y => !decide (y < x))
def fGt := fCmp (fun i j => decide (j < i)) (fun x y => decide (y < x))
def fGe := fCmp (fun i j => decide (j ≤ i)) (fun x y => !decide (x < y))
def rCmp (pi : Int → Int → Bool) (ps : List Nat → List Nat → Bool) : R2 := fun x y H Q => rI0 (fun i j => .bl (pi i j)) x y H Q ∨ ∃ i j : Str, x = .str i ∧ y = .str j ∧ Q (.bl (ps i.cps.toList j.cps.toList)) H
section
variable {X : Cx} {cm : Cm}
theorem wCmp {pi : Int → Int → Bool} {ps : List Nat → List Nat → Bool} : OpW X.K cm (rCmp pi ps) (fCmp pi ps) := by
  intro ρ h H x y x' y' z h' Q rh rx ry e k
  cases rx with
  | int i =>
    cases ry with
    | int j => cases e; exact .inl ⟨i, j, rfl, rfl, k.at rh (.bl _)⟩
    | _ => cases e
  | str i =>
    cases ry with
    | str j => cases e; exact .inr ⟨i, j, rfl, rfl, k.at rh (.bl _)⟩
    | _ => cases e
  | _ => cases ry <;> cases e
theorem oLt : OpR X (compareOp .Lt) (rCmp (fun i j => decide (i < j)) (fun x y => decide (x < y))) := op_lt.or op_lt_str
theorem oLe : OpR X (compareOp .LtE) (rCmp (fun i j => decide (i ≤ j)) (fun x y => !decide (y < x))) := op_le.or op_le_str
theorem oGt : OpR X (compareOp .Gt) (rCmp (fun i j => decide (j < i)) (fun x y => decide (y < x))) := op_gt.or op_gt_str
theorem oGe : OpR X (compareOp .GtE) (rCmp (fun i j => decide (j ≤ i)) (fun x y => !decide (x < y))) := op_ge.or op_ge_str
end
/-- is, is not: None and truths -/
def fIs (neg : Bool) : W → W → M W
  | .bl a, .bl b => rtn (.bl (neg != decide (a = b)))
  | x, .non => match x with
    | .non => rtn (.bl (!neg))
    | _ => rtn (.bl neg)
  | _, _ => bad
section
variable {X : Cx} {cm : Cm}
theorem oIs : OpR X (compareOp .Is) (fun x y H Q => rIsB x y H Q ∨ (y = .non ∧ Q (.bl (decide (x = .non))) H)) := op_isBl.or op_isN
theorem oIsN : OpR X (compareOp .IsNot) (fun x y H Q => rNotB x y H Q ∨ (y = .non ∧ Q (.bl (!decide (x = .non))) H)) := op_notBl.or op_notN
theorem wIs : OpW X.K cm (fun x y H Q => rIsB x y H Q ∨ (y = .non ∧ Q (.bl (decide (x = .non))) H)) (fIs false) := by
  intro ρ h H x y x' y' z h' Q rh rx ry e k
  cases ry with
  | bl b =>
    cases rx with
    | bl a =>
      cases e
      refine .inl ⟨a, b, rfl, rfl, ?_⟩
      have q := k.at rh (.bl _)
      simpa using q
    | _ => cases e
  | non =>
    refine .inr ⟨rfl, ?_⟩
    cases rx <;> (cases e; exact k.at rh (.bl _))
  | _ => cases rx <;> cases e
theorem wIsN : OpW X.K cm (fun x y H Q => rNotB x y H Q ∨ (y = .non ∧ Q (.bl (!decide (x = .non))) H)) (fIs true) := by
  intro ρ h H x y x' y' z h' Q rh rx ry e k
  cases ry with
  | bl b =>
    cases rx with
    | bl a =>
      cases e
      refine .inl ⟨a, b, rfl, rfl, ?_⟩
      have q := k.at rh (.bl _)
      simpa using q
    | _ => cases e
  | non =>
    refine .inr ⟨rfl, ?_⟩
    cases rx <;> (cases e; exact k.at rh (.bl _))
  | _ => cases rx <;> cases e
end

/-! ### data: == and in -/
def mapO {α β : Type} (f : α → Option β) : List α → Option (List β)
  | [] => some []
  | x :: xs => match f x, mapO f xs with
    | some y, some ys => some (y :: ys)
    | _, _ => none
def toD (h : Hw) : Nat → W → Option PyData
  | _, .non => some .none
  | _, .bl b => some (.bool b)
  | _, .int i => some (.int i)
  | _, .str x => some (.str x)
  | n + 1, .tup ws => (mapO (toD h n) ws).map .tuple
  | n + 1, .rol ws => (mapO (toD h n) ws).map .list
  | n + 1, .ref p => match h[p]? with
    | some (.lst xs) => (mapO (toD h n) xs).map .list
    | _ => none
  | 0, _ => none
theorem map_dp {K : PySem.W.Frag} {ρ : List Addr} {H : Hp} {f : W → Option PyData} (hf : ∀ w v d, Rel K ρ H w v → f w = some d → Dp K H v d) : ∀ {ws : List W} {vs : List V} {ds : List PyData}, Rels K ρ H ws vs → mapO f ws = some ds → DpAll K H vs ds
  | _, _, _, .nil, e => by cases e; exact .nil
  | _, _, ds, .cons r t, e => by
    unfold mapO at e
    split at e
    · rename_i y ys e1 e2
      cases e
      exact .cons (hf _ _ _ r e1) (map_dp hf t e2)
    · cases e
theorem toD_dp {K : PySem.W.Frag} {cm : Cm} {ρ : List Addr} {h : Hw} {H : Hp} (rh : RelH K cm ρ h H) : ∀ (n : Nat) (w : W) (v : V) (d : PyData), Rel K ρ H w v → toD h n w = some d → Dp K H v d := by
  intro n
  induction n with
  | zero =>
    intro w v d r e
    cases r with
    | non => cases e; exact .non
    | bl b => cases e; exact .bl b
    | int i => cases e; exact .int i
    | str x => cases e; exact .str x
    | _ => cases e
  | succ n ih =>
    intro w v d r e
    cases r with
    | non => cases e; exact .non
    | bl b => cases e; exact .bl b
    | int i => cases e; exact .int i
    | str x => cases e; exact .str x
    | tup hq r =>
      unfold toD at e
      cases q : mapO (toD h n) _ with
      | none => rw [q] at e; cases e
      | some ds =>
        rw [q] at e
        cases e
        exact .tup hq (map_dp ih r q)
    | rol hq r =>
      unfold toD at e
      cases q : mapO (toD h n) _ with
      | none => rw [q] at e; cases e
      | some ds =>
        rw [q] at e
        cases e
        exact .lst hq.sq (map_dp ih r q)
    | @ref p a hp =>
      unfold toD at e
      split at e
      · rename_i xs hx
        obtain ⟨vs, ea, rx⟩ := rh.lst hp hx
        cases q : mapO (toD h n) xs with
        | none => rw [q] at e; cases e
        | some ds =>
          rw [q] at e
          cases e
          exact .lst (.of ea) (map_dp ih rx q)
      · cases e
def fEq (neg : Bool) (x y : W) : M W := fun h => match toD h 8 x, toD h 8 y with
  | some d, some e => if (SeqAt.shaped d && SeqAt.shaped e) = true then .ok (.bl (neg != PyData.eqv d e)) h else .no
  | _, _ => .no
def fIn (neg : Bool) : W → W → M W
  | .str x, .str y => rtn (.bl (neg != !(Builtin.Str.occurrences y x 0 y.length 1).isEmpty))
  | x, y => fun h => match toD h 8 x, toD h 8 y with
    | some d, some (.list ds) => if (SeqAt.shaped d && SeqAt.shaped (.list ds)) = true then .ok (.bl (neg != ds.any fun z => PyData.eqv z d)) h else .no
    | _, _ => .no
section
variable {X : Cx} {cm : Cm}
theorem wEq : OpW X.K cm (rEqD X.K) (fEq false) := by
  intro ρ h H x y x' y' z h' Q rh rx ry e k
  unfold fEq at e
  split at e
  · rename_i d1 d2 e1 e2
    split at e
    · rename_i hs
      cases e
      rw [Bool.and_eq_true] at hs
      refine ⟨d1, d2, toD_dp rh _ _ _ _ rx e1, toD_dp rh _ _ _ _ ry e2, hs.1, hs.2, ?_⟩
      have q := k.at rh (.bl _)
      simpa using q
    · cases e
  · cases e
theorem wNe : OpW X.K cm (rNeD X.K) (fEq true) := by
  intro ρ h H x y x' y' z h' Q rh rx ry e k
  unfold fEq at e
  split at e
  · rename_i d1 d2 e1 e2
    split at e
    · rename_i hs
      cases e
      rw [Bool.and_eq_true] at hs
      refine ⟨d1, d2, toD_dp rh _ _ _ _ rx e1, toD_dp rh _ _ _ _ ry e2, hs.1, hs.2, ?_⟩
      have q := k.at rh (.bl _)
      simpa using q
    · cases e
  · cases e
theorem fIn_data {neg : Bool} {x y : W} {h h' : Hw} {z : W} (e : fIn neg x y h = .ok z h') : (∃ a b, x = .str a ∧ y = .str b ∧ z = .bl (neg != !(Builtin.Str.occurrences b a 0 b.length 1).isEmpty) ∧ h' = h) ∨
    ∃ d ds, toD h 8 x = some d ∧ toD h 8 y = some (.list ds) ∧ SeqAt.shaped d = true ∧ SeqAt.shaped (.list ds) = true ∧ z = .bl (neg != ds.any fun z => PyData.eqv z d) ∧ h' = h := by
  unfold fIn at e
  split at e
  · cases e
    exact .inl ⟨_, _, rfl, rfl, rfl, rfl⟩
  · dsimp only at e
    split at e
    · split at e
      · rename_i hs
        cases e
        rw [Bool.and_eq_true] at hs
        exact .inr ⟨_, _, by assumption, by assumption, hs.1, hs.2, rfl, rfl⟩
      · cases e
    · cases e
theorem oIn (hu : X.A.units + 65 < cLine) : OpR X (compareOp .In) (fun x y H Q => (∃ i j, x = .str i ∧ y = .str j ∧ Q (.bl (!(Builtin.Str.occurrences j i 0 j.length 1).isEmpty)) H) ∨ rInD X.K x y H Q) := op_in_str.or (op_inD hu)
theorem oNotIn (hu : X.A.units + 65 < cLine) : OpR X (compareOp .NotIn) (fun x y H Q => (∃ i j, x = .str i ∧ y = .str j ∧ Q (.bl (!(!(Builtin.Str.occurrences j i 0 j.length 1).isEmpty))) H) ∨ rNotInD X.K x y H Q) := op_notin_str.or (op_notInD hu)
theorem wIn : OpW X.K cm (fun x y H Q => (∃ i j, x = .str i ∧ y = .str j ∧ Q (.bl (!(Builtin.Str.occurrences j i 0 j.length 1).isEmpty)) H) ∨ rInD X.K x y H Q) (fIn false) := by
  intro ρ h H x y x' y' z h' Q rh rx ry e k
  rcases fIn_data e with ⟨a, b, rfl, rfl, rfl, rfl⟩ | ⟨d, ds, e1, e2, s1, s2, rfl, rfl⟩
  · cases rx
    cases ry
    have q := k.at rh (.bl _)
    exact .inl ⟨_, _, rfl, rfl, by simpa using q⟩
  · have q := k.at rh (.bl _)
    exact .inr ⟨d, ds, toD_dp rh _ _ _ _ rx e1, toD_dp rh _ _ _ _ ry e2, s1, s2, by simpa using q⟩
theorem wNotIn : OpW X.K cm (fun x y H Q => (∃ i j, x = .str i ∧ y = .str j ∧ Q (.bl (!(!(Builtin.Str.occurrences j i 0 j.length 1).isEmpty))) H) ∨ rNotInD X.K x y H Q) (fIn true) := by
  intro ρ h H x y x' y' z h' Q rh rx ry e k
  rcases fIn_data e with ⟨a, b, rfl, rfl, rfl, rfl⟩ | ⟨d, ds, e1, e2, s1, s2, rfl, rfl⟩
  · cases rx
    cases ry
    have q := k.at rh (.bl _)
    exact .inl ⟨_, _, rfl, rfl, by simpa using q⟩
  · have q := k.at rh (.bl _)
    exact .inr ⟨d, ds, toD_dp rh _ _ _ _ rx e1, toD_dp rh _ _ _ _ ry e2, s1, s2, by simpa using q⟩
end

/-! ### subscripts and slices -/
def fIx (x y : W) : M W := fun h => match y with
  | .int i => match x with
    | .tup xs => match atI xs i with
      | some w => .ok w h
      | none => .no
    | .str z => if z.length ≤ lim then match atI z.cps.toList i with
      | some c => .ok (.str ⟨#[c]⟩) h
      | none => .no
      else .no
    | x => match items h x with
      | some xs => match atI xs i with
        | some w => .ok w h
        | none => .no
      | none => .no
  | _ => .no
theorem atI_rel {K : PySem.W.Frag} {ρ : List Addr} {H : Hp} {ws : List W} {vs : List V} {i : Int} {w : W} (r : Rels K ρ H ws vs) (e : atI ws i = some w) : ∃ v, atI vs i = some v ∧ Rel K ρ H w v := by
  unfold atI at e ⊢
  rw [r.length] at e
  cases q : ixN vs.length i with
  | none => rw [q] at e; cases e
  | some j =>
    rw [q] at e
    exact r.get e
section
variable {X : Cx} {cm : Cm}
theorem wIx : OpW X.K cm (rIx X.K) fIx := by
  intro ρ h H x y x' y' z h' Q rh rx ry e k
  cases ry with
  | int i =>
    have lst : ∀ {xs : List W}, items h x = some xs → (match atI xs i with
        | some w => EL.R.ok w h
        | none => EL.R.no) = .ok z h' → rIx X.K x' (.int i) H Q := fun {xs} hi e => by
      obtain ⟨a, vs, rfl, hq, rl⟩ := items_of rh rx hi
      split at e
      · rename_i w hw
        cases e
        obtain ⟨v, hv, rv⟩ := atI_rel rl hw
        exact .inl ⟨a, vs, i, v, rfl, rfl, hq, hv, k.at rh rv⟩
      · cases e
    cases rx with
    | @tup us vs a hq r =>
      have e' : (match atI us i with
        | some w => EL.R.ok w h
        | none => EL.R.no) = .ok z h' := e
      split at e'
      · rename_i w hw
        cases e'
        obtain ⟨v, hv, rv⟩ := atI_rel r hw
        exact .inr (.inl ⟨_, _, i, v, rfl, rfl, hq, hv, k.at rh rv⟩)
      · cases e'
    | str s =>
      have e' : (if s.length ≤ lim then (match atI s.cps.toList i with
        | some c => EL.R.ok (W.str ⟨#[c]⟩) h
        | none => EL.R.no) else EL.R.no) = .ok z h' := e
      split at e'
      · rename_i hl
        split at e'
        · rename_i c hc
          cases e'
          exact .inr (.inr ⟨s, i, c, rfl, rfl, by rw [← lim_eq]; exact hl, hc, k.at rh (.str _)⟩)
        · cases e'
      · cases e'
    | @ref p a hp =>
      have e' : (match items h (.ref p) with
        | some xs => (match atI xs i with
          | some w => EL.R.ok w h
          | none => EL.R.no)
        | none => EL.R.no) = .ok z h' := e
      split at e'
      · exact lst (by assumption) e'
      · cases e'
    | @rol ws vs a hq r =>
      have e' : (match items h (.rol ws) with
        | some xs => (match atI xs i with
          | some w => EL.R.ok w h
          | none => EL.R.no)
        | none => EL.R.no) = .ok z h' := e
      split at e'
      · exact lst (by assumption) e'
      · cases e'
    | _ => cases e
  | _ => cases e
theorem re_ix {a b : Expr} {ma mb : ME} {pos : Pos} (ha : RE X cm a ma) (hb : RE X cm b mb) (hs : PlainIx b := by exact fun _ _ => rfl) : RE X cm (.Subscript a b pos) (mBin fIx ma mb) :=
  peM (pe_ix ix_seq ha hb hs) fun _ _ _ => op_tE wIx
/-- an optional part -/
abbrev MO := SW → M (Option Int)
def oNo : MO := fun _ => rtn none
def oSo (a : ME) : MO := fun sw => bnd (a sw) fun x => match x with
  | .int i => rtn (some i)
  | _ => bad
def tOo (K : PySem.W.Frag) (cm : Cm) (m : MO) : TO := fun σ H Q => ∃ ρ h sw o h', RelH K cm ρ h H ∧ RelS K ρ H sw σ ∧ m sw h = .ok o h' ∧ ∀ ρ' H', Le K ρ H ρ' H' → RelH K cm ρ' h' H' → Q o H'
abbrev RO (X : Cx) (cm : Cm) (e : Option Expr) (m : MO) : Prop := PO X e (tOo X.K cm m)
theorem poM {X : Cx} {e : Option Expr} {t t' : TO} (p : PO X e t) (f : ∀ σ H Q, t' σ H Q → t σ H Q) : PO X e t' := ⟨fun pins s σ H Q I q => p.run pins s σ H Q I (f σ H Q q)⟩
theorem ro_no : RO X cm none oNo := by
  refine poM po_none fun σ H Q q => ?_
  obtain ⟨ρ, h, sw, o, h', rh, rs, e, k⟩ := q
  cases e
  exact k ρ H .refl rh
theorem ro_so {a : Expr} {ma : ME} (ha : RE X cm a ma) : RO X cm (some a) (oSo ma) := by
  refine poM (po_some ha) fun σ H Q q => ?_
  obtain ⟨ρ, h, sw, o, h', rh, rs, e, k⟩ := q
  obtain ⟨x, h1, e1, e2⟩ := bnd_ok e
  refine ⟨ρ, h, sw, x, h1, rh, rs, e1, fun ρ1 H1 x' l1 rh1 rx => ?_⟩
  cases x with
  | int i =>
    cases rx
    cases e2
    exact ⟨i, rfl, k ρ1 H1 l1 rh1⟩
  | _ => cases e2
def cutW (xs : List W) (lo hi : Option Int) : List W := (xs.drop (HT.sIx xs.length 0 lo)).take (HT.sIx xs.length xs.length hi - HT.sIx xs.length 0 lo)
theorem cut_rel {K : PySem.W.Frag} {ρ : List Addr} {H : Hp} {ws : List W} {vs : List V} (r : Rels K ρ H ws vs) (lo hi : Option Int) : Rels K ρ H (cutW ws lo hi) (cutV vs lo hi) := by
  unfold cutW cutV
  rw [r.length]
  exact (r.drop _).take _
def fSl (x : W) (lo hi : Option Int) : M W := fun h => match x with
  | .str z => if z.length ≤ lim then .ok (.str (cutS z lo hi)) h else .no
  | .tup xs => if HT.sIx xs.length 0 lo = 0 ∧ HT.sIx xs.length xs.length hi = xs.length then .no else .ok (.tup (cutW xs lo hi)) h
  | x => match items h x with
    | some xs => alloc (.lst (cutW xs lo hi)) h
    | none => .no
def mSl (a : ME) (l u : MO) : ME := fun sw => bnd (a sw) fun x => bnd (l sw) fun lo => bnd (u sw) fun hi => fSl x lo hi
theorem re_sl {a : Expr} {ma : ME} {lo hi : Option Expr} {ml mh : MO} {pos p2 : Pos} (ha : RE X cm a ma) (hl : RO X cm lo ml) (hu : RO X cm hi mh) : RE X cm (.Subscript a (.Slice lo hi none p2) pos) (mSl ma ml mh) := by
  refine peM (pe_slice (sl_list.or (sl_tup.or sl_str)) ha hl hu) fun σ H Q q => ?_
  obtain ⟨ρ, h, sw, w, h', rh, rs, e, k⟩ := q
  obtain ⟨x, h1, e1, e2⟩ := bnd_ok e
  obtain ⟨l, h2, e3, e4⟩ := bnd_ok e2
  obtain ⟨u, h3, e5, e6⟩ := bnd_ok e4
  refine ⟨ρ, h, sw, x, h1, rh, rs, e1, fun ρ1 H1 x' l1 rh1 rx => ?_⟩
  refine ⟨ρ1, h1, sw, l, h2, rh1, rs.mono l1, e3, fun ρ2 H2 l2 rh2 => ?_⟩
  refine ⟨ρ2, h2, sw, u, h3, rh2, rs.mono (l1.trans l2), e5, fun ρ3 H3 l3 rh3 => ?_⟩
  have rx3 := rx.mono (l2.trans l3)
  have k3 : KE X.K cm ρ3 H3 w h' Q := fun ρ4 H4 v l4 => k ρ4 H4 v ((l1.trans l2).trans (l3.trans l4))
  have lst : (match items h3 x with
    | some xs => alloc (.lst (cutW xs l u)) h3
    | none => EL.R.no) = .ok w h' → rSlL X.K x' l u H3 Q := fun e => by
    split at e
    · rename_i xs hi
      cases e
      obtain ⟨a, vs, rfl, hq, rl⟩ := items_of rh3 rx3 hi
      exact ⟨a, vs, rfl, hq, fun p hp => new_lst rh3 (cut_rel rl l u) hp k3⟩
    · cases e
  cases rx3 with
  | str z =>
    have e' : (if z.length ≤ lim then EL.R.ok (W.str (cutS z l u)) h3 else EL.R.no) = .ok w h' := e6
    split at e'
    · rename_i hl
      cases e'
      exact .inr (.inr ⟨z, rfl, by rw [← lim_eq]; exact hl, k3.at rh3 (.str _)⟩)
    · cases e'
  | @tup ws vs a hq r =>
    have e' : (if HT.sIx ws.length 0 l = 0 ∧ HT.sIx ws.length ws.length u = ws.length then EL.R.no else EL.R.ok (W.tup (cutW ws l u)) h3) = .ok w h' := e6
    split at e'
    · cases e'
    · rename_i hl
      cases e'
      rw [r.length] at hl
      exact .inr (.inl ⟨a, vs, rfl, hq, hl, fun p hp => new_tup rh3 (cut_rel r l u) hp k3⟩)
  | ref hp => exact .inl (lst e6)
  | rol hq r => exact .inl (lst e6)
  | _ => cases e6
end

/-! ### built-ins -/
section
variable {X : Cx} {cm : Cm}
theorem one_of {K : PySem.W.Frag} {ρ : List Addr} {H : Hp} {w : W} {vs : List V} (r : Rels K ρ H [w] vs) : ∃ v, vs = [v] ∧ Rel K ρ H w v := by
  cases r with
  | cons r t =>
    cases t
    exact ⟨_, rfl, r⟩
theorem two_of {K : PySem.W.Frag} {ρ : List Addr} {H : Hp} {w u : W} {vs : List V} (r : Rels K ρ H [w, u] vs) : ∃ v x, vs = [v, x] ∧ Rel K ρ H w v ∧ Rel K ρ H u x := by
  cases r with
  | cons r t =>
    cases t with
    | cons r2 t =>
      cases t
      exact ⟨_, _, rfl, r, r2⟩
def bLen : List W → M W
  | [x] => fun h => match x with
    | .str z => if z.length ≤ lim then .ok (.int z.length) h else .no
    | .tup xs => .ok (.int xs.length) h
    | x => match items h x with
      | some xs => .ok (.int xs.length) h
      | none => .no
  | _ => bad
theorem oLen : CallR X (.builtin "len") (fun xs H Q => (∃ p ys, xs = [.ref p] ∧ (SqL X.K H p ys ∨ SqT X.K H p ys) ∧ Q (.int ys.length) H) ∨ ∃ z, xs = [.str z] ∧ z.length ≤ sizeLine ∧ Q (.int z.length) H) := call_len_seq.or call_len_str
theorem wLen : CallW X.K cm (fun xs H Q => (∃ p ys, xs = [.ref p] ∧ (SqL X.K H p ys ∨ SqT X.K H p ys) ∧ Q (.int ys.length) H) ∨ ∃ z, xs = [.str z] ∧ z.length ≤ sizeLine ∧ Q (.int z.length) H) bLen := by
  intro ρ h H ws vs z h' Q rh r e k
  cases ws with
  | nil => cases e
  | cons x t =>
    cases t with
    | cons _ _ => cases e
    | nil =>
      obtain ⟨v, rfl, rx⟩ := one_of r
      have lst : (match items h x with
        | some xs => EL.R.ok (W.int xs.length) h
        | none => EL.R.no) = .ok z h' → (∃ p ys, [v] = [.ref p] ∧ (SqL X.K H p ys ∨ SqT X.K H p ys) ∧ Q (.int ys.length) H) := fun e => by
        split at e
        · rename_i xs hi
          cases e
          obtain ⟨a, vs, rfl, hq, rl⟩ := items_of rh rx hi
          refine ⟨a, vs, rfl, .inl hq, ?_⟩
          rw [← rl.length]
          exact k.at rh (.int _)
        · cases e
      cases rx with
      | str s =>
        have e' : (if s.length ≤ lim then EL.R.ok (W.int s.length) h else EL.R.no) = .ok z h' := e
        split at e'
        · rename_i hl
          cases e'
          exact .inr ⟨s, rfl, by rw [← lim_eq]; exact hl, k.at rh (.int _)⟩
        · cases e'
      | @tup us ts a hq r2 =>
        cases e
        refine .inl ⟨_, _, rfl, .inr hq, ?_⟩
        rw [← Rels.length r2]
        exact k.at rh (.int _)
      | ref hp => exact .inl (lst e)
      | rol hq r => exact .inl (lst e)
      | _ => cases e
def bAbs : List W → M W
  | [.int i] => rtn (.int (if i < 0 then -i else i))
  | _ => bad
theorem wAbs : CallW X.K cm (fun xs H Q => ∃ i, xs = [.int i] ∧ Q (.int (if i < 0 then -i else i)) H) bAbs := by
  intro ρ h H ws vs z h' Q rh r e k
  unfold bAbs at e
  split at e
  · cases e
    obtain ⟨v, rfl, rx⟩ := one_of r
    cases rx
    exact ⟨_, rfl, k.at rh (.int _)⟩
  · cases e
def bInt : List W → M W
  | [.int i] => rtn (.int i)
  | [.bl b] => rtn (.int (if b then 1 else 0))
  | _ => bad
theorem wInt1 : CallW X.K cm (fun xs H Q => (∃ i, xs = [.int i] ∧ Q (.int i) H) ∨ ∃ k, xs = [.bl k] ∧ Q (.int (if k then 1 else 0)) H) bInt := by
  intro ρ h H ws vs z h' Q rh r e k
  unfold bInt at e
  split at e
  · cases e
    obtain ⟨v, rfl, rx⟩ := one_of r
    cases rx
    exact .inl ⟨_, rfl, k.at rh (.int _)⟩
  · cases e
    obtain ⟨v, rfl, rx⟩ := one_of r
    cases rx
    exact .inr ⟨_, rfl, k.at rh (.int _)⟩
  · cases e
def wInts : List W → Option (List Int) := mapO fun w => match w with
  | .int i => some i
  | _ => none
theorem wInts_of : ∀ {ws : List W} {ns : List Int}, wInts ws = some ns → ws = ns.map W.int
  | [], ns, e => by
    cases e
    rfl
  | w :: ws, ns, e => by
    unfold wInts mapO at e
    split at e
    · rename_i y ys e1 e2
      cases e
      have q : ws = ys.map W.int := wInts_of (ws := ws) e2
      cases w <;> cases e1
      rw [List.map_cons, ← q]
    · cases e
def bSum : List W → M W
  | [x] => fun h => match items h x with
    | some xs => match wInts xs with
      | some ns => .ok (.int ns.sum) h
      | none => .no
    | none => .no
  | _ => bad
theorem wSum : CallW X.K cm (rSum X.K) bSum := by
  intro ρ h H ws vs z h' Q rh r e k
  cases ws with
  | nil => cases e
  | cons x t =>
    cases t with
    | cons _ _ => cases e
    | nil =>
      obtain ⟨v, rfl, rx⟩ := one_of r
      have e' : (match items h x with
        | some xs => (match wInts xs with
          | some ns => EL.R.ok (W.int ns.sum) h
          | none => EL.R.no)
        | none => EL.R.no) = .ok z h' := e
      split at e'
      · rename_i xs hi
        split at e'
        · rename_i ns hn
          cases e'
          obtain ⟨a, us, rfl, hq, rl⟩ := items_of rh rx hi
          have q := wInts_of hn
          subst q
          rw [Rels.of_ints rl] at hq
          exact ⟨a, ns, rfl, hq, k.at rh (.int _)⟩
        · cases e'
      · cases e'
def bMax : List W → M W
  | [.int i, .int j] => rtn (.int (if j > i then j else i))
  | _ => bad
theorem wMax : CallW X.K cm (fun xs H Q => ∃ i j, xs = [.int i, .int j] ∧ Q (.int (if j > i then j else i)) H) bMax := by
  intro ρ h H ws vs z h' Q rh r e k
  unfold bMax at e
  split at e
  · cases e
    obtain ⟨v, u, rfl, rx, ry⟩ := two_of r
    cases rx
    cases ry
    exact ⟨_, _, rfl, k.at rh (.int _)⟩
  · cases e
def bMin : List W → M W
  | [.int i, .int j] => rtn (.int (if j < i then j else i))
  | _ => bad
theorem wMin : CallW X.K cm (fun xs H Q => ∃ i j, xs = [.int i, .int j] ∧ Q (.int (if j < i then j else i)) H) bMin := by
  intro ρ h H ws vs z h' Q rh r e k
  unfold bMin at e
  split at e
  · cases e
    obtain ⟨v, u, rfl, rx, ry⟩ := two_of r
    cases rx
    cases ry
    exact ⟨_, _, rfl, k.at rh (.int _)⟩
  · cases e
def wBls : List W → Option (List Bool) := mapO fun w => match w with
  | .bl i => some i
  | _ => none
theorem wBls_of : ∀ {ws : List W} {ns : List Bool}, wBls ws = some ns → ws = ns.map W.bl
  | [], ns, e => by
    cases e
    rfl
  | w :: ws, ns, e => by
    unfold wBls mapO at e
    split at e
    · rename_i y ys e1 e2
      cases e
      have q : ws = ys.map W.bl := wBls_of (ws := ws) e2
      cases w <;> cases e1
      rw [List.map_cons, ← q]
    · cases e
def bAll : List W → M W
  | [x] => fun h => match items h x with
    | some xs => match wBls xs with
      | some ns => .ok (.bl (ns.all id)) h
      | none => .no
    | none => .no
  | _ => bad
theorem wAll : CallW X.K cm (rAll X.K) bAll := by
  intro ρ h H ws vs z h' Q rh r e k
  cases ws with
  | nil => cases e
  | cons x t =>
    cases t with
    | cons _ _ => cases e
    | nil =>
      obtain ⟨v, rfl, rx⟩ := one_of r
      have e' : (match items h x with
        | some xs => (match wBls xs with
          | some ns => EL.R.ok (W.bl (ns.all id)) h
          | none => EL.R.no)
        | none => EL.R.no) = .ok z h' := e
      split at e'
      · rename_i xs hi
        split at e'
        · rename_i ns hn
          cases e'
          obtain ⟨a, us, rfl, hq, rl⟩ := items_of rh rx hi
          have q := wBls_of hn
          subst q
          rw [Rels.of_bls rl] at hq
          exact ⟨a, ns, rfl, hq, k.at rh (.bl _)⟩
        · cases e'
      · cases e'
def wStrs : List W → Option (List Str) := mapO fun w => match w with
  | .str i => some i
  | _ => none
theorem wStrs_of : ∀ {ws : List W} {ns : List Str}, wStrs ws = some ns → ws = ns.map W.str
  | [], ns, e => by
    cases e
    rfl
  | w :: ws, ns, e => by
    unfold wStrs mapO at e
    split at e
    · rename_i y ys e1 e2
      cases e
      have q : ws = ys.map W.str := wStrs_of (ws := ws) e2
      cases w <;> cases e1
      rw [List.map_cons, ← q]
    · cases e
/-- repr of a truth -/
def bRepr : List W → M W
  | [.bl b] => rtn (.str (if b then Str.ofString "True" else Str.ofString "False"))
  | [.non] => rtn (.str (Str.ofString "None"))
  | [.int i] => if i.natAbs.log2 < 1920 then rtn (.str (toString i)) else bad
  | [.str x] => if (reprText x).length ≤ lim then rtn (.str (reprText x)) else bad
  | _ => bad
def rRepr : List V → Hp → VK → Prop := fun xs H Q => (∃ b, xs = [.bl b] ∧ Q (.str (if b then Str.ofString "True" else Str.ofString "False")) H) ∨ (xs = [.non] ∧ Q (.str (Str.ofString "None")) H) ∨
  (∃ i : Int, xs = [.int i] ∧ i.natAbs.log2 < 1920 ∧ Q (.str (toString i)) H) ∨ ∃ x : Str, xs = [.str x] ∧ (reprText x).length ≤ sizeLine ∧ Q (.str (reprText x)) H
theorem oRepr : CallR X (.builtin "repr") rRepr := by
  intro pins s σ H xs us Q I r h
  rcases h with ⟨b, rfl, q⟩ | ⟨rfl, q⟩ | ⟨i, rfl, hi, q⟩ | ⟨x, rfl, hx, q⟩
  · obtain ⟨u, rfl, ru⟩ := Vals.one r
    cases ru
    cases b with
    | true => exact PySem.P.repr_of_bool ⟨.str _, H, I.tok _, ⟨_, rfl⟩, q⟩
    | false => exact PySem.P.repr_of_bool ⟨.str _, H, I.tok _, ⟨_, rfl⟩, q⟩
  · obtain ⟨u, rfl, ru⟩ := Vals.one r
    cases ru
    exact PySem.P.repr_of_none ⟨.str _, H, I.tok _, ⟨_, rfl⟩, q⟩
  · obtain ⟨u, rfl, ru⟩ := Vals.one r
    obtain ⟨t, rfl⟩ := ru
    exact PySem.P.repr_of_int hi ⟨.str _, H, I.tok _, ⟨_, rfl⟩, q⟩
  · obtain ⟨u, rfl, ru⟩ := Vals.one r
    obtain ⟨t, rfl⟩ := ru
    exact PySem.P.repr_of_str ⟨.str _, H, I.tok _, ⟨_, rfl⟩, q⟩ hx
theorem wRepr : CallW X.K cm rRepr bRepr := by
  intro ρ h H ws vs z h' Q rh r e k
  unfold bRepr at e
  split at e
  · cases e
    obtain ⟨v, rfl, rx⟩ := one_of r
    cases rx
    exact .inl ⟨_, rfl, k.at rh (.str _)⟩
  · cases e
    obtain ⟨v, rfl, rx⟩ := one_of r
    cases rx
    exact .inr (.inl ⟨rfl, k.at rh (.str _)⟩)
  · split at e
    · cases e
      obtain ⟨v, rfl, rx⟩ := one_of r
      cases rx
      exact .inr (.inr (.inl ⟨_, rfl, by assumption, k.at rh (.str _)⟩))
    · cases e
  · split at e
    · cases e
      obtain ⟨v, rfl, rx⟩ := one_of r
      cases rx
      exact .inr (.inr (.inr ⟨_, rfl, by rw [← lim_eq]; assumption, k.at rh (.str _)⟩))
    · cases e
  · cases e
/-- sep.join(a list of texts) -/
def fJoin (x y : W) : M W := fun h => match x with
  | .str a => match items h y with
    | some xs => match wStrs xs with
      | some ys => if (ys.map Str.length).sum + ys.length * a.length ≤ lim then .ok (.str (Txt.join a ys)) h else .no
      | none => .no
    | none => .no
  | _ => .no
end
/-! ### isinstance, of what is no instance -/
def tyName (h : Hw) (x : W) : Option String := match x with
  | .non => some "NoneType"
  | .bl _ => some "bool"
  | .int _ => some "int"
  | .str _ => some "str"
  | .tup _ => some "tuple"
  | .rol _ => some "list"
  | .ref p => match h[p]? with
    | some (.lst _) => some "list"
    | some (.dK _) => some "dict"
    | some (.dF _) => some "dict"
    | _ => none
theorem tyX_of {K : PySem.W.Frag} {cm : Cm} {ρ : List Addr} {h : Hw} {H : Hp} {x : W} {v : V} {n : String} (rh : RelH K cm ρ h H) (r : Rel K ρ H x v) (e : tyName h x = some n) : TyX K H v (.type n) := by
  cases r with
  | non => cases e; exact .base .non
  | bl b => cases e; exact .base (.bl b)
  | int i => cases e; exact .base (.int i)
  | str s => cases e; exact .base (.str s)
  | tup hq r =>
    cases e
    rcases hq with (hq | ⟨o, hq⟩) | ⟨o, its, n, hk, hc, _⟩
    · exact .base (.tup hq)
    · exact .fTuple hq
    · exact .kTuple hk hc
  | rol hq r =>
    cases e
    rcases hq with ⟨o, hq⟩ | ⟨o, its, n, hk, hc, _⟩
    · exact .base (.frz hq)
    · exact .kList hk hc
  | @ref p a hp =>
    have e' : (match h[p]? with
      | some (.lst _) => some "list"
      | some (.dK _) => some "dict"
      | some (.dF _) => some "dict"
      | _ => none) = some n := e
    obtain ⟨o, ho, ro⟩ := rh.at (w := .non) hp
    rw [ho] at e'
    cases o with
    | lst xs =>
      cases e'
      obtain ⟨vs, ea, _⟩ := ro
      exact .base (.lst ea)
    | dK kvs =>
      cases e'
      obtain ⟨kv, ea, _⟩ := ro
      exact .base (.dK ea)
    | ins C fs => cases e'
    | st ks => cases e'
    | xc C f w => cases e'
    | dF kvs =>
      cases e'
      obtain ⟨o, kv, ea, _⟩ := ro
      exact .fDict ea
/-- isinstance(x, T), T a built-in type -/
def mIsi (T : String) (a : ME) : ME := fun sw => bnd (a sw) fun x h => match tyName h x with
  | some n => match kitB n T with
    | some b => .ok (.bl b) h
    | none => .no
  | none => .no
section
variable {X : Cx} {cm : Cm} {a b : Expr} {ma : ME} {pos p : Pos}
theorem re_isi {T : String} {x : Str} {p2 : Pos} (hm : X.mg "isinstance" = none) (hT : X.mg x = none) (ha : RE X cm a ma) (hv : bootBuiltins x = some (.type T) := by decide +kernel) (hg : Gl X "isinstance" := by rfl) (hg2 : Gl X x := by rfl) (hn : x ≠ "__name__" := by decide) (hd : (x == ("__debug__" : Str)) = false := by decide)
    (hs1 : starEach (a :: [.Name x p2]) X.env = (false, eval a X.env) :: starEach [.Name x p2] X.env := by rfl) (hs2 : starEach (.Name x p2 :: []) X.env = (false, eval (.Name x p2) X.env) :: starEach [] X.env := by rfl) (hpl : (backTo pos (starEach [.Name x p2] X.env)).any (·.1) = false := by rfl) :
    RE X cm (.Call (.Name "isinstance" p) [a, .Name x p2] [] pos) (mIsi T ma) := by
  refine peM (pe_callB call_isi hg hm (by decide +kernel) (pa_cons ha (pa_cons (pe_bltn (v := .ty T) hg2 hT hv rfl hn hd) pa_nil hs2) hs1) (by decide) (by decide) hs1 hpl) fun σ H Q q => ?_
  obtain ⟨ρ, h, sw, w, h', rh, rs, e, k⟩ := q
  obtain ⟨y, h1, e1, e2⟩ := bnd_ok e
  refine ⟨ρ, h, sw, y, h1, rh, rs, e1, fun ρ1 H1 v l1 rh1 rx => ?_⟩
  split at e2
  · rename_i n hn'
    split at e2
    · rename_i bb hb
      cases e2
      exact ⟨v, .ty T, .type n, .type T, bb, rfl, .ty T, tyX_of rh1 rx hn', kit_ty hb, k ρ1 H1 _ l1 rh1 (.bl bb)⟩
    · cases e2
  · cases e2
theorem re_join {mb : ME} {apos : Pos} (ha : RE X cm a ma) (hb : RE X cm b mb) (hs : starEach [b] X.env = [(false, eval b X.env)] := by rfl) (hbase : attributeBase a "join" X.env (eval a X.env) = eval a X.env := by rfl) (hline : (apos.endLine == pos.line) = true := by rfl) :
    RE X cm (.Call (.Attribute a "join" apos) [b] [] pos) (mBin fJoin ma mb) := by
  refine peM (pe_join ha hb hs hbase hline) fun σ H Q q => ?_
  obtain ⟨ρ, h, sw, w, h', rh, rs, e, k⟩ := q
  obtain ⟨x, h1, e1, e2⟩ := bnd_ok e
  obtain ⟨y, h2, e3, e4⟩ := bnd_ok e2
  refine ⟨ρ, h, sw, x, h1, rh, rs, e1, fun ρ1 H1 x' l1 rh1 rx => ?_⟩
  cases x with
  | str s =>
    cases rx
    refine ⟨⟨s, rfl⟩, ρ1, h1, sw, y, h2, rh1, rs.mono l1, e3, fun ρ2 H2 y' l2 rh2 ry => ?_⟩
    have e4' : (match items h2 y with
      | some xs => (match wStrs xs with
        | some ys => if (ys.map Str.length).sum + ys.length * s.length ≤ lim then EL.R.ok (W.str (Txt.join s ys)) h2 else EL.R.no
        | none => EL.R.no)
      | none => EL.R.no) = .ok w h' := e4
    split at e4'
    · rename_i xs hi
      split at e4'
      · rename_i ys hy
        split at e4'
        · rename_i hl
          cases e4'
          obtain ⟨a', us, rfl, hq, rl⟩ := items_of rh2 ry hi
          have q := wStrs_of hy
          subst q
          rw [Rels.of_strs rl] at hq
          exact ⟨s, a', ys, rfl, rfl, .inl hq, hl, k ρ2 H2 _ (l1.trans l2) rh2 (.str _)⟩
        · cases e4'
      · cases e4'
    · cases e4'
  | _ => cases e4
/-- a < b < c -/
def mCh (f g : W → W → M W) (a b c : ME) : ME := fun sw => bnd (a sw) fun x => bnd (b sw) fun y => bnd (f x y) fun z => match z with
  | .bl true => bnd (c sw) fun u => g y u
  | .bl false => rtn (.bl false)
  | _ => bad
theorem ch_tE {c : Expr} {mb mc : ME} {r r' : R2} {f g : W → W → M W} (ow : OpW X.K cm r f) (ow' : OpW X.K cm r' g) {σ : St} {H : Hp} {Q : VK} (q : tE X.K cm (mCh f g ma mb mc) σ H Q) : tChain r r' (tE X.K cm ma) (tE X.K cm mb) (tE X.K cm mc) σ H Q := by
  obtain ⟨ρ, h, sw, w, h', rh, rs, e, k⟩ := q
  obtain ⟨x, h1, e1, e2⟩ := bnd_ok e
  obtain ⟨y, h2, e3, e4⟩ := bnd_ok e2
  obtain ⟨z, h3, e5, e6⟩ := bnd_ok e4
  refine ⟨ρ, h, sw, x, h1, rh, rs, e1, fun ρ1 H1 x' l1 rh1 rx => ?_⟩
  refine ⟨ρ1, h1, sw, y, h2, rh1, rs.mono l1, e3, fun ρ2 H2 y' l2 rh2 ry => ?_⟩
  refine ow ρ2 h2 H2 x y x' y' z h3 _ rh2 (rx.mono l2) ry e5 fun ρ3 H3 z' l3 rh3 rz => ?_
  have l13 := l1.trans (l2.trans l3)
  cases z with
  | bl b =>
    cases rz
    cases b with
    | false =>
      cases e6
      exact ⟨false, rfl, iteF (k ρ3 H3 _ l13 rh3 (.bl false))⟩
    | true =>
      obtain ⟨u, h4, e7, e8⟩ := bnd_ok e6
      refine ⟨true, rfl, iteT ⟨ρ3, h3, sw, u, h4, rh3, rs.mono l13, e7, fun ρ4 H4 u' l4 rh4 ru => ?_⟩⟩
      exact ow' ρ4 h4 H4 y u y' u' w h' Q rh4 (ry.mono (l3.trans l4)) ru e8 fun ρ5 H5 v l5 => k ρ5 H5 v (l13.trans (l4.trans l5))
  | _ => cases e6
theorem re_ch {c : Expr} {mb mc : ME} {op op' : CmpOp} {r r' : R2} {f g : W → W → M W} (ho : OpR X (compareOp op) r) (ow : OpW X.K cm r f) (ho' : OpR X (compareOp op') r') (ow' : OpW X.K cm r' g) (ha : RE X cm a ma) (hb : RE X cm b mb) (hc : RE X cm c mc)
    (hm : lastMarks [op, op'] [b, c] = false := by with_unfolding_all rfl) : RE X cm (.Compare a [op, op'] [b, c] pos) (mCh f g ma mb mc) :=
  peM (pe_chain ho ho' ha hb hc hm) fun _ _ _ => ch_tE (c := c) ow ow'
theorem rt_ch {c : Expr} {mb mc : ME} {op op' : CmpOp} {r r' : R2} {f g : W → W → M W} (ho : OpR X (compareOp op) r) (ow : OpW X.K cm r f) (ho' : OpR X (compareOp op') r') (ow' : OpW X.K cm r' g) (ha : RE X cm a ma) (hb : RE X cm b mb) (hc : RE X cm c mc)
    (hm : lastMarks [op, op'] [b, c] = false := by with_unfolding_all rfl) : RT X cm (.Compare a [op, op'] [b, c] pos) (tVal (mCh f g ma mb mc)) :=
  ptM (pt_chain ho ho' ha hb hc hm) fun σ H Q q => test_of (fun Q' => ch_tE (c := c) ow ow') q
end
end EL
namespace EL
open PySem PySem.Spec L2
open PyProof.Rows hiding St
section
variable {X : Cx} {cm : Cm} {e a b c o : Expr} {es : List Expr} {ma mb mo : ME} {mr : MA} {pos apos : Pos}
def mDnew : ME := fun _ => alloc (.dK [])
theorem re_dnew : RE X cm (.Dict [] [] pos) mDnew := by
  refine peM pe_dnewK fun σ H Q q => ?_
  obtain ⟨ρ, h, sw, w, h', rh, rs, e, k⟩ := q
  cases e
  intro p hp
  have l : Le X.K ρ H (ρ ++ [p]) (upd H p (.dK [])) := (le_new hp).trans (le_app p)
  exact k (ρ ++ [p]) _ _ l (rh.push hp ⟨[], upd_same, rfl, .nil⟩) (.ref (push_at rh))
/-- xs.append(y) -/
def fApp (x y : W) : M W := fun h => match x with
  | .ref p => match h[p]? with
    | some (.lst acc) => if acc.length < lim then .ok .non (h.set p (.lst (acc ++ [y]))) else .no
    | _ => .no
  | _ => .no
def chkL (x : W) : M Unit := fun h => match x with
  | .ref p => match h[p]? with
    | some (.lst _) => .ok () h
    | _ => .no
  | _ => .no
def mApp (a b : ME) : ME := fun sw => bnd (a sw) fun x => bnd (chkL x) fun _ => bnd (b sw) fun y => fApp x y
theorem chkL_of {p : Nat} {h h' : Hw} {u : Unit} (e : chkL (.ref p) h = .ok u h') : h' = h ∧ ∃ xs, h[p]? = some (.lst xs) := by
  have e' : (match h[p]? with
    | some (.lst _) => EL.R.ok () h
    | _ => EL.R.no) = .ok u h' := e
  split at e'
  · rename_i xs hx
    cases e'
    exact ⟨rfl, xs, hx⟩
  · cases e'
theorem re_append (ha : RE X cm a ma) (hb : RE X cm b mb) (hbase : attributeBase a "append" X.env (eval a X.env) = eval a X.env := by rfl)
    (hfew : ((backTo pos (starEach [b] X.env)).all (fun x => !x.1) && (backToKw pos (keywordEach [] X.env)).all (fun x => x.1.isSome) && decide ([b].length + ([] : List Keyword).length + (if ([] : List Keyword).isEmpty then 0 else 1) < 30)) = true := by rfl)
    (hline : (apos.endLine == pos.line) = true := by rfl) (hs : starEach (b :: []) X.env = (false, eval b X.env) :: starEach [] X.env := by rfl) (hpl : (backTo pos (starEach [] X.env)).any (·.1) = false := by rfl) :
    RE X cm (.Call (.Attribute a "append" apos) [b] [] pos) (mApp ma mb) := by
  refine peM (pe_bm PySem.F.plainAttrs_list PySem.F.slot_list_append PySem.F.type_list_append mt_append ha (pa_cons hb pa_nil hs) hbase hfew hline hs hpl) fun σ H Q q => ?_
  obtain ⟨ρ, h, sw, w, h', rh, rs, e, k⟩ := q
  obtain ⟨x, h1, e1, e2⟩ := bnd_ok e
  obtain ⟨u0, h0, e0, e2⟩ := bnd_ok e2
  obtain ⟨y, h2, e3, e4⟩ := bnd_ok e2
  have key : ∀ {p : Nat}, x = .ref p → ∃ acc, h2[p]? = some (.lst acc) ∧ acc.length < lim ∧ w = .non ∧ h' = h2.set p (.lst (acc ++ [y])) := fun {p} ex => by
    subst ex
    have e4' : (match h2[p]? with
      | some (.lst acc) => if acc.length < lim then EL.R.ok W.non (h2.set p (.lst (acc ++ [y]))) else EL.R.no
      | _ => .no) = .ok w h' := e4
    split at e4'
    · rename_i acc ha
      split at e4'
      · cases e4'
        exact ⟨acc, ha, by assumption, rfl, rfl⟩
      · cases e4'
    · cases e4'
  refine ⟨ρ, h, sw, x, h1, rh, rs, e1, fun ρ1 H1 x' l1 rh1 rx => ?_⟩
  cases rx with
  | @ref p A hp =>
    obtain ⟨eh, xs, hx⟩ := chkL_of e0
    subst eh
    obtain ⟨vs0, ea0, _⟩ := rh1.lst hp hx
    refine ⟨.inl ⟨rfl, vs0, .of ea0⟩, ρ1, _, sw, y, h2, rh1, rs.mono l1, e3, fun ρ2 H2 y' l2 rh2 ry => ?_⟩
    obtain ⟨acc, ha, hl, rfl, rfl⟩ := key rfl
    obtain ⟨vs, ea, rv⟩ := rh2.lst (pre_get l2.pre hp) ha
    have lu : Le X.K ρ2 H2 ρ2 (upd H2 A (.lst (vs ++ [y']))) := le_mut ea trivial
    refine ⟨A, vs, y', rfl, rfl, ea, by rw [← rv.length, ← lim_eq]; exact hl, k ρ2 _ .non (l1.trans (l2.trans lu)) (rh2.set (pre_get l2.pre hp) ea trivial ⟨_, upd_same, ?_⟩) .non⟩
    exact (rv.append (.cons ry .nil)).mono lu
  | _ => cases e4
/-- a, b = x, y -/
def sPar2 (i j : Nat) (a : MA) : MS := fun sw => bnd (a sw) fun ws => match ws with
  | [x, y] => rtn (.nx ((sw.set i (some x)).set j (some y)))
  | _ => bad
theorem rs_par2 (i j : Nat) {x y : Str} {px py pt : Pos} {kt k2 pt2} (hN : X.N.Nodup) (ha : RA X cm [a, b] mr) (hc : X.calm = true := by rfl) (hi : X.N[i]? = some x := by rfl) (hj : X.N[j]? = some y := by rfl) (hij : i ≠ j := by decide) (hx : X.env.scope.names.lookup x = some .local := by rfl) (hy : X.env.scope.names.lookup y = some .local := by rfl)
    (hw : swappedStores [.Tuple [.Name x px, .Name y py] kt pt] (.Tuple [a, b] k2 pt2) X.env = pure (some [x, y]) := by rfl) (hs : swapsWithSole [.Tuple [.Name x px, .Name y py] kt pt] (.Tuple [a, b] k2 pt2) pos.line X.env = pure false := by rfl) :
    RS X cm (.Assign [.Tuple [.Name x px, .Name y py] kt pt] (.Tuple [a, b] k2 pt2) pos) (sPar2 i j mr) := by
  refine psM (ps_par hc hN hi hj hij hx hy ha hw hs) fun D σ H q => ?_
  obtain ⟨ρ, h, sw, f, h', rh, rs, e, k⟩ := q
  obtain ⟨ws, h1, e1, e2⟩ := bnd_ok e
  refine ⟨ρ, h, sw, ws, h1, rh, rs, e1, fun ρ1 H1 vs l1 rh1 rx => ?_⟩
  split at e2
  · cases e2
    obtain ⟨v, u, rfl, r1, r2⟩ := two_of rx
    exact ⟨v, u, rfl, k ρ1 H1 _ l1 rh1 (((rs.mono l1).set r1 i).set r2 j)⟩
  · cases e2
/-- a, b, c = x, y, z -/
def sPar3 (i j l : Nat) (a : MA) : MS := fun sw => bnd (a sw) fun ws => match ws with
  | [x, y, z] => rtn (.nx (((sw.set i (some x)).set j (some y)).set l (some z)))
  | _ => bad
theorem rs_par3 (i j l : Nat) {x y z : Str} {px py pz pt : Pos} {kt k2 pt2} (hN : X.N.Nodup) (ha : RA X cm [a, b, c] mr) (hc : X.calm = true := by rfl) (hi : X.N[i]? = some x := by rfl) (hj : X.N[j]? = some y := by rfl) (hl : X.N[l]? = some z := by rfl) (hij : i ≠ j := by decide) (hil : i ≠ l := by decide) (hjl : j ≠ l := by decide)
    (hx : X.env.scope.names.lookup x = some .local := by rfl) (hy : X.env.scope.names.lookup y = some .local := by rfl) (hz : X.env.scope.names.lookup z = some .local := by rfl)
    (hw : swappedStores [.Tuple [.Name x px, .Name y py, .Name z pz] kt pt] (.Tuple [a, b, c] k2 pt2) X.env = pure (some [x, y, z]) := by rfl) (hs : swapsWithSole [.Tuple [.Name x px, .Name y py, .Name z pz] kt pt] (.Tuple [a, b, c] k2 pt2) pos.line X.env = pure false := by rfl) :
    RS X cm (.Assign [.Tuple [.Name x px, .Name y py, .Name z pz] kt pt] (.Tuple [a, b, c] k2 pt2) pos) (sPar3 i j l mr) := by
  refine psM (ps_par3 hc hN hi hj hl hij hil hjl hx hy hz ha hw hs) fun D σ H q => ?_
  obtain ⟨ρ, h, sw, f, h', rh, rs, e, k⟩ := q
  obtain ⟨ws, h1, e1, e2⟩ := bnd_ok e
  refine ⟨ρ, h, sw, ws, h1, rh, rs, e1, fun ρ1 H1 vs l1 rh1 rx => ?_⟩
  split at e2
  · cases e2
    cases rx with
    | cons r1 t =>
      obtain ⟨v, u, rfl, r2, r3⟩ := two_of t
      exact ⟨_, v, u, rfl, k ρ1 H1 _ l1 rh1 ((((rs.mono l1).set r1 i).set r2 j).set r3 l)⟩
  · cases e2
def fAddI : W → W → M W
  | .int i, .int j => rtn (.int (i + j))
  | _, _ => bad
theorem wIpAdd : IpW X.K cm (ipI fun i j => i + j) fAddI := by
  intro ρ h H x y x' y' z h' Q rh rx ry e k
  cases rx with
  | int i =>
    cases ry with
    | int j =>
      cases e
      exact ⟨i, j, rfl, rfl, k.at rh (.int _)⟩
    | _ => cases e
  | _ => cases ry <;> cases e
theorem wIpSub : IpW X.K cm (ipI fun i j => i - j) fSub := by
  intro ρ h H x y x' y' z h' Q rh rx ry e k
  cases rx with
  | int i =>
    cases ry with
    | int j =>
      cases e
      exact ⟨i, j, rfl, rfl, k.at rh (.int _)⟩
    | _ => cases e
  | _ => cases ry <;> cases e
end
/-! ### the law's promise -/
def spLaw (K : PySem.W.Frag) : Sp := fun vs H Q _ => ∃ (a : Addr) (ns : List Int), vs = [.ref a] ∧ Only H ∧ SqL K H a (ns.map V.int) ∧ ns.length ≤ 63 ∧ ∀ H', Q (.bl true) H'
theorem law_imp {P : Program} {w : World} {K : PySem.W.Frag} {mg : Str → Option Value} {base : Heap} {cm : Cm} {k : Nat} {f : Addr} {fd : FuncData} {ps : List Str} {m : List W → M W} (F : FnOk P w K mg base CX0 k f fd ps (spM K cm m))
    (T : ∀ ns : List Int, ns.length ≤ 63 → ∃ h', m [.rol (ns.map W.int)] [] = .ok (.bl true) h') : FnOk P w K mg base CX0 k f fd ps (spLaw K) := F.imp fun vs H Q E h => by
  obtain ⟨a, ns, rfl, hO, hS, hl, q⟩ := h
  obtain ⟨h', e⟩ := T ns hl
  have hp : SqP K H a (ns.map V.int) := by
    rcases hS with (hS | hS) | hS
    · rcases hO a with z | ⟨o, xs, z⟩
      · rw [z] at hS; cases hS
      · rw [z] at hS; cases hS
    · exact .inl hS
    · exact .inr hS
  refine ⟨[], [], [.rol (ns.map W.int)], .bl true, h', ⟨rfl, .nil, fun i o a e => by simp at e⟩, .cons (.rol hp (.ints ns)) .nil, e, fun ρ' H' v l rh r => ?_⟩
  cases r
  exact q H'
end EL
/-! EL7: reading the plain functions, from the left: what must hold behind each. -/
namespace EL
open PySem PySem.Spec L2
open PyProof.Rows hiding St
theorem okT {A B : Prop} (p : A) : (true = true → A) ∧ (true = false → B) := ⟨fun _ => p, fun z => nomatch z⟩
theorem okF {A B : Prop} (p : B) : (false = true → A) ∧ (false = false → B) := ⟨fun z => (nomatch z), fun _ => p⟩
theorem okNT {A B : Prop} (p : B) : ((!true) = true → A) ∧ ((!true) = false → B) := ⟨fun z => (nomatch z), fun _ => p⟩
theorem okNF {A B : Prop} (p : A) : ((!false) = true → A) ∧ ((!false) = false → B) := ⟨fun _ => p, fun z => nomatch z⟩
theorem okLim {xs : List W} {A : Prop} (e : Nat.ble xs.length lim = true) (p : A) : xs.length ≤ lim ∧ A := ⟨Nat.le_of_ble_eq_true e, p⟩
theorem okE {b : Bool} {A : Bool → Prop} (p : A b) : ∃ k, W.bl b = W.bl k ∧ A k := ⟨b, rfl, p⟩
theorem okEI {b : Int} {A : Int → Prop} (p : A b) : ∃ k, W.int b = W.int k ∧ A k := ⟨b, rfl, p⟩
theorem okB {b : Bool} {A B : Prop} (k : b = true) (p : A) : (b = true → A) ∧ (b = false → B) := ⟨fun _ => p, fun z => by rw [k] at z; cases z⟩
theorem okBF {b : Bool} {A B : Prop} (k : b = false) (p : B) : (b = true → A) ∧ (b = false → B) := ⟨fun z => (by rw [k] at z; cases z), fun _ => p⟩
def Ok {α : Type} (m : M α) (h : Hw) (P : α → Hw → Prop) : Prop := ∃ a h', m h = .ok a h' ∧ P a h'
theorem Ok.imp {α : Type} {m : M α} {h : Hw} {P P' : α → Hw → Prop} (o : Ok m h P) (f : ∀ a h', P a h' → P' a h') : Ok m h P' :=
  let ⟨a, h', e, p⟩ := o
  ⟨a, h', e, f a h' p⟩
theorem ok_rtn {α : Type} {a : α} {h : Hw} {P : α → Hw → Prop} (p : P a h) : Ok (rtn a) h P := ⟨a, h, rfl, p⟩
theorem ok_bnd {α β : Type} {m : M α} {f : α → M β} {h : Hw} {P : β → Hw → Prop} (o : Ok m h fun a h1 => Ok (f a) h1 P) : Ok (bnd m f) h P := by
  obtain ⟨a, h1, e, b, h2, e2, p⟩ := o
  exact ⟨b, h2, by unfold bnd; rw [e]; exact e2, p⟩
theorem bnd_of {α β : Type} {m : M α} {f : α → M β} {h h' : Hw} {a : α} (e : m h = .ok a h') : bnd m f h = f a h' := by
  unfold bnd
  rw [e]
section
variable {sw : SW} {h : Hw} {P : W → Hw → Prop} {PB : Bool → Hw → Prop} {PF : Fl → Hw → Prop} {PL : List W → Hw → Prop} {a b c : ME} {t u : MT} {ma mr : MA} {f g : W → W → M W} {s s' : MS}
theorem ok_var {i : Nat} {w : W} (e : sw[i]? = some (some w)) (p : P w h) : Ok (mVar i sw) h P := ⟨w, h, by unfold mVar; rw [e], p⟩
theorem ok_c {w : W} (p : P w h) : Ok (mC w sw) h P := ⟨w, h, rfl, p⟩
theorem ok_bin (o : Ok (a sw) h fun x h1 => Ok (b sw) h1 fun y h2 => Ok (f x y) h2 P) : Ok (mBin f a b sw) h P :=
  ok_bnd (o.imp fun _ _ o => ok_bnd o)
theorem ok_un {f : W → M W} (o : Ok (a sw) h fun x h1 => Ok (f x) h1 P) : Ok (mUn f a sw) h P := ok_bnd o
theorem ok_ch (o : Ok (a sw) h fun x h1 => Ok (b sw) h1 fun y h2 => Ok (f x y) h2 fun z h3 => ∃ k, z = .bl k ∧ (k = true → Ok (c sw) h3 fun v h4 => Ok (g y v) h4 P) ∧ (k = false → P (.bl false) h3)) : Ok (mCh f g a b c sw) h P :=
  ok_bnd (o.imp fun _ _ o => ok_bnd (o.imp fun _ _ o => ok_bnd (o.imp fun z h3 o => by
    obtain ⟨k, rfl, o1, o2⟩ := o
    cases k with
    | true => exact ok_bnd (o1 rfl)
    | false => exact ok_rtn (o2 rfl))))
theorem ok_aNil (p : PL [] h) : Ok (aNil sw) h PL := ok_rtn p
theorem ok_aCons (o : Ok (a sw) h fun x h1 => Ok (mr sw) h1 fun xs h2 => PL (x :: xs) h2) : Ok (aCons a mr sw) h PL := ok_bnd (o.imp fun _ _ o => ok_bnd (o.imp fun _ _ p => ok_rtn p))
theorem ok_call {f : List W → M W} (o : Ok (mr sw) h fun ws h1 => Ok (f ws) h1 P) : Ok (mCall f mr sw) h P := ok_bnd o
theorem ok_tup (o : Ok (mr sw) h fun ws h1 => ws.length ≤ lim ∧ P (.tup ws) h1) : Ok (mTup mr sw) h P := ok_bnd (o.imp fun _ _ o => by
  rw [if_pos o.1]
  exact ok_rtn o.2)
theorem ok_lst (o : Ok (mr sw) h fun ws h1 => ws.length ≤ lim ∧ P (.ref h1.length) (h1 ++ [.lst ws])) : Ok (mLst mr sw) h P := ok_bnd (o.imp fun _ _ o => by
  rw [if_pos o.1]
  exact ⟨_, _, rfl, o.2⟩)
theorem ok_dnew (p : P (.ref h.length) (h ++ [.dK []])) : Ok (mDnew sw) h P := ⟨_, _, rfl, p⟩
theorem ok_tVal (o : Ok (a sw) h fun x h1 => ∃ k, x = .bl k ∧ PB k h1) : Ok (tVal a sw) h PB := ok_bnd (o.imp fun x _ o => by
  obtain ⟨k, rfl, p⟩ := o
  exact ok_rtn p)
theorem ok_tTru (o : Ok (a sw) h fun x h1 => Ok (tru x) h1 PB) : Ok (tTru a sw) h PB := ok_bnd o
theorem ok_tru_bl {k : Bool} (p : PB k h) : Ok (tru (.bl k)) h PB := ⟨k, h, rfl, p⟩
theorem ok_tNot (o : Ok (t sw) h fun x h1 => PB (!x) h1) : Ok (tNot t sw) h PB := ok_bnd (o.imp fun _ _ p => ok_rtn p)
theorem ok_tAnd (o : Ok (t sw) h fun x h1 => (x = true → Ok (u sw) h1 PB) ∧ (x = false → PB false h1)) : Ok (tAnd t u sw) h PB := ok_bnd (o.imp fun x _ o => by
  cases x with
  | true => rw [if_pos rfl]; exact o.1 rfl
  | false => rw [if_neg Bool.false_ne_true]; exact ok_rtn (o.2 rfl))
theorem ok_tOr (o : Ok (t sw) h fun x h1 => (x = true → PB true h1) ∧ (x = false → Ok (u sw) h1 PB)) : Ok (tOr t u sw) h PB := ok_bnd (o.imp fun x _ o => by
  cases x with
  | true => rw [if_pos rfl]; exact ok_rtn (o.1 rfl)
  | false => rw [if_neg Bool.false_ne_true]; exact o.2 rfl)
theorem ok_mAnd (o : Ok (a sw) h fun x h1 => ∃ k, x = .bl k ∧ (k = true → Ok (b sw) h1 P) ∧ (k = false → P (.bl false) h1)) : Ok (mAnd a b sw) h P := ok_bnd (o.imp fun x _ o => by
  obtain ⟨k, rfl, o⟩ := o
  cases k with
  | true => exact o.1 rfl
  | false => exact ok_rtn (o.2 rfl))
theorem ok_mOr (o : Ok (a sw) h fun x h1 => ∃ k, x = .bl k ∧ (k = true → P (.bl true) h1) ∧ (k = false → Ok (b sw) h1 P)) : Ok (mOr a b sw) h P := ok_bnd (o.imp fun x _ o => by
  obtain ⟨k, rfl, o⟩ := o
  cases k with
  | true => exact ok_rtn (o.1 rfl)
  | false => exact o.2 rfl)
theorem ok_mNot (o : Ok (a sw) h fun x h1 => ∃ k, x = .bl k ∧ P (.bl (!k)) h1) : Ok (mNot a sw) h P := ok_bnd (o.imp fun x _ o => by
  obtain ⟨k, rfl, p⟩ := o
  exact ok_rtn p)
theorem ok_mIf (o : Ok (t sw) h fun x h1 => (x = true → Ok (a sw) h1 P) ∧ (x = false → Ok (b sw) h1 P)) : Ok (mIf t a b sw) h P := ok_bnd (o.imp fun x _ o => by
  cases x with
  | true => rw [if_pos rfl]; exact o.1 rfl
  | false => rw [if_neg Bool.false_ne_true]; exact o.2 rfl)
theorem ok_sSeq (o : Ok (s sw) h fun f h1 => match f with
    | .nx s1 => Ok (s' s1) h1 PF
    | f => PF f h1) : Ok (sSeq s s' sw) h PF := ok_bnd (o.imp fun f _ o => by
  cases f with
  | nx s1 => exact o
  | rt w => exact ok_rtn o
  | bk s1 => exact ok_rtn o
  | ct s1 => exact ok_rtn o)
theorem ok_sNil (p : PF (.nx sw) h) : Ok (sNil sw) h PF := ok_rtn p
theorem ok_sIf (o : Ok (t sw) h fun x h1 => (x = true → Ok (s sw) h1 PF) ∧ (x = false → Ok (s' sw) h1 PF)) : Ok (sIf t s s' sw) h PF := ok_bnd (o.imp fun x _ o => by
  cases x with
  | true => rw [if_pos rfl]; exact o.1 rfl
  | false => rw [if_neg Bool.false_ne_true]; exact o.2 rfl)
theorem ok_sRet (o : Ok (a sw) h fun x h1 => PF (.rt x) h1) : Ok (sRet a sw) h PF := ok_bnd (o.imp fun _ _ p => ok_rtn p)
theorem ok_sExp (o : Ok (a sw) h fun x h1 => PF (.nx sw) h1) : Ok (sExp a sw) h PF := ok_bnd (o.imp fun _ _ p => ok_rtn p)
theorem ok_sAsg {g : MG} (o : Ok (a sw) h fun x h1 => Ok (g x sw) h1 fun s h2 => PF (.nx s) h2) : Ok (sAsg g a sw) h PF := ok_bnd (o.imp fun _ _ o => ok_bnd (o.imp fun _ _ p => ok_rtn p))
theorem ok_gNm {i : Nat} {w : W} {PS : SW → Hw → Prop} (p : PS (sw.set i (some w)) h) : Ok (gNm i w sw) h PS := ok_rtn p
theorem ok_gNm' {i : Nat} {w : W} {s0 : SW} {PS : SW → Hw → Prop} (e : sw.set i (some w) = s0) (p : PS s0 h) : Ok (gNm i w sw) h PS := by
  subst e
  exact ok_rtn p
theorem ok_gTu {n : Nat} {r : List W → SW → M SW} {ws : List W} {PS : SW → Hw → Prop} (e : ws.length = n) (o : Ok (r ws sw) h PS) : Ok (gTu n r (.tup ws) sw) h PS := by
  show Ok (if ws.length = n then r ws sw else bad) h PS
  rw [if_pos e]
  exact o
theorem ok_gsCons {g : MG} {r : List W → SW → M SW} {w : W} {ws : List W} {PS : SW → Hw → Prop} (o : Ok (g w sw) h fun s h1 => Ok (r ws s) h1 PS) : Ok (gsCons g r (w :: ws) sw) h PS := ok_bnd o
theorem ok_gsNil {PS : SW → Hw → Prop} (p : PS sw h) : Ok (gsNil [] sw) h PS := ok_rtn p
theorem ok_gSubL {w : W} {PS : SW → Hw → Prop} (o : Ok (a sw) h fun x h1 => Ok (b sw) h1 fun y h2 => Ok (wSet x y w) h2 fun _ h3 => PS sw h3) : Ok (gSubL a b w sw) h PS :=
  ok_bnd (o.imp fun _ _ o => ok_bnd (o.imp fun _ _ o => ok_bnd (o.imp fun _ _ p => ok_rtn p)))
theorem ok_mFn {n N : Nat} {m : MS} {ws : List W} (e : ws.length = n) (o : Ok (m (ws.map some ++ List.replicate (N - n) none)) h fun f h1 => match f with
    | .rt w => P w h1
    | .nx _ => P .non h1
    | _ => False) : Ok (mFn n N m ws) h P := by
  unfold mFn
  rw [if_pos e]
  exact ok_bnd (o.imp fun f h1 o => by
    cases f with
    | rt w => exact ok_rtn o
    | nx s => exact ok_rtn o
    | bk s => exact o.elim
    | ct s => exact o.elim)
theorem ok_mFn' {n N : Nat} {m : MS} {ws : List W} {s0 : SW} (e : ws.length = n) (e2 : ws.map some ++ List.replicate (N - n) none = s0) (o : Ok (m s0) h fun f h1 => match f with
    | .rt w => P w h1
    | .nx _ => P .non h1
    | _ => False) : Ok (mFn n N m ws) h P := by
  subst e2
  exact ok_mFn e o
theorem ok_addI {i j : Int} (p : P (.int (i + j)) h) : Ok (fAdd (.int i) (.int j)) h P := ok_rtn p
theorem ok_addS {x y : Str} (e : x.length + y.length ≤ lim) (p : P (.str (x ++ y)) h) : Ok (fAdd (.str x) (.str y)) h P := by
  show Ok (if x.length + y.length ≤ lim then rtn (W.str (x ++ y)) else bad) h P
  rw [if_pos e]
  exact ok_rtn p
theorem ok_addL {p q : Nat} {xs ys : List W} (e1 : h[p]? = some (.lst xs)) (e2 : h[q]? = some (.lst ys)) (e : xs.length + ys.length ≤ lim) (o : P (.ref h.length) (h ++ [.lst (xs ++ ys)])) : Ok (fAdd (.ref p) (.ref q)) h P := by
  refine ⟨_, _, ?_, o⟩
  show (match h[p]?, h[q]? with
    | some (.lst xs), some (.lst ys) => if xs.length + ys.length ≤ lim then alloc (.lst (xs ++ ys)) h else EL.R.no
    | _, _ => EL.R.no) = _
  rw [e1, e2]
  simp only [if_pos e]
  rfl
theorem ok_addT {xs ys : List W} (e : xs.isEmpty = false ∧ xs.length + ys.length ≤ lim) (p : P (.tup (xs ++ ys)) h) : Ok (fAdd (.tup xs) (.tup ys)) h P := by
  show Ok (if xs.isEmpty = false ∧ xs.length + ys.length ≤ lim then rtn (W.tup (xs ++ ys)) else bad) h P
  rw [if_pos e]
  exact ok_rtn p
theorem ok_subI {i j : Int} (p : P (.int (i - j)) h) : Ok (fSub (.int i) (.int j)) h P := ok_rtn p
theorem ok_negI {i : Int} (p : P (.int (-i)) h) : Ok (fNeg (.int i)) h P := ok_rtn p
theorem ok_mulI {i j : Int} (e : mulOk i j = true) (p : P (.int (i * j)) h) : Ok (fMul (.int i) (.int j)) h P := by
  show Ok (if mulOk i j = true then rtn (W.int (i * j)) else bad) h P
  rw [if_pos e]
  exact ok_rtn p
theorem mulOk_l {i j : Int} (h1 : -18446744073709551616 < i) (h2 : i < 18446744073709551616) : mulOk i j = true := by
  unfold mulOk
  simp [h1, h2]
theorem mulOk_r {i j : Int} (h1 : -18446744073709551616 < j) (h2 : j < 18446744073709551616) : mulOk i j = true := by
  unfold mulOk
  simp [h1, h2]
theorem ok_divI {i j : Int} (e : 0 < j ∧ j.natAbs.log2 < 9000) (p : P (.int (i / j)) h) : Ok (fDiv (.int i) (.int j)) h P := by
  show Ok (if 0 < j ∧ j.natAbs.log2 < 9000 then rtn (W.int (i / j)) else bad) h P
  rw [if_pos e]
  exact ok_rtn p
theorem ok_modI {i j : Int} (e : 0 < j) (p : P (.int (i % j)) h) : Ok (fMod (.int i) (.int j)) h P := by
  show Ok (if 0 < j then rtn (W.int (i % j)) else bad) h P
  rw [if_pos e]
  exact ok_rtn p
theorem ok_powI {i j : Int} (e : (0 ≤ j ∧ j ≤ 1000000) ∧ i.natAbs < 18446744073709551616) (p : P (.int (i ^ j.toNat)) h) : Ok (fPow (.int i) (.int j)) h P := by
  show Ok (if (0 ≤ j ∧ j ≤ 1000000) ∧ i.natAbs < 18446744073709551616 then rtn (W.int (i ^ j.toNat)) else bad) h P
  rw [if_pos e]
  exact ok_rtn p
theorem ok_cmpI {pi : Int → Int → Bool} {ps : List Nat → List Nat → Bool} {i j : Int} (p : P (.bl (pi i j)) h) : Ok (fCmp pi ps (.int i) (.int j)) h P := ok_rtn p
theorem ok_cmpS {pi : Int → Int → Bool} {ps : List Nat → List Nat → Bool} {i j : Str} (p : P (.bl (ps i.cps.toList j.cps.toList)) h) : Ok (fCmp pi ps (.str i) (.str j)) h P := ok_rtn p
theorem ok_isB {neg : Bool} {i j : Bool} (p : P (.bl (neg != decide (i = j))) h) : Ok (fIs neg (.bl i) (.bl j)) h P := ok_rtn p
theorem ok_isN {neg : Bool} {x : W} (hx : x ≠ .non) (p : P (.bl neg) h) : Ok (fIs neg x .non) h P := by
  cases x with
  | non => exact absurd rfl hx
  | _ => exact ok_rtn p
theorem ok_isNN {neg : Bool} (p : P (.bl (!neg)) h) : Ok (fIs neg .non .non) h P := ok_rtn p
theorem ok_ixT {xs : List W} {i : Int} {w : W} (e : atI xs i = some w) (p : P w h) : Ok (fIx (.tup xs) (.int i)) h P := by
  refine ⟨w, h, ?_, p⟩
  show (match atI xs i with
    | some w => EL.R.ok w h
    | none => EL.R.no) = _
  rw [e]
theorem ok_ixS {x : Str} {i : Int} {c : Nat} (hl : x.length ≤ lim) (e : atI x.cps.toList i = some c) (p : P (.str ⟨#[c]⟩) h) : Ok (fIx (.str x) (.int i)) h P := by
  refine ⟨_, h, ?_, p⟩
  show (if x.length ≤ lim then (match atI x.cps.toList i with
    | some c => EL.R.ok (W.str ⟨#[c]⟩) h
    | none => EL.R.no) else EL.R.no) = _
  rw [if_pos hl, e]
theorem ok_ixL {q : Nat} {xs : List W} {i : Int} {w : W} (el : h[q]? = some (.lst xs)) (e : atI xs i = some w) (p : P w h) : Ok (fIx (.ref q) (.int i)) h P := by
  refine ⟨w, h, ?_, p⟩
  show (match (match h[q]? with
    | some (.lst xs) => some xs
    | _ => none) with
    | some xs => (match atI xs i with
      | some w => EL.R.ok w h
      | none => EL.R.no)
    | none => EL.R.no) = _
  rw [el]
  simp only [e]
theorem ok_ixR {xs : List W} {i : Int} {w : W} (e : atI xs i = some w) (p : P w h) : Ok (fIx (.rol xs) (.int i)) h P := by
  refine ⟨w, h, ?_, p⟩
  show (match atI xs i with
    | some w => EL.R.ok w h
    | none => EL.R.no) = _
  rw [e]
theorem ok_set {q : Nat} {xs : List W} {i : Int} {j : Nat} {w : W} {PU : Unit → Hw → Prop} (el : h[q]? = some (.lst xs)) (e : ixN xs.length i = some j) (p : PU () (h.set q (.lst (xs.set j w)))) : Ok (wSet (.ref q) (.int i) w) h PU := by
  refine ⟨(), _, ?_, p⟩
  show (match h[q]? with
    | some (.lst xs) => (match ixN xs.length i with
      | some j => EL.R.ok () (h.set q (.lst (xs.set j w)))
      | none => EL.R.no)
    | _ => EL.R.no) = _
  rw [el]
  simp only [e]
theorem ok_int1 {i : Int} (p : P (.int i) h) : Ok (bInt [.int i]) h P := ok_rtn p
theorem ok_int2 {k : Bool} (p : P (.int (if k then 1 else 0)) h) : Ok (bInt [.bl k]) h P := ok_rtn p
theorem ok_abs {i : Int} (p : P (.int (if i < 0 then -i else i)) h) : Ok (bAbs [.int i]) h P := ok_rtn p
theorem ok_max {i j : Int} (p : P (.int (if j > i then j else i)) h) : Ok (bMax [.int i, .int j]) h P := ok_rtn p
theorem ok_min {i j : Int} (p : P (.int (if j < i then j else i)) h) : Ok (bMin [.int i, .int j]) h P := ok_rtn p
theorem ok_lenS {x : Str} (hl : x.length ≤ lim) (p : P (.int x.length) h) : Ok (bLen [.str x]) h P := by
  show Ok (fun h => if x.length ≤ lim then EL.R.ok (W.int x.length) h else EL.R.no) h P
  exact ⟨_, h, by simp only [if_pos hl], p⟩
theorem ok_lenT {xs : List W} (p : P (.int xs.length) h) : Ok (bLen [.tup xs]) h P := ⟨_, h, rfl, p⟩
theorem ok_lenR {xs : List W} (p : P (.int xs.length) h) : Ok (bLen [.rol xs]) h P := ⟨_, h, rfl, p⟩
theorem ok_lenL {q : Nat} {xs : List W} (el : h[q]? = some (.lst xs)) (p : P (.int xs.length) h) : Ok (bLen [.ref q]) h P := by
  refine ⟨_, h, ?_, p⟩
  show (match (match h[q]? with
    | some (.lst xs) => some xs
    | _ => none) with
    | some xs => EL.R.ok (W.int xs.length) h
    | none => EL.R.no) = _
  rw [el]
theorem wInts_map : ∀ ns : List Int, wInts (ns.map W.int) = some ns
  | [] => rfl
  | n :: r => by
    have q := wInts_map r
    unfold wInts at q ⊢
    rw [List.map_cons]
    unfold mapO
    rw [q]
theorem wStrs_map : ∀ ns : List Str, wStrs (ns.map W.str) = some ns
  | [] => rfl
  | n :: r => by
    have q := wStrs_map r
    unfold wStrs at q ⊢
    rw [List.map_cons]
    unfold mapO
    rw [q]
theorem wBls_map : ∀ ns : List Bool, wBls (ns.map W.bl) = some ns
  | [] => rfl
  | n :: r => by
    have q := wBls_map r
    unfold wBls at q ⊢
    rw [List.map_cons]
    unfold mapO
    rw [q]
theorem ok_sumL {q : Nat} {ns : List Int} (el : h[q]? = some (.lst (ns.map W.int))) (p : P (.int ns.sum) h) : Ok (bSum [.ref q]) h P := by
  refine ⟨_, h, ?_, p⟩
  show (match (match h[q]? with
    | some (.lst xs) => some xs
    | _ => none) with
    | some xs => (match wInts xs with
      | some ns => EL.R.ok (W.int ns.sum) h
      | none => EL.R.no)
    | none => EL.R.no) = _
  rw [el]
  simp only [wInts_map]
theorem ok_allL {q : Nat} {ns : List Bool} (el : h[q]? = some (.lst (ns.map W.bl))) (p : P (.bl (ns.all id)) h) : Ok (bAll [.ref q]) h P := by
  refine ⟨_, h, ?_, p⟩
  show (match (match h[q]? with
    | some (.lst xs) => some xs
    | _ => none) with
    | some xs => (match wBls xs with
      | some ns => EL.R.ok (W.bl (ns.all id)) h
      | none => EL.R.no)
    | none => EL.R.no) = _
  rw [el]
  simp only [wBls_map]
theorem ok_joinL {q : Nat} {x : Str} {ys : List Str} (el : h[q]? = some (.lst (ys.map W.str))) (hl : (ys.map Str.length).sum + ys.length * x.length ≤ lim) (p : P (.str (Txt.join x ys)) h) : Ok (fJoin (.str x) (.ref q)) h P := by
  refine ⟨_, h, ?_, p⟩
  show (match (match h[q]? with
    | some (.lst xs) => some xs
    | _ => none) with
    | some xs => (match wStrs xs with
      | some ys => if (ys.map Str.length).sum + ys.length * x.length ≤ lim then EL.R.ok (W.str (Txt.join x ys)) h else EL.R.no
      | none => EL.R.no)
    | none => EL.R.no) = _
  rw [el]
  simp only [wStrs_map, if_pos hl]
theorem ok_sl {l u : MO} (o : Ok (a sw) h fun x h1 => Ok (l sw) h1 fun lo h2 => Ok (u sw) h2 fun hi h3 => Ok (fSl x lo hi) h3 P) : Ok (mSl a l u sw) h P := ok_bnd (o.imp fun _ _ o => ok_bnd (o.imp fun _ _ o => ok_bnd o))
theorem ok_oNo {PO : Option Int → Hw → Prop} (p : PO none h) : Ok (oNo sw) h PO := ok_rtn p
theorem ok_oSo {PO : Option Int → Hw → Prop} (o : Ok (a sw) h fun x h1 => ∃ i, x = .int i ∧ PO (some i) h1) : Ok (oSo a sw) h PO := ok_bnd (o.imp fun x _ o => by
  obtain ⟨i, rfl, p⟩ := o
  exact ok_rtn p)
theorem ok_slS {x : Str} {lo hi : Option Int} (hl : x.length ≤ lim) (p : P (.str (cutS x lo hi)) h) : Ok (fSl (.str x) lo hi) h P := by
  refine ⟨_, h, ?_, p⟩
  show (if x.length ≤ lim then EL.R.ok (W.str (cutS x lo hi)) h else EL.R.no) = _
  rw [if_pos hl]
theorem ok_slL {q : Nat} {xs : List W} {lo hi : Option Int} (el : h[q]? = some (.lst xs)) (p : P (.ref h.length) (h ++ [.lst (cutW xs lo hi)])) : Ok (fSl (.ref q) lo hi) h P := by
  refine ⟨_, _, ?_, p⟩
  show (match (match h[q]? with
    | some (.lst xs) => some xs
    | _ => none) with
    | some xs => alloc (.lst (cutW xs lo hi)) h
    | none => EL.R.no) = _
  rw [el]
  rfl
theorem ok_slR {xs : List W} {lo hi : Option Int} (p : P (.ref h.length) (h ++ [.lst (cutW xs lo hi)])) : Ok (fSl (.rol xs) lo hi) h P := ⟨_, _, rfl, p⟩
theorem ok_isi {T : String} (o : Ok (a sw) h fun x h1 => ∃ n k, tyName h1 x = some n ∧ kitB n T = some k ∧ P (.bl k) h1) : Ok (mIsi T a sw) h P := ok_bnd (o.imp fun x h1 o => by
  obtain ⟨n, k, e1, e2, p⟩ := o
  exact ⟨_, h1, by simp only [e1, e2], p⟩)
theorem ok_eq {neg : Bool} {x y : W} {d e : PyData} (e1 : toD h 8 x = some d) (e2 : toD h 8 y = some e) (es : (SeqAt.shaped d && SeqAt.shaped e) = true) (p : P (.bl (neg != PyData.eqv d e)) h) : Ok (fEq neg x y) h P := by
  refine ⟨_, h, ?_, p⟩
  unfold fEq
  rw [e1, e2]
  simp only [es, if_true]
theorem ok_reprB {k : Bool} (p : P (.str (if k then Str.ofString "True" else Str.ofString "False")) h) : Ok (bRepr [.bl k]) h P := ok_rtn p
theorem ok_in1 {neg : Bool} {c : Nat} {z : Str} (p : P (.bl (neg != decide (c ∈ z.cps.toList))) h) : Ok (fIn neg (.str ⟨#[c]⟩) (.str z)) h P := by
  have e : (!(Builtin.Str.occurrences z ⟨#[c]⟩ 0 z.length 1).isEmpty) = decide (c ∈ z.cps.toList) := PySem.StrLaws.found_one z c
  refine ⟨_, h, rfl, ?_⟩
  rw [e]
  exact p
end

/-! ### loops -/
/-- a for over written items: Inv by the number of turns -/
theorem ok_sFor {src : Src} {g : MG} {b : MS} {sw : SW} {h : Hw} {PF : Fl → Hw → Prop} (Inv : Nat → SW → Hw → Prop) {n : Nat} (N : Nat) (hN : n ≤ N) (h0 : Inv 0 sw h)
    (hs : ∀ i sw h, i < n → Inv i sw h → ∃ x, src.item i h = some (some x) ∧ Ok (g x sw) h fun s h1 => Ok (b s) h1 fun f h2 => match f with
      | .nx s => Inv (i + 1) s h2
      | .ct s => Inv (i + 1) s h2
      | .bk s => PF (.nx s) h2
      | .rt w => PF (.rt w) h2)
    (he : ∀ sw h, Inv n sw h → src.item n h = some none ∧ PF (.nx sw) h) : Ok (sFor src g b 0 (N + 1) sw) h PF := by
  have go : ∀ (k i : Nat) (sw : SW) (h : Hw), i + k = n → Inv i sw h → ∀ m, n < i + m → Ok (sFor src g b i m sw) h PF := by
    intro k
    induction k with
    | zero =>
      intro i sw h e p m hm
      have ei : i = n := by omega
      subst ei
      cases m with
      | zero => omega
      | succ m =>
        obtain ⟨e1, q⟩ := he sw h p
        exact ⟨.nx sw, h, by unfold sFor; rw [e1], q⟩
    | succ k ih =>
      intro i sw h e p m hm
      cases m with
      | zero => omega
      | succ m =>
        obtain ⟨x, e1, o⟩ := hs i sw h (by omega) p
        have o' : Ok (bnd (g x sw) fun s => bnd (b s) fun f => match f with
            | .nx s => sFor src g b (i + 1) m s
            | .ct s => sFor src g b (i + 1) m s
            | .bk s => rtn (.nx s)
            | .rt w => rtn (.rt w)) h PF := ok_bnd (o.imp fun s h1 o => ok_bnd (o.imp fun f h2 o => by
          cases f with
          | nx s => exact ih (i + 1) s h2 (by omega) o m (by omega)
          | ct s => exact ih (i + 1) s h2 (by omega) o m (by omega)
          | bk s => exact ok_rtn o
          | rt w => exact ok_rtn o))
        obtain ⟨f, h2, e2, q⟩ := o'
        exact ⟨f, h2, by unfold sFor; rw [e1]; exact e2, q⟩
  exact go n 0 sw h (by omega) h0 (N + 1) (by omega)
theorem ok_sForI {mi : MI} {g : MG} {b : MS} {sw : SW} {h : Hw} {PF : Fl → Hw → Prop} (o : Ok (mi sw) h fun src h1 => Ok (sFor src.1 g b 0 (src.2 + 1) sw) h1 PF) : Ok (sForI mi g b sw) h PF := ok_bnd o
theorem ok_iAnyL {a : ME} {sw : SW} {h : Hw} {PI : Src × Nat → Hw → Prop} (o : Ok (a sw) h fun x h1 => ∃ p xs, x = .ref p ∧ h1[p]? = some (.lst xs) ∧ PI (.lst p, xs.length) h1) : Ok (iAny a sw) h PI := ok_bnd (o.imp fun x h1 o => by
  obtain ⟨p, xs, rfl, e, q⟩ := o
  exact ⟨_, h1, by simp only [e], q⟩)
theorem ok_iAnyT {a : ME} {sw : SW} {h : Hw} {PI : Src × Nat → Hw → Prop} (o : Ok (a sw) h fun x h1 => ∃ xs, x = .tup xs ∧ PI (.tup xs, xs.length) h1) : Ok (iAny a sw) h PI := ok_bnd (o.imp fun x h1 o => by
  obtain ⟨xs, rfl, q⟩ := o
  exact ⟨_, h1, rfl, q⟩)
theorem ok_iAnyS {a : ME} {sw : SW} {h : Hw} {PI : Src × Nat → Hw → Prop} (o : Ok (a sw) h fun x h1 => ∃ z, x = .str z ∧ PI (.str z, z.cps.size) h1) : Ok (iAny a sw) h PI := ok_bnd (o.imp fun x h1 o => by
  obtain ⟨z, rfl, q⟩ := o
  exact ⟨_, h1, rfl, q⟩)
theorem ok_iRg1 {a : ME} {sw : SW} {h : Hw} {PI : Src × Nat → Hw → Prop} (o : Ok (a sw) h fun x h1 => ∃ j, x = .int j ∧ (-big ≤ j ∧ j < big) ∧ PI (.rng 0 j.toNat, j.toNat) h1) : Ok (iRg1 a sw) h PI := ok_bnd (o.imp fun x h1 o => by
  obtain ⟨j, rfl, e, q⟩ := o
  exact ⟨_, h1, by simp only [if_pos e], q⟩)
theorem ok_iRg2 {a b : ME} {sw : SW} {h : Hw} {PI : Src × Nat → Hw → Prop} (o : Ok (a sw) h fun x h1 => Ok (b sw) h1 fun y h2 => ∃ i j, x = .int i ∧ y = .int j ∧ ((-big ≤ i ∧ i < big) ∧ -big ≤ j ∧ j < big) ∧ PI (.rng i (j - i).toNat, (j - i).toNat) h2) : Ok (iRg2 a b sw) h PI :=
  ok_bnd (o.imp fun x h1 o => ok_bnd (o.imp fun y h2 o => by
    obtain ⟨i, j, rfl, rfl, e, q⟩ := o
    exact ⟨_, h2, by simp only [if_pos e], q⟩))
/-- a comprehension: Inv by the number of turns and what is made so far; the new list stands at D -/
theorem ok_mLc {mi : MI} {g : MG} {t : MT} {e : ME} {vs : List Nat} {sw : SW} {h : Hw} {P : W → Hw → Prop} (Inv : Nat → List W → Hw → Prop) (D : Nat)
    (o : Ok (mi sw) h fun src h1 => D = h1.length ∧ Inv 0 [] (h1 ++ [.lst []]) ∧
      (∀ i acc h, i < src.2 → Inv i acc h → h[D]? = some (.lst acc) → ∃ x, src.1.item i h = some (some x) ∧ Ok (g x (wipeW sw vs)) h fun s h2 => Ok (t s) h2 fun b h3 => (b = true → Ok (e s) h3 fun y h4 => h4[D]? = some (.lst acc) ∧ acc.length < lim ∧ Inv (i + 1) (acc ++ [y]) (h4.set D (.lst (acc ++ [y])))) ∧ (b = false → h3[D]? = some (.lst acc) ∧ Inv (i + 1) acc h3)) ∧
      (∀ acc h, Inv src.2 acc h → h[D]? = some (.lst acc) → src.1.item src.2 h = some none ∧ P (.ref D) h)) : Ok (mLc mi g t e vs sw) h P := by
  refine ok_bnd (o.imp fun src h1 o => ?_)
  obtain ⟨eD, h0, hs, he⟩ := o
  have go : ∀ (k i : Nat) (acc : List W) (h : Hw), i + k = src.2 → Inv i acc h → h[D]? = some (.lst acc) → ∀ m, src.2 < i + m → Ok (lcGo src.1 g t e vs (.ref D) sw i m) h fun _ h' => P (.ref D) h' := by
    intro k
    induction k with
    | zero =>
      intro i acc h ei p hD m hm
      have ei' : i = src.2 := by omega
      subst ei'
      cases m with
      | zero => omega
      | succ m =>
        obtain ⟨e1, q⟩ := he acc h p hD
        exact ⟨(), h, by unfold lcGo; simp only [e1], q⟩
    | succ k ih =>
      intro i acc h ei p hD m hm
      cases m with
      | zero => omega
      | succ m =>
        obtain ⟨x, e1, o⟩ := hs i acc h (by omega) p hD
        have o' : Ok (bnd (g x (wipeW sw vs)) fun s => bnd (t s) fun b => if b = true then bnd (e s) (fun y => bnd (app (.ref D) y) fun _ => lcGo src.1 g t e vs (.ref D) sw (i + 1) m) else lcGo src.1 g t e vs (.ref D) sw (i + 1) m) h fun _ h' => P (.ref D) h' := ok_bnd (o.imp fun s h2 o => ok_bnd (o.imp fun b h3 o => by
          cases b with
          | false =>
            rw [if_neg Bool.false_ne_true]
            obtain ⟨a1, a2⟩ := o.2 rfl
            exact ih (i + 1) acc h3 (by omega) a2 a1 m (by omega)
          | true =>
            rw [if_pos rfl]
            refine ok_bnd ((o.1 rfl).imp fun y h4 o => ?_)
            obtain ⟨a1, a2, a3⟩ := o
            refine ok_bnd ⟨(), h4.set D (.lst (acc ++ [y])), ?_, ?_⟩
            · show (match h4[D]? with
                | some (.lst acc) => if acc.length < lim then EL.R.ok () (h4.set D (.lst (acc ++ [y]))) else EL.R.no
                | _ => EL.R.no) = _
              rw [a1]
              simp only [if_pos a2]
            · refine ih (i + 1) (acc ++ [y]) _ (by omega) a3 ?_ m (by omega)
              rw [List.getElem?_set, if_pos rfl, if_pos (List.getElem?_eq_some_iff.mp a1).1]))
        obtain ⟨u, h2, e2, q⟩ := o'
        exact ⟨u, h2, by unfold lcGo; simp only [e1]; exact e2, q⟩
  subst eD
  refine ok_bnd ⟨.ref h1.length, h1 ++ [.lst []], rfl, ok_bnd ((go src.2 0 [] _ (by omega) h0 (by simp) (src.2 + 1) (by omega)).imp fun _ _ q => ok_rtn q)⟩
end EL
open EL
local macro_rules | `(tactic| walk_at "ok1") => `(tactic| first
  | with_reducible refine ok_sSeq ?_
  | with_reducible refine ok_bin ?_
  | ((with_reducible refine' ok_var ?e ?_); (case e => exact rfl))
  | with_reducible refine ok_c ?_
  | with_reducible refine ok_aCons ?_
  | with_reducible refine ok_aNil ?_
  | with_reducible refine ok_call ?_
  | with_reducible refine ok_sIf ?_
  | with_reducible refine ok_sAsg ?_
  | ((with_reducible refine' ok_gNm' ?e ?_); (case e => (simp only [List.set_cons_zero, List.set_cons_succ]; exact rfl)))
  | with_reducible refine ok_sRet ?_
  | with_reducible refine ok_sExp ?_
  | with_reducible refine ok_sNil ?_
  | with_reducible refine ok_tVal ?_
  | with_reducible refine ok_tTru ?_
  | with_reducible refine ok_tru_bl ?_
  | with_reducible refine ok_tNot ?_
  | with_reducible refine ok_tAnd ?_
  | with_reducible refine ok_tOr ?_
  | with_reducible refine ok_mAnd ?_
  | with_reducible refine ok_mOr ?_
  | with_reducible refine ok_mNot ?_
  | with_reducible refine ok_mIf ?_
  | with_reducible refine ok_un ?_
  | with_reducible refine ok_ch ?_
  | with_reducible refine ok_tup ?_
  | with_reducible refine ok_lst ?_
  | with_reducible refine ok_dnew ?_
  | with_reducible refine ok_sl ?_
  | with_reducible refine ok_oNo ?_
  | with_reducible refine ok_oSo ?_
  | with_reducible refine ok_gSubL ?_
  | with_reducible refine ok_gsNil ?_
  | with_reducible refine ok_gsCons ?_
  | with_reducible refine ok_sForI ?_
  | with_reducible refine ok_isi ?_
  | with_reducible refine ok_addI ?_
  | with_reducible refine ok_subI ?_
  | with_reducible refine ok_negI ?_
  | refine ok_cmpI ?_
  | refine ok_cmpS ?_
  | with_reducible refine ok_isB ?_
  | with_reducible refine ok_int1 ?_
  | with_reducible refine ok_int2 ?_
  | with_reducible refine ok_abs ?_
  | with_reducible refine ok_max ?_
  | with_reducible refine ok_min ?_
  | with_reducible refine ok_reprB ?_
  | with_reducible refine ok_lenR ?_
  | with_reducible refine ok_lenT ?_
  | ((with_reducible refine' okLim ?e ?_); (case e => exact rfl))
  | with_reducible refine okE ?_
  | with_reducible refine okEI ?_
  | with_reducible refine okT ?_
  | with_reducible refine okF ?_
  | with_reducible refine okNT ?_
  | with_reducible refine okNF ?_
  | dsimp only)
local macro_rules | `(tactic| walk_at "ok") => `(tactic| repeat' walk_at "ok1")
local macro_rules | `(tactic| walk_at "okF") => `(tactic| ((with_reducible refine' ok_mFn' ?e1 ?e2 ?_); (case e1 => exact rfl); (case e2 => (simp only [List.map_cons, List.map_nil, List.replicate_succ, List.replicate_zero, List.cons_append, List.nil_append, Nat.reduceSub]; exact rfl)); walk_at "ok"))
/-! EL8: the pool of numbers that a script gives, and what is drawn from it. -/
namespace EL
open PySem PySem.Spec L2
open PyProof.Rows hiding St
def cPool : List W → M W := mFn 2 5 (sSeq (sAsg (gNm 2) (mIf (tVal (mBin fLt (mVar 1) (mCall bLen (aCons (mVar 0) aNil)))) (mBin fIx (mVar 0) (mVar 1)) (mBin fAdd (mBin fMul (mC (.int 7)) (mCall bSum (aCons (mSl (mVar 0) oNo (oSo (mC (.int 63)))) aNil))) (mVar 1))))
    (sSeq (sAsg (gNm 3) (mCall bAbs (aCons (mVar 2) aNil)))
    (sSeq (sAsg (gNm 4) (mBin fAdd (mBin fAdd (mBin fAdd (mBin fMod (mCall bInt (aCons (mVar 3) aNil)) (mC (.int 2147483629))) (mBin fMul (mBin fMul (mC (.int 7919)) (mVar 1)) (mVar 1))) (mBin fMul (mC (.int 31)) (mVar 1))) (mC (.int 17))))
    (sSeq (sAsg (gNm 4) (mBin fMod (mCall bInt (aCons (mBin fMul (mVar 4) (mC (.int 48271))) aNil)) (mC (.int 2147483647))))
    (sRet (mLst (aCons (mBin fMul (mVar 3) (mCall bInt (aCons (mBin fGe (mVar 3) (mBin fPow (mC (.int 10)) (mC (.int 18)))) aNil))) (aCons (mBin fMod (mCall bInt (aCons (mBin fMul (mVar 4) (mVar 4)) aNil)) (mC (.int 2147483629))) aNil))))))))
def cDraw : List W → M W := mFn 2 3 (sSeq (sIf (tVal (mBin fGt (mBin fIx (mVar 0) (mC (.int 0))) (mC (.int 0)))) (sSeq (sAsg (gNm 2) (mBin fMod (mCall bInt (aCons (mBin fIx (mVar 0) (mC (.int 0))) aNil)) (mVar 1)))
    (sSeq (sAsg (gSubL (mVar 0) (mC (.int 0))) (mBin fDiv (mBin fIx (mVar 0) (mC (.int 0))) (mVar 1)))
    (sRet (mVar 2)))) sNil)
    (sSeq (sAsg (gSubL (mVar 0) (mC (.int 1))) (mBin fMod (mCall bInt (aCons (mBin fAdd (mBin fMul (mBin fIx (mVar 0) (mC (.int 1))) (mC (.int 48271))) (mC (.int 11))) aNil)) (mC (.int 2147483647))))
    (sRet (mBin fMod (mCall bInt (aCons (mBin fDiv (mBin fMod (mCall bInt (aCons (mBin fMul (mBin fIx (mVar 0) (mC (.int 1))) (mBin fIx (mVar 0) (mC (.int 1)))) aNil)) (mC (.int 2147483629))) (mC (.int 16))) aNil)) (mVar 1)))))
def cPick : List W → M W := mFn 2 2 (sRet (mBin fIx (mVar 1) (mCall cDraw (aCons (mVar 0) (aCons (mCall bLen (aCons (mVar 1) aNil)) aNil)))))
/-- the pool's two numbers -/
def pl (a b : Int) : O := .lst [.int a, .int b]
theorem atI_0 {α : Type} {x : α} {xs : List α} : atI (x :: xs) (0 : Int) = some x := atI_nat (j := 0) rfl
theorem atI_1 {α : Type} {x y : α} {xs : List α} : atI (x :: y :: xs) (1 : Int) = some y := atI_nat (j := 1) rfl
theorem get_set {h : Hw} {n : Nat} {o u : O} (e : h[n]? = some u) : (h.set n o)[n]? = some o := by
  rw [List.getElem?_set, if_pos rfl, if_pos (List.getElem?_eq_some_iff.mp e).1]
theorem get_set_ne {h : Hw} {n i : Nat} {o : O} (e : n ≠ i) : (h.set n o)[i]? = h[i]? := List.getElem?_set_ne e


theorem draw_ok {h : Hw} {n : Nat} {a b m : Int} {P : W → Hw → Prop} (e : h[n]? = some (pl a b)) (ha : 0 ≤ a) (hb : 0 ≤ b) (hm : 0 < m) (hl : m.natAbs.log2 < 9000)
    (k : ∀ r a' b' : Int, 0 ≤ r → r < m → 0 ≤ a' → 0 ≤ b' → P (.int r) (h.set n (pl a' b'))) : Ok (cDraw [.ref n, .int m]) h P := by
  unfold cDraw
  walk_at "okF"
  refine ok_ixL e atI_0 ?_
  walk_at "ok"
  refine ⟨fun hc => ?_, fun hc => ?_⟩
  · walk_at "ok"
    refine ok_ixL e atI_0 ?_
    walk_at "ok"
    refine ok_modI hm ?_
    walk_at "ok"
    refine ok_ixL e atI_0 ?_
    walk_at "ok"
    refine ok_divI ⟨hm, hl⟩ ?_
    walk_at "ok"
    refine ok_set e rfl ?_
    walk_at "ok"
    exact k _ _ _ (Int.emod_nonneg _ (by omega)) (Int.emod_lt_of_pos _ hm) (Int.ediv_nonneg ha (by omega)) hb
  · walk_at "ok"
    refine ok_ixL e atI_1 ?_
    walk_at "ok"
    refine ok_mulI (mulOk_r (by decide) (by decide)) ?_
    walk_at "ok"
    refine ok_modI (by decide) ?_
    walk_at "ok"
    refine ok_set e rfl ?_
    walk_at "ok"
    refine ok_ixL (get_set e) atI_1 ?_
    walk_at "ok"
    refine ok_ixL (get_set e) atI_1 ?_
    have h0 : 0 ≤ (b * 48271 + 11) % 2147483647 := Int.emod_nonneg _ (by decide)
    have h1 : (b * 48271 + 11) % 2147483647 < 2147483647 := Int.emod_lt_of_pos _ (by decide)
    refine ok_mulI (mulOk_l (by omega) (by omega)) ?_
    walk_at "ok"
    refine ok_modI (by decide) ?_
    walk_at "ok"
    refine ok_divI (by decide) ?_
    walk_at "ok"
    refine ok_modI hm ?_
    exact k _ _ _ (Int.emod_nonneg _ (by omega)) (Int.emod_lt_of_pos _ hm) ha h0
theorem cutW_map (ns : List Int) (lo hi : Option Int) : ∃ ms : List Int, cutW (ns.map W.int) lo hi = ms.map W.int := by
  unfold cutW
  rw [← List.map_drop, ← List.map_take]
  exact ⟨_, rfl⟩
theorem pool_ok {h : Hw} {ns : List Int} {k : Int} {P : W → Hw → Prop} (hk : 0 ≤ k) (hk2 : k ≤ 1000)
    (q : ∀ (a b : Int) (g : List O), 0 ≤ a → 0 ≤ b → P (.ref (h ++ g).length) ((h ++ g) ++ [pl a b])) : Ok (cPool [.rol (ns.map W.int), .int k]) h P := by
  have tail : ∀ (c : Int) (g : List O), Ok ((sSeq (sAsg (gNm 3) (mCall bAbs (aCons (mVar 2) aNil)))
      (sSeq (sAsg (gNm 4) (mBin fAdd (mBin fAdd (mBin fAdd (mBin fMod (mCall bInt (aCons (mVar 3) aNil)) (mC (.int 2147483629))) (mBin fMul (mBin fMul (mC (.int 7919)) (mVar 1)) (mVar 1))) (mBin fMul (mC (.int 31)) (mVar 1))) (mC (.int 17))))
      (sSeq (sAsg (gNm 4) (mBin fMod (mCall bInt (aCons (mBin fMul (mVar 4) (mC (.int 48271))) aNil)) (mC (.int 2147483647))))
      (sRet (mLst (aCons (mBin fMul (mVar 3) (mCall bInt (aCons (mBin fGe (mVar 3) (mBin fPow (mC (.int 10)) (mC (.int 18)))) aNil))) (aCons (mBin fMod (mCall bInt (aCons (mBin fMul (mVar 4) (mVar 4)) aNil)) (mC (.int 2147483629))) aNil)))))))
      [some (.rol (ns.map W.int)), some (.int k), some (.int c), none, none]) (h ++ g) fun f h1 => match f with
        | .rt w => P w h1
        | .nx _ => P .non h1
        | _ => False := fun c g => by
    walk_at "ok"
    have hs : 0 ≤ (if c < 0 then -c else c) := by split <;> omega
    generalize (if c < 0 then -c else c) = z at hs ⊢
    refine ok_modI (by decide) ?_
    walk_at "ok"
    refine ok_mulI (mulOk_l (by decide) (by decide)) ?_
    walk_at "ok"
    refine ok_mulI (mulOk_r (by omega) (by omega)) ?_
    walk_at "ok"
    refine ok_mulI (mulOk_l (by decide) (by decide)) ?_
    walk_at "ok"
    generalize z % 2147483629 + 7919 * k * k + 31 * k + 17 = y
    refine ok_mulI (mulOk_r (by decide) (by decide)) ?_
    walk_at "ok"
    refine ok_modI (by decide) ?_
    walk_at "ok"
    refine ok_powI (by decide) ?_
    walk_at "ok"
    have hb : (0 : Int) ≤ (if decide ((10 : Int) ^ (18 : Int).toNat ≤ z) = true then 1 else 0) ∧ (if decide ((10 : Int) ^ (18 : Int).toNat ≤ z) = true then (1 : Int) else 0) ≤ 1 := by split <;> omega
    generalize (if decide ((10 : Int) ^ (18 : Int).toNat ≤ z) = true then (1 : Int) else 0) = t at hb ⊢
    refine ok_mulI (mulOk_r (by omega) (by omega)) ?_
    walk_at "ok"
    have h0 : 0 ≤ y * 48271 % 2147483647 := Int.emod_nonneg _ (by decide)
    have h1 : y * 48271 % 2147483647 < 2147483647 := Int.emod_lt_of_pos _ (by decide)
    refine ok_mulI (mulOk_l (by omega) (by omega)) ?_
    walk_at "ok"
    refine ok_modI (by decide) ?_
    walk_at "ok"
    exact (q _ _ g (Int.mul_nonneg hs hb.1) (Int.emod_nonneg _ (by decide)))
  unfold cPool
  walk_at "okF"
  refine ⟨fun hc => ?_, fun hc => ?_⟩
  · have hlt : k < ((ns.map W.int).length : Int) := of_decide_eq_true hc
    rw [List.length_map] at hlt
    walk_at "ok"
    obtain ⟨j, rfl⟩ := Int.eq_ofNat_of_zero_le hk
    have hj : j < ns.length := by omega
    refine ok_ixR (w := .int ns[j]) (atI_nat (by rw [List.getElem?_map, List.getElem?_eq_getElem hj]; rfl)) ?_
    walk_at "ok1"
    have q := tail ns[j] []
    rw [List.append_nil] at q
    exact q
  · walk_at "ok"
    obtain ⟨ms, em⟩ := cutW_map ns none (some 63)
    refine ok_slR ?_
    walk_at "ok"
    refine ok_sumL (ns := ms) (by rw [em]; simp) ?_
    refine ok_mulI (mulOk_l (by decide) (by decide)) ?_
    walk_at "ok1"
    walk_at "ok1"
    walk_at "ok1"
    exact tail _ _
theorem pick_ok {h : Hw} {n : Nat} {a b : Int} {row : W} {m : Nat} {P : W → Hw → Prop} (e : h[n]? = some (pl a b)) (ha : 0 ≤ a) (hb : 0 ≤ b) (hm : 0 < m) (hl : m ≤ 1000)
    (el : Ok (bLen [row]) h fun w h1 => w = .int m ∧ h1 = h)
    (k : ∀ (j : Nat) (a' b' : Int), j < m → 0 ≤ a' → 0 ≤ b' → Ok (fIx row (.int j)) (h.set n (pl a' b')) P) : Ok (cPick [.ref n, row]) h P := by
  unfold cPick
  walk_at "okF"
  refine el.imp fun w h1 q => ?_
  obtain ⟨rfl, rfl⟩ := q
  walk_at "ok"
  refine draw_ok e ha hb (by omega) ?_ fun r a' b' r0 r1 a0 b0 => ?_
  · have : ((m : Int).natAbs) = m := by omega
    rw [this]
    exact Nat.lt_of_le_of_lt (Nat.log2_le_self m) (by omega)
  · obtain ⟨j, rfl⟩ := Int.eq_ofNat_of_zero_le r0
    exact k j a' b' (by omega) a0 b0
end EL
/-! EL9: words, dates, integers. -/
namespace EL
open PySem PySem.Spec L2
open PyProof.Rows hiding St
open TL (tl len_tl ext_tl tl_append tl_mk join_eq tl_join joinL)

def cIsInteger : List W → M W := mFn 3 3 (sRet ((mAnd (mIsi "int" (mVar 0)) (mAnd (mNot (mIsi "bool" (mVar 0))) (mCh fLe fLe (mVar 1) (mVar 0) (mVar 2))))))
def cIsWord : List W → M W := mFn 1 2 (sSeq (sIf ((tOr (tNot (tTru (mIsi "str" (mVar 0)))) (tNot (tVal (mCh fLe fLe (mC (.int 1)) (mCall bLen (aCons (mVar 0) aNil)) (mC (.int 8))))))) (sRet (mC (.bl false))) sNil)
    (sRet (mCall bAll (aCons (mLc (iAny (mVar 0)) (gNm 1) tYs (mBin (fIn false) (mVar 1) (mC (.str "abcdefghijklmnopqrstuvwxyz"))) [1]) aNil))))
def cIsDate : List W → M W := mFn 1 1 (sRet (mCall cIsInteger (aCons (mVar 0) (aCons (mC (.int 0)) (aCons (mC (.int 9999)) aNil)))))
theorem ok_turns {ns : List Int} {c : Int} {j : Nat} {b : MS} {sw : SW} {h : Hw} {PF : Fl → Hw → Prop} (Inv : SW → Prop) (hc : 1 ≤ c) (hc2 : c ≤ 100) (h0 : Inv sw) (hv : sw[0]? = some (some (.rol (ns.map W.int))))
    (hb : ∀ (k : Int) (sw : SW) (h : Hw), 0 ≤ k → k ≤ 100 → Inv sw → Ok (b (sw.set j (some (.int k)))) h fun f _ => ∃ s, f = .nx s ∧ Inv s)
    (he : ∀ sw h, Inv sw → PF (.nx sw) h) : Ok (sForI (iRg1 (mCall bMax (aCons (mC (.int 1)) (aCons (mCall bMin (aCons (mCall bLen (aCons (mVar 0) aNil)) (aCons (mC (.int c)) aNil))) aNil)))) (gNm j) b sw) h PF := by
  refine ok_sForI (ok_iRg1 (ok_call (ok_aCons (ok_c (ok_aCons (ok_call (ok_aCons (ok_call (ok_aCons (ok_var hv (ok_aNil (ok_lenR (ok_aCons (ok_c (ok_aNil (ok_min (ok_aNil (ok_max ?_))))))))))))))))))
  generalize hz : (if (if c < ((ns.map W.int).length : Int) then c else ((ns.map W.int).length : Int)) > 1 then (if c < ((ns.map W.int).length : Int) then c else ((ns.map W.int).length : Int)) else 1) = z
  have hz1 : 1 ≤ z ∧ z ≤ 100 := by
    subst hz
    split <;> (try split) <;> omega
  refine ⟨_, rfl, by unfold big; omega, ?_⟩
  refine ok_sFor (fun _ sw _ => Inv sw) (n := z.toNat) _ (Nat.le_refl _) h0 (fun i sw h hi p => ?_) (fun sw h p => ?_)
  · refine ⟨.int (0 + i), by unfold Src.item; simp only [if_pos hi], ok_gNm ((hb (0 + i) sw h (by omega) (by omega) p).imp fun f h2 q => ?_)⟩
    obtain ⟨s, rfl, q⟩ := q
    exact q
  · exact ⟨by unfold Src.item; simp only [Nat.lt_irrefl, if_false], he sw h p⟩
/-- a word -/
def isw (x : Str) : Bool := decide (1 ≤ x.length) && decide (x.length ≤ 8) && x.cps.toList.all fun c => decide (97 ≤ c) && decide (c ≤ 122)
theorem letters_mem (c : Nat) : decide (c ∈ (Str.ofString "abcdefghijklmnopqrstuvwxyz").cps.toList) = (decide (97 ≤ c) && decide (c ≤ 122)) := by
  have e : (Str.ofString "abcdefghijklmnopqrstuvwxyz").cps.toList = (List.range 26).map (97 + ·) := by decide +kernel
  rw [e]
  by_cases h : 97 ≤ c ∧ c ≤ 122
  · rw [decide_eq_true (show c ∈ (List.range 26).map (97 + ·) from List.mem_map.mpr ⟨c - 97, List.mem_range.mpr (by omega), by omega⟩), decide_eq_true h.1, decide_eq_true h.2]
    rfl
  · rw [decide_eq_false (show ¬ c ∈ (List.range 26).map (97 + ·) from fun z => by
      obtain ⟨k, hk, rfl⟩ := List.mem_map.mp z
      have := List.mem_range.mp hk
      exact h ⟨by omega, by omega⟩)]
    by_cases h1 : 97 ≤ c
    · rw [decide_eq_true h1, decide_eq_false (fun z => h ⟨h1, z⟩)]
      rfl
    · rw [decide_eq_false h1]
      rfl
theorem odd_ok {w : W} {h : Hw} {P : W → Hw → Prop} {n : String} (e : tyName h w = some n) (e2 : kitB n "str" = some false) (p : P (.bl false) h) : Ok (cIsWord [w]) h P := by
  unfold cIsWord
  walk_at "okF"
  refine ⟨n, false, e, e2, ?_⟩
  walk_at "ok"
  exact p
theorem word_ok {x : Str} {h : Hw} {P : W → Hw → Prop} (hl : x.length ≤ lim) (p : ∀ g, P (.bl (isw x)) (h ++ g)) : Ok (cIsWord [.str x]) h P := by
  unfold cIsWord
  walk_at "okF"
  refine ⟨"str", true, rfl, by decide +kernel, ?_⟩
  walk_at "ok"
  refine ok_lenS hl ?_
  walk_at "ok"
  have no : isw x = false → P (.bl false) h := fun z => by
    have q := p []
    rw [z, List.append_nil] at q
    exact q
  refine ⟨fun h1 => ?_, fun h1 => ?_⟩
  · have h1' : 1 ≤ x.length := by
      have := of_decide_eq_true h1
      omega
    walk_at "ok"
    by_cases h2 : x.length ≤ 8
    · refine okBF (by rw [decide_eq_true (by omega)]; rfl) ?_
      walk_at "ok"
      refine ok_mLc (fun i acc h' => acc = ((x.cps.toList.take i).map fun c => W.bl (decide (97 ≤ c) && decide (c ≤ 122))) ∧ h' = h ++ [.lst acc]) h.length (ok_iAnyS ?_)
      walk_at "ok"
      refine ⟨x, rfl, rfl, ⟨by simp, rfl⟩, fun i acc h' hi q hD => ?_, fun acc h' q hD => ?_⟩
      · obtain ⟨qa, qh⟩ := q
        have hi' : i < x.cps.size := hi
        refine ⟨.str ⟨#[x.cps[i]]⟩, by show some (x.cps[i]?.map _) = _; rw [Array.getElem?_eq_getElem hi']; rfl, ok_gNm ?_⟩
        refine ok_rtn (okT ?_)
        walk_at "ok"
        refine ok_in1 ?_
        refine ⟨hD, by
          have hs : x.cps.size = x.length := rfl
          rw [qa, List.length_map, List.length_take, Array.length_toList]
          unfold lim
          omega, ?_, ?_⟩
        · rw [qa, letters_mem, List.take_add_one, List.map_append, Array.getElem?_toList, Array.getElem?_eq_getElem hi']
          simp
        · rw [qh, List.set_append_right _ _ (Nat.le_refl _), Nat.sub_self]
          rfl
      · obtain ⟨qa, qh⟩ := q
        refine ⟨by show some (x.cps[x.cps.size]?.map _) = _; rw [Array.getElem?_eq_none (Nat.le_refl _)]; rfl, ?_⟩
        walk_at "ok"
        have qa' : acc = (x.cps.toList.map fun c => decide (97 ≤ c) && decide (c ≤ 122)).map W.bl := by
          rw [qa, List.take_of_length_le (by simp), List.map_map]
          rfl
        rw [qa'] at hD
        refine ok_allL hD ?_
        have e : isw x = (x.cps.toList.map fun c => decide (97 ≤ c) && decide (c ≤ 122)).all id := by
          unfold isw
          rw [decide_eq_true h1', decide_eq_true h2, List.all_map]
          simp
        rw [← e, qh]
        exact p _
    · refine okB (by rw [decide_eq_false (by omega)]; rfl) ?_
      walk_at "ok"
      refine no ?_
      unfold isw
      rw [decide_eq_false h2]
      simp
  · walk_at "ok"
    refine no ?_
    have : ¬ 1 ≤ x.length := fun z => by
      rw [decide_eq_true (by omega)] at h1
      cases h1
    unfold isw
    rw [decide_eq_false this]
    simp
theorem int_ok {i lo hi : Int} {h : Hw} {P : W → Hw → Prop} (p : P (.bl (decide (lo ≤ i ∧ i ≤ hi))) h) : Ok (cIsInteger [.int i, .int lo, .int hi]) h P := by
  unfold cIsInteger
  walk_at "okF"
  refine ⟨"int", true, rfl, by decide +kernel, ?_⟩
  walk_at "ok"
  refine ⟨"int", false, rfl, by decide +kernel, ?_⟩
  walk_at "ok"
  refine ⟨fun h1 => ?_, fun h1 => ?_⟩
  · walk_at "ok"
    have h1' := of_decide_eq_true h1
    rw [show decide (i ≤ hi) = decide (lo ≤ i ∧ i ≤ hi) by simp [h1']]
    exact p
  · have h1' := of_decide_eq_false h1
    rw [show decide (lo ≤ i ∧ i ≤ hi) = false by simp [h1']] at p
    exact p
theorem noint_ok {w lo hi : W} {h : Hw} {P : W → Hw → Prop} {n : String} (e : tyName h w = some n) (hn : kitB n "int" = some false ∨ (kitB n "int" = some true ∧ kitB n "bool" = some true)) (p : P (.bl false) h) : Ok (cIsInteger [w, lo, hi]) h P := by
  unfold cIsInteger
  walk_at "okF"
  rcases hn with hn | ⟨hn, hb⟩
  · refine ⟨n, false, e, hn, ?_⟩
    walk_at "ok"
    exact p
  · refine ⟨n, true, e, hn, ?_⟩
    walk_at "ok"
    refine ⟨n, true, e, hb, ?_⟩
    walk_at "ok"
    exact p
theorem date_ok {i : Int} {h : Hw} {P : W → Hw → Prop} (p : P (.bl (decide (0 ≤ i ∧ i ≤ 9999))) h) : Ok (cIsDate [.int i]) h P := by
  unfold cIsDate
  walk_at "okF"
  exact int_ok p
theorem nodate_ok {w : W} {h : Hw} {P : W → Hw → Prop} {n : String} (e : tyName h w = some n) (hn : kitB n "int" = some false ∨ (kitB n "int" = some true ∧ kitB n "bool" = some true)) (p : P (.bl false) h) : Ok (cIsDate [w]) h P := by
  unfold cIsDate
  walk_at "okF"
  exact noint_ok e hn p
theorem get_app {h g : Hw} {n : Nat} {o : O} (e : h[n]? = some o) : (h ++ g)[n]? = some o := by
  rw [List.getElem?_append_left (List.getElem?_eq_some_iff.mp e).1]
  exact e
/-- over a list that stands: each item's turn goes on -/
theorem ok_forLst {p : Nat} {xs : List W} {g : MG} {b : MS} {sw : SW} {h : Hw} {PF : Fl → Hw → Prop} (Inv : SW → Hw → Prop) (h0 : Inv sw h) (hp : ∀ sw h, Inv sw h → h[p]? = some (.lst xs))
    (hs : ∀ x ∈ xs, ∀ sw h, Inv sw h → Ok (g x sw) h fun s h1 => Ok (b s) h1 fun f h2 => ∃ s', f = .nx s' ∧ Inv s' h2) (he : ∀ sw h, Inv sw h → PF (.nx sw) h) : Ok (sFor (.lst p) g b 0 (xs.length + 1) sw) h PF := by
  refine ok_sFor (fun _ sw h => Inv sw h) (n := xs.length) _ (Nat.le_refl _) h0 (fun i sw h hi q => ?_) (fun sw h q => ?_)
  · refine ⟨xs[i], ?_, (hs xs[i] (List.getElem_mem hi) sw h q).imp fun s h1 o => o.imp fun f h2 z => ?_⟩
    · show (match h[p]? with
        | some (.lst xs) => some xs[i]?
        | _ => none) = _
      rw [hp sw h q]
      simp only [List.getElem?_eq_getElem hi]
    · obtain ⟨s', rfl, z⟩ := z
      exact z
  · refine ⟨?_, he sw h q⟩
    show (match h[p]? with
      | some (.lst ys) => some ys[xs.length]?
      | _ => none) = _
    rw [hp sw h q]
    simp only [List.getElem?_eq_none (Nat.le_refl _)]
/-- sums of written signs -/
theorem join_signs (cs : List Nat) : Txt.join (Str.ofString "") (cs.map fun c => ⟨#[c]⟩) = ⟨cs.toArray⟩ := by
  refine ext_tl ?_
  rw [join_eq, tl_join]
  have e0 : tl (Str.ofString "") = [] := by decide +kernel
  rw [e0]
  show joinL [] _ = cs
  induction cs with
  | nil => rfl
  | cons c r ih =>
    cases r with
    | nil => rfl
    | cons d r =>
      show [c] ++ ([] ++ joinL [] (List.map tl (List.map (fun c => (⟨#[c]⟩ : Str)) (d :: r)))) = _
      rw [ih]
      rfl
theorem isw_tl (x : Str) : isw x = (decide (1 ≤ (tl x).length) && decide ((tl x).length ≤ 8) && (tl x).all fun c => decide (97 ≤ c) && decide (c ≤ 122)) := by
  unfold isw
  rw [len_tl]
theorem tl_cut (x : Str) (n : Nat) : tl (cutS x none (some (n : Int))) = (tl x).take n := by
  unfold cutS
  rw [tl_mk, HT.sIx_none, HT.sIx_nat, List.drop_zero, len_tl, Nat.sub_zero, ← List.take_take]
  rw [List.take_of_length_le (Nat.le_refl _)]
theorem tl_cut2 (x : Str) (n : Nat) : tl (cutS x (some (n : Int)) none) = (tl x).drop n := by
  unfold cutS
  rw [tl_mk, HT.sIx_none, HT.sIx_nat, len_tl]
  by_cases h : n ≤ (tl x).length
  · rw [Nat.min_eq_left h, List.take_of_length_le]
    rw [List.length_drop]
    exact Nat.le_refl _
  · rw [Nat.min_eq_right (by omega), List.drop_of_length_le (Nat.le_refl _), List.drop_of_length_le (by omega)]
    simp
end EL
namespace EL
open PySem PySem.Spec L2
open PyProof.Rows hiding St

/-! ### classes: fields, making, methods -/
def putW (f : Str) (v : W) : List (Str × W) → List (Str × W)
  | [] => [(f, v)]
  | (g, x) :: r => if g = f then (g, v) :: r else (g, x) :: putW f v r
section
variable {K : PySem.W.Frag} {cm : Cm} {ρ : List Addr} {h h' : Hw} {H : Hp}
theorem lk_of {f : Str} {w : W} : ∀ {fs : List (Str × W)} {fv : List (Str × V)}, fv.map (·.1) = fs.map (·.1) → Rels K ρ H (fs.map (·.2)) (fv.map (·.2)) → fs.lookup f = some w → ∃ v, fv.lookup f = some v ∧ Rel K ρ H w v
  | [], _, _, _, e => by cases e
  | (g, x) :: fs, [], e, _, _ => by cases e
  | (g, x) :: fs, (g', y) :: fv, e, r, l => by
    have e1 : g' = g := (List.cons.inj e).1
    subst e1
    cases r with
    | cons r t =>
      by_cases q : (f == g') = true
      · rw [List.lookup, q] at l ⊢
        cases l
        exact ⟨y, rfl, r⟩
      · rw [Bool.not_eq_true] at q
        rw [List.lookup, q] at l ⊢
        exact lk_of (List.cons.inj e).2 t l
theorem lk_none {f : Str} : ∀ {fs : List (Str × W)} {fv : List (Str × V)}, fv.map (·.1) = fs.map (·.1) → fs.lookup f = none → fv.lookup f = none
  | [], [], _, _ => rfl
  | [], _ :: _, e, _ => by cases e
  | _ :: _, [], e, _ => by cases e
  | (g, x) :: fs, (g', y) :: fv, e, l => by
    have e1 : g' = g := (List.cons.inj e).1
    subst e1
    by_cases q : (f == g') = true
    · rw [List.lookup, q] at l
      cases l
    · rw [Bool.not_eq_true] at q
      rw [List.lookup, q] at l ⊢
      exact lk_none (List.cons.inj e).2 l
theorem put_keys {f : Str} {w : W} {v : V} : ∀ {fs : List (Str × W)} {fv : List (Str × V)}, fv.map (·.1) = fs.map (·.1) → (putF f v fv).map (·.1) = (putW f w fs).map (·.1)
  | [], [], _ => rfl
  | [], _ :: _, e => by cases e
  | _ :: _, [], e => by cases e
  | (g, x) :: fs, (g', y) :: fv, e => by
    have e1 : g' = g := (List.cons.inj e).1
    subst e1
    unfold putF putW
    split
    · exact e
    · rw [List.map_cons, List.map_cons, put_keys (List.cons.inj e).2]
theorem put_rels {f : Str} {w : W} {v : V} (q : Rel K ρ H w v) : ∀ {fs : List (Str × W)} {fv : List (Str × V)}, fv.map (·.1) = fs.map (·.1) → Rels K ρ H (fs.map (·.2)) (fv.map (·.2)) → Rels K ρ H ((putW f w fs).map (·.2)) ((putF f v fv).map (·.2))
  | [], [], _, _ => .cons q .nil
  | [], _ :: _, e, _ => by cases e
  | _ :: _, [], e, _ => by cases e
  | (g, x) :: fs, (g', y) :: fv, e, r => by
    have e1 : g' = g := (List.cons.inj e).1
    subst e1
    cases r with
    | cons r t =>
      unfold putF putW
      split
      · exact .cons q t
      · exact .cons r (put_rels q (List.cons.inj e).2 t)
end
def fldOf (h : Hw) (x : W) (C f : Str) : Option W := match x with
  | .ref p => match h[p]? with
    | some (.ins D fs) => if D = C then fs.lookup f else none
    | _ => none
  | _ => none
def mFld (C f : Str) (a : ME) : ME := fun sw => bnd (a sw) fun x h => match fldOf h x C f with
  | some w => .ok w h
  | none => .no
def setFld (C f : Str) (y x : W) : M Unit := fun h => match x with
  | .ref p => match h[p]? with
    | some (.ins D fs) => if D = C ∧ fs.length < 1000 then .ok () (h.set p (.ins D (putW f y fs))) else .no
    | _ => .no
  | _ => .no
def sFldS (C f : Str) (a v : ME) : MS := fun sw => bnd (v sw) fun y => bnd (a sw) fun x => bnd (setFld C f y x) fun _ => rtn (.nx sw)
def mMake (C : Str) (f : List W → M W) (dws : List W) (a : MA) : ME := fun sw => bnd (a sw) fun xs => bnd (alloc (.ins C [])) fun r => bnd (f (r :: (xs ++ dws))) fun u => match u with
  | .non => rtn r
  | _ => bad
def isIns (C m : Str) (x : W) : M Unit := fun h => match x with
  | .ref p => match h[p]? with
    | some (.ins D fs) => if D = C ∧ (fs.lookup m).isNone = true then .ok () h else .no
    | _ => .no
  | _ => .no
def mMeth (C m : Str) (f : List W → M W) (dws : List W) (o : ME) (a : MA) : ME := fun sw => bnd (o sw) fun x => bnd (isIns C m x) fun _ => bnd (a sw) fun xs => f (x :: (xs ++ dws))
section
variable {K : PySem.W.Frag} {cm : Cm} {ρ : List Addr} {h h' : Hw} {H : Hp}
theorem ins_of {C : Str} {x : W} {v : V} {P : List (Str × W) → Prop} (rh : RelH K cm ρ h H) (r : Rel K ρ H x v) (e : ∃ p D fs, x = .ref p ∧ h[p]? = some (.ins D fs) ∧ D = C ∧ P fs) : ∃ p a dx fs fv, x = .ref p ∧ v = .ref a ∧ ρ[p]? = some a ∧ h[p]? = some (.ins C fs) ∧ H a = some (.ins (cm C) dx fv) ∧ fv.map (·.1) = fs.map (·.1) ∧ Rels K ρ H (fs.map (·.2)) (fv.map (·.2)) ∧ P fs := by
  obtain ⟨p, D, fs, rfl, e1, rfl, hP⟩ := e
  cases r with
  | @ref p a hp =>
    obtain ⟨dx, fv, e2, e3, e4⟩ := rh.obj p _ a e1 hp
    exact ⟨p, a, dx, fs, fv, rfl, rfl, hp, e1, e2, e3, e4, hP⟩
theorem fldOf_inv {x w : W} {C f : Str} (e : fldOf h x C f = some w) : ∃ p D fs, x = .ref p ∧ h[p]? = some (.ins D fs) ∧ D = C ∧ fs.lookup f = some w := by
  unfold fldOf at e
  split at e
  · split at e
    · split at e
      · exact ⟨_, _, _, rfl, by assumption, by assumption, e⟩
      · cases e
    · cases e
  · cases e
theorem setFld_inv {x y : W} {C f : Str} {u : Unit} (e : setFld C f y x h = .ok u h') : ∃ p fs, x = .ref p ∧ h[p]? = some (.ins C fs) ∧ fs.length < 1000 ∧ h' = h.set p (.ins C (putW f y fs)) := by
  unfold setFld at e
  split at e
  · split at e
    · split at e
      · rename_i hq
        cases e
        obtain ⟨rfl, hl⟩ := hq
        exact ⟨_, _, rfl, by assumption, hl, rfl⟩
      · cases e
    · cases e
  · cases e
theorem isIns_inv {x : W} {C m : Str} {u : Unit} (e : isIns C m x h = .ok u h') : h' = h ∧ ∃ p D fs, x = .ref p ∧ h[p]? = some (.ins D fs) ∧ D = C ∧ fs.lookup m = none := by
  unfold isIns at e
  split at e
  · split at e
    · split at e
      · rename_i hq
        cases e
        exact ⟨rfl, _, _, _, rfl, by assumption, hq.1, Option.isNone_iff_eq_none.mp hq.2⟩
      · cases e
    · cases e
  · cases e
theorem len_keys {fs : List (Str × W)} {fv : List (Str × V)} (e : fv.map (·.1) = fs.map (·.1)) : fv.length = fs.length := by
  have := congrArg List.length e
  simpa using this
end
section
variable {X : Cx} {cm : Cm} {a o e v : Expr} {es : List Expr} {ma mo mv : ME} {mr : MA} {pos apos pos' : Pos} {C f m : Str}
theorem re_fld (ck : Cls X.K (cm C)) (na : NoAttr X.K (cm C) f) (ha : RE X cm a ma) (hb : attributeBase a f X.env (eval a X.env) = eval a X.env := by rfl) : RE X cm (.Attribute a f pos) (mFld C f ma) := by
  refine peM (pe_fld ha hb) fun σ H Q q => ?_
  obtain ⟨ρ, h, sw, w, h', rh, rs, e, k⟩ := q
  obtain ⟨x, h1, e1, e2⟩ := bnd_ok e
  refine ⟨ρ, h, sw, x, h1, rh, rs, e1, fun ρ1 H1 x' l1 rh1 rx => ?_⟩
  split at e2
  · rename_i w' ew
    cases e2
    obtain ⟨p, ad, dx, fs, fv, rfl, rfl, hp, eo, eH, ek, rl, hl⟩ := ins_of rh1 rx (fldOf_inv ew)
    obtain ⟨v, lv, rv⟩ := lk_of ek rl hl
    exact ⟨ad, _, dx, fv, v, rfl, eH, ck, na, lv, k ρ1 H1 v l1 rh1 rv⟩
  · cases e2
theorem rs_fld (ck : Cls X.K (cm C)) (na : NoAttr X.K (cm C) f) (ha : RE X cm o mo) (hv : RE X cm v mv) (hs : swapsWith v (some (.Attribute o f pos')) pos.line X.env = pure false := by rfl) : RS X cm (.Assign [.Attribute o f pos'] v pos) (sFldS C f mo mv) := by
  refine psM (ps_fld ha hv hs) fun D σ H q => ?_
  obtain ⟨ρ, h, sw, fl, h', rh, rs, e, k⟩ := q
  obtain ⟨y, h1, e1, e2⟩ := bnd_ok e
  obtain ⟨x, h2, e3, e4⟩ := bnd_ok e2
  obtain ⟨u, h3, e5, e6⟩ := bnd_ok e4
  cases e6
  refine ⟨ρ, h, sw, y, h1, rh, rs, e1, fun ρ1 H1 y' l1 rh1 ry => ?_⟩
  refine ⟨ρ1, h1, sw, x, h2, rh1, rs.mono l1, e3, fun ρ2 H2 x' l2 rh2 rx => ?_⟩
  obtain ⟨p, fs, rfl, eo, hlen, rfl⟩ := setFld_inv e5
  obtain ⟨p', ad, dx, fs', fv, ep, rfl, hp, eo', eH, ek, rl, _⟩ := ins_of (C := C) (P := fun _ => True) rh2 rx ⟨p, _, fs, rfl, eo, rfl, trivial⟩
  cases ep
  rw [eo] at eo'
  cases eo'
  have lu : Le X.K ρ2 H2 ρ2 (upd H2 ad (.ins (cm C) dx (putF f y' fv))) := le_mut eH trivial
  refine ⟨ad, _, dx, fv, rfl, eH, ck, na, by rw [len_keys ek]; exact hlen, ?_⟩
  refine k ρ2 _ σ (l1.trans (l2.trans lu)) (rh2.set hp eH trivial ⟨dx, _, upd_same, put_keys ek, ?_⟩) ((rs.mono l1).mono l2 |>.mono lu)
  exact put_rels ((ry.mono l2).mono lu) ek (rl.mono lu)
theorem make_of {σ : St} {H : Hp} {Q : VK} {E : XK} {fn : List W → M W} {dws : List W} {dvs : List V} (hd : ∀ ρ H, Rels X.K ρ H dws dvs) (q : tE X.K cm (mMake C fn dws mr) σ H Q) : tMake (cm C) (spM X.K cm fn) dvs E (tA X.K cm mr) σ H Q := by
  obtain ⟨ρ, h, sw, w, h', rh, rs, e, k⟩ := q
  obtain ⟨xs, h1, e1, e2⟩ := bnd_ok e
  obtain ⟨r, h2, e3, e4⟩ := bnd_ok e2
  obtain ⟨u, h3, e5, e6⟩ := bnd_ok e4
  cases e3
  refine ⟨ρ, h, sw, xs, h1, rh, rs, e1, fun ρ1 H1 vs l1 rh1 rx => ?_⟩
  intro x dx hx hdx hne
  have la : Le X.K ρ1 H1 ρ1 (upd H1 dx (.own x)) := le_new hdx
  have rh2 : RelH X.K cm ρ1 h1 (upd H1 dx (.own x)) := rh1.new hdx
  have hx2 : upd H1 dx (.own x) x = none := by rw [upd_ne (Ne.symm hne)]; exact hx
  have lb : Le X.K ρ1 (upd H1 dx (.own x)) (ρ1 ++ [x]) (upd (upd H1 dx (.own x)) x (.ins (cm C) dx [])) := (le_new hx2).trans (le_app x)
  have rh3 := rh2.push hx2 (u := .ins (cm C) dx []) (o := .ins C []) ⟨dx, [], upd_same, rfl, .nil⟩
  refine ⟨ρ1 ++ [x], _, _, u, h3, rh3, .cons (.ref (push_at rh1)) (((rx.mono la).mono lb).append (hd _ _)), e5, fun ρ4 H4 v l4 rh4 rv => ?_⟩
  cases u with
  | non =>
    cases rv
    cases e6
    exact ⟨rfl, k ρ4 H4 _ (l1.trans (la.trans (lb.trans l4))) rh4 (.ref (pre_get l4.pre (push_at rh1)))⟩
  | _ => cases e6
theorem re_make {k : Nat} {g : Addr} {fd : FuncData} {ps : List Str} {x : Str} {p : Pos} {fn : List W → M W} {dws : List W} {dvs : List V} {ds : List Value} (Mk : L2.Mk X.K (cm C) g) (F : FnOk X.prog X.w X.K X.mg X.base CX0 k g fd ps (spM X.K cm fn)) (hr : Room (k + 1) X.A) (hm : X.mg x = some (.ref (cm C)))
    (hb : Binds X.K fd ps ds) (hd : Vals dvs ds) (hdw : ∀ ρ H, Rels X.K ρ H dws dvs) (ha : RA X cm (e :: es) mr) (hg : Gl X x := by rfl) (hdb : (x == ("__debug__" : Str)) = false := by decide) (he : starEach (e :: es) X.env = (false, eval e X.env) :: starEach es X.env := by rfl)
    (hpl : (backTo pos (starEach es X.env)).any (·.1) = false := by rfl) : RE X cm (.Call (.Name x p) (e :: es) [] pos) (mMake C fn dws mr) :=
  peM (pe_make Mk F hr hg hm hb hd pass0 ha hdb he hpl) fun σ H Q q => make_of hdw q
theorem re_make0 {k : Nat} {g : Addr} {fd : FuncData} {ps : List Str} {x : Str} {p : Pos} {fn : List W → M W} {dws : List W} {dvs : List V} {ds : List Value} (Mk : L2.Mk X.K (cm C) g) (F : FnOk X.prog X.w X.K X.mg X.base CX0 k g fd ps (spM X.K cm fn)) (hr : Room (k + 1) X.A) (hm : X.mg x = some (.ref (cm C)))
    (hb : Binds X.K fd ps ds) (hd : Vals dvs ds) (hdw : ∀ ρ H, Rels X.K ρ H dws dvs) (hg : Gl X x := by rfl) (hdb : (x == ("__debug__" : Str)) = false := by decide) : RE X cm (.Call (.Name x p) [] [] pos) (mMake C fn dws aNil) := by
  refine peM (pe_make0 (E := fun _ _ _ => False) Mk F hr hg hm hb hd pass0 hdb) fun σ H Q q => ?_
  have q2 := make_of (E := fun _ _ _ => False) (mr := aNil) hdw q
  obtain ⟨ρ, h, sw, ws, h1, rh, rs, e, k⟩ := q2
  cases e
  exact k ρ H [] .refl rh .nil
theorem meth_of {σ : St} {H : Hp} {Q : VK} {E : XK} {fn : List W → M W} {dws : List W} {dvs : List V} (hd : ∀ ρ H, Rels X.K ρ H dws dvs) (q : tE X.K cm (mMeth C m fn dws mo mr) σ H Q) : tMeth (cm C) m (spM X.K cm fn) dvs E (tE X.K cm mo) (tA X.K cm mr) σ H Q := by
  obtain ⟨ρ, h, sw, w, h', rh, rs, e, k⟩ := q
  obtain ⟨x, h1, e1, e2⟩ := bnd_ok e
  obtain ⟨u, h2, e3, e4⟩ := bnd_ok e2
  obtain ⟨xs, h3, e5, e6⟩ := bnd_ok e4
  obtain ⟨rfl, hi⟩ := isIns_inv e3
  refine ⟨ρ, h, sw, x, h2, rh, rs, e1, fun ρ1 H1 x' l1 rh1 rx => ?_⟩
  obtain ⟨p, ad, dx, fs, fv, rfl, rfl, hp, eo, eH, ek, rl, hl⟩ := ins_of rh1 rx hi
  refine ⟨ad, dx, fv, rfl, eH, lk_none ek hl, ?_⟩
  refine ⟨ρ1, h2, sw, xs, h3, rh1, rs.mono l1, e5, fun ρ2 H2 vs l2 rh2 rxs => ?_⟩
  exact ⟨ρ2, h3, _, w, h', rh2, .cons (.ref (pre_get l2.pre hp)) (rxs.append (hd _ _)), e6, fun ρ3 H3 v l3 => k ρ3 H3 v (l1.trans (l2.trans l3))⟩
theorem re_meth {k : Nat} {g : Addr} {fd : FuncData} {ps : List Str} {fn : List W → M W} {dws : List W} {dvs : List V} {ds : List Value} {pl : Sem Bool} (ck : Cls X.K (cm C)) (me : Meth X.K (cm C) m g) (F : FnOk X.prog X.w X.K X.mg X.base CX0 k g fd ps (spM X.K cm fn)) (hr : Room k X.A)
    (hb : Binds X.K fd ps ds) (hd : Vals dvs ds) (hdw : ∀ ρ H, Rels X.K ρ H dws dvs) (ho : RE X cm o mo) (ha : RA X cm (e :: es) mr)
    (hst : starEach (e :: es) X.env = (false, eval e X.env) :: starEach es X.env := by rfl) (hpl : (backTo pos (starEach es X.env)).any (·.1) = false := by rfl)
    (ht : eval (.Call (.Attribute o m apos) (e :: es) [] pos) X.env = (do
      let ov ← eval o X.env
      standAt apos.atName
      let (f, first) ← holding [ov] (getMethod ov m pl)
      callWith pos f first (backTo pos (starEach (e :: es) X.env)) (backToKw pos (keywordEach [] X.env))) := by rfl) : RE X cm (.Call (.Attribute o m apos) (e :: es) [] pos) (mMeth C m fn dws mo mr) :=
  peM (pe_meth ho ck me F hr hb hd pass0 ha hst hpl ht) fun σ H Q q => meth_of hdw q
theorem re_meth0 {k : Nat} {g : Addr} {fd : FuncData} {ps : List Str} {fn : List W → M W} {dws : List W} {dvs : List V} {ds : List Value} {pl : Sem Bool} (ck : Cls X.K (cm C)) (me : Meth X.K (cm C) m g) (F : FnOk X.prog X.w X.K X.mg X.base CX0 k g fd ps (spM X.K cm fn)) (hr : Room k X.A)
    (hb : Binds X.K fd ps ds) (hd : Vals dvs ds) (hdw : ∀ ρ H, Rels X.K ρ H dws dvs) (ho : RE X cm o mo)
    (ht : eval (.Call (.Attribute o m apos) [] [] pos) X.env = (do
      let ov ← eval o X.env
      standAt apos.atName
      let (f, first) ← holding [ov] (getMethod ov m pl)
      callWith pos f first (backTo pos (starEach [] X.env)) (backToKw pos (keywordEach [] X.env))) := by rfl) : RE X cm (.Call (.Attribute o m apos) [] [] pos) (mMeth C m fn dws mo aNil) := by
  refine peM (pe_meth0 (E := fun _ _ _ => False) ho ck me F hr hb hd pass0 ht) fun σ H Q q => ?_
  have q2 := meth_of (E := fun _ _ _ => False) (mr := aNil) hdw q
  obtain ⟨ρ, h, sw, w, h', rh, rs, e, k⟩ := q2
  refine ⟨ρ, h, sw, w, h', rh, rs, e, fun ρ1 H1 x l1 rh1 rx => ?_⟩
  obtain ⟨ad, dx, fs, ex, eH, l, q3⟩ := k ρ1 H1 x l1 rh1 rx
  refine ⟨ad, dx, fs, ex, eH, l, ?_⟩
  obtain ⟨ρ2, h2, sw2, ws, h3, rh2, rs2, e2, k2⟩ := q3
  cases e2
  exact k2 ρ2 H1 [] .refl rh2 .nil
end

/-! ### the operators of a class -/
/-- what is known of an instance in the running heap -/
theorem inst_of {X : Cx} {pins : List (Addr × Obj)} {s : Shared} {σ : St} {H : Hp} {a C dx : Addr} {fs : List (Str × V)} (I : Inv X pins σ H s) (e : H a = some (.ins C dx fs)) : ∃ od, PySem.W.InstAt s.heap a (PySem.W.instObj C dx) C (some od) := by
  obtain ⟨mA, J, _⟩ := ins_get I.hok e
  obtain ⟨od, J, _⟩ := J.look
  exact ⟨od, J⟩
/-- an own function runs, in a place that stands in the same frames -/
theorem run_own {X : Cx} {k : Nat} {f : Addr} {fd : FuncData} {ps : List Str} {sp : Sp} {A : Around} {pins : List (Addr × Obj)} {σ : St} {H : Hp} {s : Shared} {Q : VK} {us : List Value} {vs : List V} {E : XK} (F : FnOk X.prog X.w X.K X.mg X.base CX0 k f fd ps sp) (sb : Sub X k A) (hb : Binds X.K fd ps [])
    (I : Inv X pins σ H s) (r : Vals vs us) (h : sp vs H Q E) : wpAny (model X.prog X.w) A (call (.ref f) us) (EP X pins σ Q) X.xe s := by
  have hl := F.len _ _ _ _ h
  have e0 : Env0 X.prog X.w X.K X.mg X.base A X.stack s H := by
    have e := I.env0
    exact ⟨by rw [sb.fr]; exact e.frames, e.mod, e.bs, e.bsz, e.funs, e.frf, e.hok, e.bare⟩
  have hl2 : (us ++ []).length = ps.length := by rw [List.append_nil, ← r.length]; exact hl
  refine wpAny_call (codeAny_mono (F.run A X.stack s H ⟨us, []⟩ us vs Q E sb.room e0 (by
    have := hb s us I.kIn hl2
    simpa using this) r h) fun r s' hq => ?_)
  cases r with
  | error e => exact (pass0 (X := X)) pins σ H s e s' I hq
  | ok fl =>
    cases fl with
    | ret u => exact I.after hq
    | next => exact False.elim hq
    | brk => exact False.elim hq
    | cont => exact False.elim hq
theorem rel_ni {v : V} {u : Value} (r : RelV v u) : u ≠ .notImplemented := by
  intro z
  subst z
  cases v with
  | int i => obtain ⟨t, q⟩ := (show ∃ t, Value.notImplemented = Value.int i t from r); cases q
  | str i => obtain ⟨t, q⟩ := (show ∃ t, Value.notImplemented = Value.str i t from r); cases q
  | byt i => obtain ⟨t, q⟩ := (show ∃ t, Value.notImplemented = Value.bytes i t from r); cases q
  | flt i => obtain ⟨t, q⟩ := (show ∃ t, Value.notImplemented = Value.float i t from r); cases q
  | non => exact Value.noConfusion r
  | bl b => exact Value.noConfusion r
  | ref b => exact Value.noConfusion r
  | ty b => exact Value.noConfusion r
theorem back_of {v : Value} {s : Shared} {Q : Value → Shared → Prop} (n : v ≠ .notImplemented) (q : Q v s) : PySem.W.CmpBack Q v s := by
  cases v <;> first | exact q | exact absurd rfl n
/-- a value's class, as operators ask for it -/
inductive TyN (K : PySem.W.Frag) (C : Addr) (H : Hp) : V → Value → Prop where
  | base {x : V} {n : String} (h : TyX K H x (.type n)) : TyN K C H x (.type n)
  | ins {a : Addr} {dx : Addr} {fs : List (Str × V)} (e : H a = some (.ins C dx fs)) : TyN K C H (.ref a) (.ref C)
theorem TyN.looks {X : Cx} {pins : List (Addr × Obj)} {s : Shared} {σ : St} {H : Hp} {C : Addr} {x : V} {u t : Value} (I : Inv X pins σ H s) (rx : RelV x u) (ty : TyN X.K C H x t) : PySem.W.Looks (model X.prog X.w) s.heap (typeOf u) t := by
  cases ty with
  | base b =>
    obtain ⟨P, k, hp, _⟩ := kit_of I rx b
    exact k.ty _ _ I.kIn hp
  | ins e =>
    cases (show u = Value.ref _ from rx)
    obtain ⟨od, J⟩ := inst_of I e
    exact J.type
/-- x op y by the own function of x's class: the reading -/
def rOwn (K : PySem.W.Frag) (C : Addr) (tys : List String) (sp : Sp) : R2 := fun x y H Q => ∃ a dx fs t, x = .ref a ∧ H a = some (.ins C dx fs) ∧ TyN K C H y t ∧ (t = .ref C ∨ ∃ n ∈ tys, t = .type n) ∧ sp [x, y] H Q fun _ _ _ => False
theorem op_ownCmp {X : Cx} {op : CmpOp} {k : Nat} {f C : Addr} {fd : FuncData} {ps : List Str} {sp : Sp} {tys : List String} (ho : compareOp op = richCompare op) (F : FnOk X.prog X.w X.K X.mg X.base CX0 k f fd ps sp) (hr : Room k X.A) (hb : Binds X.K fd ps [])
    (hs : PySem.W.findIn X.K (.ref C) (cmpInfo op).2.1 = some (some (.ref f))) (hf : PySem.W.isFn X.K (.ref f) = true) (hn : ∀ n ∈ tys, PySem.W.notFirst X.K C (.type n) = true) : OpR X (compareOp op) (rOwn X.K C tys sp) := by
  intro pins s σ H x y v u Q I rx ry hq
  obtain ⟨a, dx, fs, t, rfl, ea, ty, ht, h⟩ := hq
  cases (show v = Value.ref a from rx)
  obtain ⟨od, J⟩ := inst_of I ea
  obtain ⟨m, hF⟩ := I.fr
  rw [ho]
  refine PySem.W.cmp_K (op := op) (tb := t) hr.units0 hF I.ok.mod.kin J (ty.looks I ry) ?_ hs hf ?_
  · rcases ht with rfl | ⟨n, hm, rfl⟩
    · simp [PySem.W.notFirst]
    · exact hn n hm
  · refine wpAny_mono (run_own F ⟨hr, rfl⟩ hb I (.cons rx (.cons ry .nil)) h) (fun r s' q => ?_) fun _ _ e => e
    obtain ⟨z, H', I', rz, q⟩ := q
    exact back_of (rel_ni rz) ⟨z, H', I', rz, q⟩
/-- x op y, both of one class -/
def rOwn2 (C : Addr) (sp : Sp) : R2 := fun x y H Q => ∃ a dx fs b dy gs, x = .ref a ∧ H a = some (.ins C dx fs) ∧ y = .ref b ∧ H b = some (.ins C dy gs) ∧ sp [x, y] H Q fun _ _ _ => False
theorem op_ownBin {X : Cx} {op : Operator} {k : Nat} {f C : Addr} {fd : FuncData} {ps : List Str} {sp : Sp} (F : FnOk X.prog X.w X.K X.mg X.base CX0 k f fd ps sp) (hr : Room k X.A) (hb : Binds X.K fd ps [])
    (hc : PySem.W.selfFirst X.K C = true) (hs : PySem.W.findIn X.K (.ref C) (PySem.dunder op.info.2) = some (some (.ref f))) (hf : PySem.W.isFn X.K (.ref f) = true) : OpR X (binaryOp op) (rOwn2 C sp) := by
  intro pins s σ H x y v u Q I rx ry hq
  obtain ⟨a, dx, fs, b, dy, gs, rfl, ea, rfl, eb, h⟩ := hq
  cases (show v = Value.ref a from rx)
  cases (show u = Value.ref b from ry)
  obtain ⟨od, J⟩ := inst_of I ea
  obtain ⟨od', J'⟩ := inst_of I eb
  obtain ⟨m, hF⟩ := I.fr
  refine PySem.W.binop_K (op := op) hF I.ok.mod.kin J J'.type hc hs hf ?_
  refine wpAny_mono (run_own F ⟨hr, rfl⟩ hb I (.cons rx (.cons ry .nil)) h) (fun r s' q => ?_) fun _ _ e => e
  obtain ⟨z, H', I', rz, q⟩ := q
  exact back_of (rel_ni rz) ⟨z, H', I', rz, q⟩
end EL
namespace EL
open PySem PySem.Spec L2
open PyProof.Rows hiding St

/-! ### !=, subscripts, len, in by a class's own functions -/
section
variable {prog : Program} {w : World} {A : Around} {E : Value → Shared → Prop} {s : Shared} {K : PySem.W.Frag} {x C f : Addr} {ox : Obj} {od : Option Obj} {tb b : Value}
/-- a comparison whose first attempt gives the answer -/
theorem cmp_by {op : CmpOp} {Q : Value → Shared → Prop} (hu : A.units < cLine) (X : K.In s.heap) (I : PySem.W.InstAt s.heap x ox C od) (tyb : PySem.W.Looks (model prog w) s.heap (typeOf b) tb) (hn : PySem.W.notFirst K C tb = true)
    (one : wpAny (model prog w) A (tryCompare (.ref x) (cmpInfo op).2.1 b) (fun r s' => ∃ v, r = some v ∧ Q v s') E s) : wpAny (model prog w) A (richCompare op (.ref x) b) Q E s := by
  have fin : ∀ (r : Option Value) (s' : Shared), (∃ v, r = some v ∧ Q v s') → ∃ v, r = some v ∧ Q v s' := fun _ _ z => z
  simp only [richCompare, oneThing_ref]
  apply wpAny_holding
  apply wpAny_bind
  apply wpAny_cRoomFor hu
  apply wpAny_bind
  apply I.type.here
  apply wpAny_bind
  apply tyb.here
  split
  · rename_i q
    have e : PySem.W.subIn K tb (.ref C) = some false := by
      unfold PySem.W.notFirst at hn
      cases z : (tb == Value.ref C) with
      | true => rw [beq_iff_eq.mp z] at q; simp at q
      | false => rw [z, Bool.false_or] at hn; exact beq_iff_eq.mp hn
    apply wpAny_bind
    apply (PySem.W.looks_subIn X e).here
    simp only [Bool.false_eq_true, if_false]
    apply wpAny_bind
    refine wpAny_mono one ?_ fun _ _ e => e
    rintro r s' ⟨v, rfl, hq⟩
    exact wpAny_pure hq
  · apply wpAny_bind
    apply wpAny_pure
    simp only [Bool.false_eq_true, if_false]
    apply wpAny_bind
    refine wpAny_mono one ?_ fun _ _ e => e
    rintro r s' ⟨v, rfl, hq⟩
    exact wpAny_pure hq
/-- x != b, where only == is the class's own -/
theorem ne_by {Q : Value → Shared → Prop} (hu : A.units + 1 < cLine) (X : K.In s.heap) (I : PySem.W.InstAt s.heap x ox C od) (tyb : PySem.W.Looks (model prog w) s.heap (typeOf b) tb) (hn : PySem.W.notFirst K C tb = true)
    (hs : PySem.W.findIn K (.ref C) "__eq__" = some (some (.ref f))) (hf : PySem.W.isFn K (.ref f) = true) (hne : PySem.W.findIn K (.ref C) "__ne__" = some (some (.builtin "object.__ne__"))) (hm : PySem.W.mroIn K C (.type "object") = some true)
    (h : wpAny (model prog w) A.in1 (call (.ref f) [.ref x, b]) (fun r s' => ∃ k, r = .bool k ∧ Q (.bool (!k)) s') E s) : wpAny (model prog w) A (richCompare .NotEq (.ref x) b) Q E s := by
  refine cmp_by (by omega) X I tyb hn ?_
  show wpAny _ _ (tryCompare (.ref x) "__ne__" b) _ _ _
  simp only [tryCompare]
  refine wpAny_bind (NtL.csib (id := "object.__ne__") (I.type.andThen (PySem.W.looks_findIn X hne)) (PySem.F.cmp_object.ne.bind _) ?_)
  refine wpAny_call (codeAny_call_builtin PySem.F.cmp_object.ne.plain PySem.F.cmpEntry_ne (PySem.W.check_slot (i := "object.__ne__") (owner := "object") (n := "__ne__") PySem.F.cmpKind_ne PySem.F.cmpSplit_ne (I.type.andThen (PySem.W.looks_mroIn X hm)) (PySem.F.cmpArgs_ne _ _) ?_))
  unfold Builtin.«object.__ne__»
  refine wpAny_bind (m := slotArgs "__ne__" 1 _) (wpAny_pure ?_)
  refine wpAny_bind (m := cRoomFor _ _) (wpAny_cRoomFor hu ?_)
  refine wpAny_bind (m := callSpecialIfBound? (.ref x) (Str.ofString "__eq__") _) (PySem.W.ifBound_K X I hs hf (wpAny_mono h (fun r s' hq => ?_) fun _ _ y => y))
  obtain ⟨k, rfl, hq⟩ := hq
  refine wpAny_bind (wpAny_truthy_bool ?_)
  exact wpAny_pure (wpAny_pure ⟨_, rfl, hq⟩)
end
/-- x != y: the reading -/
def rOwnNe (K : PySem.W.Frag) (C : Addr) (tys : List String) (sp : Sp) : R2 := fun x y H Q => ∃ a dx fs t, x = .ref a ∧ H a = some (.ins C dx fs) ∧ TyN K C H y t ∧ (t = .ref C ∨ ∃ n ∈ tys, t = .type n) ∧ sp [x, y] H (fun z H' => ∃ k, z = .bl k ∧ Q (.bl (!k)) H') fun _ _ _ => False
theorem op_ownNe {X : Cx} {k : Nat} {f C : Addr} {fd : FuncData} {ps : List Str} {sp : Sp} {tys : List String} (F : FnOk X.prog X.w X.K X.mg X.base CX0 k f fd ps sp) (hr : Room (k + 1) X.A) (hb : Binds X.K fd ps [])
    (hs : PySem.W.findIn X.K (.ref C) "__eq__" = some (some (.ref f))) (hf : PySem.W.isFn X.K (.ref f) = true) (hne : PySem.W.findIn X.K (.ref C) "__ne__" = some (some (.builtin "object.__ne__"))) (hm : PySem.W.mroIn X.K C (.type "object") = some true)
    (hn : ∀ n ∈ tys, PySem.W.notFirst X.K C (.type n) = true) : OpR X (compareOp .NotEq) (rOwnNe X.K C tys sp) := by
  intro pins s σ H x y v u Q I rx ry hq
  obtain ⟨a, dx, fs, t, rfl, ea, ty, ht, h⟩ := hq
  cases (show v = Value.ref a from rx)
  obtain ⟨od, J⟩ := inst_of I ea
  show wpAny (model X.prog X.w) X.A (richCompare .NotEq (.ref a) u) (EP X pins σ Q) X.xe s
  refine ne_by (by have := hr.un; omega) I.kIn J (ty.looks I ry) ?_ hs hf hne hm ?_
  · rcases ht with rfl | ⟨n, hm, rfl⟩
    · simp [PySem.W.notFirst]
    · exact hn n hm
  · refine wpAny_mono (run_own F (Sub.in1 ⟨hr, rfl⟩) hb I (.cons rx (.cons ry .nil)) h) (fun r s' q => ?_) fun _ _ e => e
    obtain ⟨z, H', I', rz, kk, rfl, q⟩ := q
    cases (show r = Value.bool kk from rz)
    exact ⟨kk, rfl, .bl (!kk), H', I', rfl, q⟩
/-- x[y] by the own function -/
def rOwnIx (C : Addr) (sp : Sp) : R2 := fun x y H Q => ∃ a dx fs, x = .ref a ∧ H a = some (.ins C dx fs) ∧ sp [x, y] H Q fun _ _ _ => False
theorem ix_own {X : Cx} {k : Nat} {f C : Addr} {fd : FuncData} {ps : List Str} {sp : Sp} (F : FnOk X.prog X.w X.K X.mg X.base CX0 k f fd ps sp) (hr : Room (k + 1) X.A) (hb : Binds X.K fd ps [])
    (hs : PySem.W.findIn X.K (.ref C) "__getitem__" = some (some (.ref f))) (hf : PySem.W.fnIn X.K f = true) (hfn : PySem.W.isFn X.K (.ref f) = true) {slice : Expr} (hsl : ∀ o i, subscripted slice true o i = runValue (.builtin "lifetime.subscript" ⟨[o, i], []⟩)) :
    ∀ (value : Expr) (pins : List (Addr × Obj)) (s : Shared) (σ : St) (H : Hp) (x y : V) (v u : Value) (Q : VK), Inv X pins σ H s → RelV x v → RelV y u → rOwnIx C sp x y H Q → wpAny (model X.prog X.w) X.A (subscriptTail value slice v u) (EP X pins σ Q) X.xe s := by
  intro value pins s σ H x y v u Q I rx ry hq
  obtain ⟨a, dx, fs, rfl, ea, h⟩ := hq
  cases (show v = Value.ref a from rx)
  obtain ⟨od, J⟩ := inst_of I ea
  obtain ⟨m, hF⟩ := I.fr
  exact PySem.W.sub_K hF I.ok.mod.kin J hs hf hfn (run_own F (Sub.in1 ⟨hr, rfl⟩) hb I (.cons rx (.cons ry .nil)) h) (hsl _ _)
/-- x[y] = z by the own function -/
def rOwnSet (C : Addr) (sp : Sp) : TSet := fun o i v H Q => ∃ a dx fs, o = .ref a ∧ H a = some (.ins C dx fs) ∧ sp [o, i, v] H (fun _ H' => Q H') fun _ _ _ => False
theorem set_own {X : Cx} {k : Nat} {f C : Addr} {fd : FuncData} {ps : List Str} {sp : Sp} (F : FnOk X.prog X.w X.K X.mg X.base CX0 k f fd ps sp) (hr : Room k X.A) (hb : Binds X.K fd ps [])
    (hq : PySem.W.noSeq X.K C = true) (hs : PySem.W.findIn X.K (.ref C) "__setitem__" = some (some (.ref f))) (hf : PySem.W.isFn X.K (.ref f) = true) : PSet X (rOwnSet C sp) := by
  intro pins s σ H o i v ov iv u Q I ro ri rv h
  obtain ⟨a, dx, fs, rfl, ea, h⟩ := h
  cases (show ov = Value.ref a from ro)
  obtain ⟨od, J⟩ := inst_of I ea
  obtain ⟨m, hF⟩ := I.fr
  refine PySem.W.ksp_setItem hF I.ok.mod.kin J hq hs hf (wpAny_mono (run_own F ⟨hr, rfl⟩ hb I (.cons ro (.cons ri (.cons rv .nil))) h) (fun r s' q => ?_) fun _ _ e => e)
  obtain ⟨z, H', I', rz, q⟩ := q
  exact ⟨H', I', q⟩
/-- y in x by the own function -/
def rOwnIn (neg : Bool) (C : Addr) (sp : Sp) : R2 := fun y x H Q => ∃ a dx fs, x = .ref a ∧ H a = some (.ins C dx fs) ∧ sp [x, y] H (fun z H' => ∃ k, z = .bl k ∧ Q (.bl (neg != k)) H') fun _ _ _ => False
theorem op_ownIn {X : Cx} {k : Nat} {f C : Addr} {fd : FuncData} {ps : List Str} {sp : Sp} (F : FnOk X.prog X.w X.K X.mg X.base CX0 k f fd ps sp) (hr : Room k X.A) (hb : Binds X.K fd ps [])
    (hs : PySem.W.findIn X.K (.ref C) "__contains__" = some (some (.ref f))) (hf : PySem.W.isFn X.K (.ref f) = true) : OpR X (compareOp .In) (rOwnIn false C sp) := by
  intro pins s σ H y x u v Q I ry rx hq
  obtain ⟨a, dx, fs, rfl, ea, h⟩ := hq
  cases (show v = Value.ref a from rx)
  obtain ⟨od, J⟩ := inst_of I ea
  obtain ⟨m, hF⟩ := I.fr
  refine PySem.W.in_K hF I.ok.mod.kin J hs hf (wpAny_mono (run_own F ⟨hr, rfl⟩ hb I (.cons rx (.cons ry .nil)) h) (fun r s' q => ?_) fun _ _ e => e)
  obtain ⟨z, H', I', rz, kk, rfl, q⟩ := q
  cases (show r = Value.bool kk from rz)
  exact wpAny_truthy_bool ⟨.bl kk, H', I', rfl, by simpa using q⟩
theorem op_ownNotIn {X : Cx} {k : Nat} {f C : Addr} {fd : FuncData} {ps : List Str} {sp : Sp} (F : FnOk X.prog X.w X.K X.mg X.base CX0 k f fd ps sp) (hr : Room k X.A) (hb : Binds X.K fd ps [])
    (hs : PySem.W.findIn X.K (.ref C) "__contains__" = some (some (.ref f))) (hf : PySem.W.isFn X.K (.ref f) = true) : OpR X (compareOp .NotIn) (rOwnIn true C sp) := by
  intro pins s σ H y x u v Q I ry rx hq
  obtain ⟨a, dx, fs, rfl, ea, h⟩ := hq
  cases (show v = Value.ref a from rx)
  obtain ⟨od, J⟩ := inst_of I ea
  obtain ⟨m, hF⟩ := I.fr
  refine PySem.W.notIn_K hF I.ok.mod.kin J hs hf (wpAny_mono (run_own F ⟨hr, rfl⟩ hb I (.cons rx (.cons ry .nil)) h) (fun r s' q => ?_) fun _ _ e => e)
  obtain ⟨z, H', I', rz, kk, rfl, q⟩ := q
  cases (show r = Value.bool kk from rz)
  exact wpAny_truthy_bool ⟨.bl (!kk), H', I', rfl, by simpa using q⟩
/-- len(x) by the own function -/
def rOwnLen (C : Addr) (sp : Sp) : List V → Hp → VK → Prop := fun xs H Q => ∃ a dx fs, xs = [.ref a] ∧ H a = some (.ins C dx fs) ∧ sp [.ref a] H (fun z H' => ∃ n : Nat, z = .int n ∧ n < 2 ^ 62 ∧ Q (.int n) H') fun _ _ _ => False
end EL
namespace EL
open PySem PySem.Spec L2
open PyProof.Rows hiding St

/-! ### a class's operators, by the plain values -/
def insB (h : Hw) (x : W) (C : Str) : Bool := match x with
  | .ref p => match h[p]? with
    | some (.ins D _) => decide (D = C)
    | _ => false
  | _ => false
def tyIn (h : Hw) (y : W) (tys : List String) : Bool := match tyName h y with
  | some n => tys.contains n
  | none => false
def fOwn (C : Str) (tys : List String) (f : List W → M W) : W → W → M W := fun x y h => if (insB h x C && (insB h y C || tyIn h y tys)) = true then f [x, y] h else .no
def fOwnNe (C : Str) (tys : List String) (f : List W → M W) : W → W → M W := fun x y => bnd (fOwn C tys f x y) fun z => match z with
  | .bl b => rtn (.bl (!b))
  | _ => bad
def fOwnIx (C : Str) (f : List W → M W) : W → W → M W := fun x y h => if insB h x C = true then f [x, y] h else .no
def fOwnIn (neg : Bool) (C : Str) (f : List W → M W) : W → W → M W := fun y x h => if insB h x C = true then bnd (f [x, y]) (fun z => match z with
  | .bl b => rtn (.bl (neg != b))
  | _ => bad) h else .no
def bLenO (C : Str) (f : List W → M W) : List W → M W
  | [x] => fun h => if insB h x C = true then bnd (f [x]) (fun z => match z with
    | .int n => if 0 ≤ n ∧ n < 4611686018427387904 then rtn (.int n) else bad
    | _ => bad) h else .no
  | _ => bad
section
variable {K : PySem.W.Frag} {cm : Cm} {ρ : List Addr} {h h' : Hw} {H : Hp}
theorem insB_of {x : W} {v : V} {C : Str} (rh : RelH K cm ρ h H) (r : Rel K ρ H x v) (e : insB h x C = true) : ∃ p a dx fv, x = .ref p ∧ v = .ref a ∧ ρ[p]? = some a ∧ H a = some (.ins (cm C) dx fv) := by
  unfold insB at e
  split at e
  · rename_i p
    split at e
    · rename_i D fs hp
      obtain ⟨p', a, dx, fs', fv, e1, e2, e3, e4, e5, _⟩ := ins_of (C := C) (P := fun _ => True) rh r ⟨p, D, fs, rfl, hp, of_decide_eq_true e, trivial⟩
      exact ⟨p', a, dx, fv, e1, e2, e3, e5⟩
    · cases e
  · cases e
theorem tyIn_of {y : W} {v : V} {C : Str} {tys : List String} (rh : RelH K cm ρ h H) (r : Rel K ρ H y v) (e : (insB h y C || tyIn h y tys) = true) : ∃ t, TyN K (cm C) H v t ∧ (t = .ref (cm C) ∨ ∃ n ∈ tys, t = .type n) := by
  rcases Bool.or_eq_true_iff.mp e with e | e
  · obtain ⟨p, a, dx, fv, rfl, rfl, _, ea⟩ := insB_of rh r e
    exact ⟨_, .ins ea, .inl rfl⟩
  · unfold tyIn at e
    split at e
    · rename_i n hn
      exact ⟨_, .base (tyX_of rh r hn), .inr ⟨n, by simpa using e, rfl⟩⟩
    · cases e
end
section
variable {X : Cx} {cm : Cm} {C : Str} {f : List W → M W} {tys : List String}
theorem own2 {ρ : List Addr} {h h' : Hw} {H : Hp} {ws : List W} {vs : List V} {z : W} {Q : VK} {E : XK} (rh : RelH X.K cm ρ h H) (r : Rels X.K ρ H ws vs) (e : f ws h = .ok z h') (k : KE X.K cm ρ H z h' Q) : spM X.K cm f vs H Q E :=
  ⟨ρ, h, ws, z, h', rh, r, e, k⟩
theorem wOwn : OpW X.K cm (rOwn X.K (cm C) tys (spM X.K cm f)) (fOwn C tys f) := by
  intro ρ h H x y x' y' z h' Q rh rx ry e k
  unfold fOwn at e
  split at e
  · rename_i q
    obtain ⟨q1, q2⟩ := Bool.and_eq_true_iff.mp q
    obtain ⟨p, a, dx, fv, rfl, rfl, hp, ea⟩ := insB_of rh rx q1
    obtain ⟨t, ty, ht⟩ := tyIn_of rh ry q2
    exact ⟨a, dx, fv, t, rfl, ea, ty, ht, own2 rh (.cons rx (.cons ry .nil)) e k⟩
  · cases e
theorem wOwn2 : OpW X.K cm (rOwn2 (cm C) (spM X.K cm f)) (fOwn C [] f) := by
  intro ρ h H x y x' y' z h' Q rh rx ry e k
  unfold fOwn at e
  split at e
  · rename_i q
    obtain ⟨q1, q2⟩ := Bool.and_eq_true_iff.mp q
    obtain ⟨p, a, dx, fv, rfl, rfl, hp, ea⟩ := insB_of rh rx q1
    have q3 : insB h y C = true := by
      unfold tyIn at q2
      cases q4 : insB h y C with
      | true => rfl
      | false =>
        rw [q4, Bool.false_or] at q2
        split at q2 <;> simp at q2
    obtain ⟨p2, b, dy, gv, rfl, rfl, hp2, eb⟩ := insB_of rh ry q3
    exact ⟨a, dx, fv, b, dy, gv, rfl, ea, rfl, eb, own2 rh (.cons rx (.cons ry .nil)) e k⟩
  · cases e
theorem wOwnNe : OpW X.K cm (rOwnNe X.K (cm C) tys (spM X.K cm f)) (fOwnNe C tys f) := by
  intro ρ h H x y x' y' z h' Q rh rx ry e k
  obtain ⟨b, h1, e1, e2⟩ := bnd_ok e
  unfold fOwn at e1
  split at e1
  · rename_i q
    obtain ⟨q1, q2⟩ := Bool.and_eq_true_iff.mp q
    obtain ⟨p, a, dx, fv, rfl, rfl, hp, ea⟩ := insB_of rh rx q1
    obtain ⟨t, ty, ht⟩ := tyIn_of rh ry q2
    refine ⟨a, dx, fv, t, rfl, ea, ty, ht, own2 rh (.cons rx (.cons ry .nil)) e1 fun ρ1 H1 v l1 rh1 rv => ?_⟩
    cases b with
    | bl b =>
      cases rv
      cases e2
      exact ⟨b, rfl, k ρ1 H1 _ l1 rh1 (.bl _)⟩
    | _ => cases e2
  · cases e1
theorem wOwnIn {neg : Bool} : OpW X.K cm (rOwnIn neg (cm C) (spM X.K cm f)) (fOwnIn neg C f) := by
  intro ρ h H y x y' x' z h' Q rh ry rx e k
  unfold fOwnIn at e
  split at e
  · rename_i q
    obtain ⟨p, a, dx, fv, rfl, rfl, hp, ea⟩ := insB_of rh rx q
    obtain ⟨b, h1, e1, e2⟩ := bnd_ok e
    refine ⟨a, dx, fv, rfl, ea, own2 rh (.cons rx (.cons ry .nil)) e1 fun ρ1 H1 v l1 rh1 rv => ?_⟩
    cases b with
    | bl b =>
      cases rv
      cases e2
      exact ⟨b, rfl, k ρ1 H1 _ l1 rh1 (.bl _)⟩
    | _ => cases e2
  · cases e
theorem wOwnIx : OpW X.K cm (rOwnIx (cm C) (spM X.K cm f)) (fOwnIx C f) := by
  intro ρ h H x y x' y' z h' Q rh rx ry e k
  unfold fOwnIx at e
  split at e
  · rename_i q
    obtain ⟨p, a, dx, fv, rfl, rfl, hp, ea⟩ := insB_of rh rx q
    exact ⟨a, dx, fv, rfl, ea, own2 rh (.cons rx (.cons ry .nil)) e k⟩
  · cases e
/-- a[b] of an instance -/
theorem re_ixO {k : Nat} {g : Addr} {fd : FuncData} {ps : List Str} {a b : Expr} {ma mb : ME} {pos : Pos} (F : FnOk X.prog X.w X.K X.mg X.base CX0 k g fd ps (spM X.K cm f)) (hr : Room (k + 1) X.A) (hb : Binds X.K fd ps [])
    (hs : PySem.W.findIn X.K (.ref (cm C)) "__getitem__" = some (some (.ref g))) (hf : PySem.W.fnIn X.K g = true) (hfn : PySem.W.isFn X.K (.ref g) = true) (ra : RE X cm a ma) (rb : RE X cm b mb)
    (hsl : ∀ o i, subscripted b true o i = runValue (.builtin "lifetime.subscript" ⟨[o, i], []⟩) := by exact fun _ _ => rfl) : RE X cm (.Subscript a b pos) (mBin (fOwnIx C f) ma mb) := by
  refine peM (t := tOp (rOwnIx (cm C) (spM X.K cm f)) (tE X.K cm ma) (tE X.K cm mb)) ⟨fun pins s σ H Q I q => ?_⟩ fun _ _ _ => op_tE wOwnIx
  exact Subscript_ (binT ra rb I q fun v u s2 x y H2 I2 rx ry q => ix_own F hr hb hs hf hfn hsl a pins s2 σ H2 x y v u Q I2 rx ry q)
def gSubO (C : Str) (f : List W → M W) (mo mi : ME) : MG := fun w sw => bnd (mo sw) fun o => bnd (mi sw) fun i => bnd (fun h => if insB h o C = true then f [o, i, w] h else .no) fun _ => rtn sw
theorem rg_subO {k : Nat} {g : Addr} {fd : FuncData} {ps : List Str} {o i : Expr} {mo mi : ME} {pos : Pos} {vs : List Nat} (F : FnOk X.prog X.w X.K X.mg X.base CX0 k g fd ps (spM X.K cm f)) (hr : Room k X.A) (hb : Binds X.K fd ps [])
    (hq : PySem.W.noSeq X.K (cm C) = true) (hs : PySem.W.findIn X.K (.ref (cm C)) "__setitem__" = some (some (.ref g))) (hf : PySem.W.isFn X.K (.ref g) = true) (ho : RE X cm o mo) (hi : RE X cm i mi)
    (ha : ∀ v, assign (.Subscript o i pos) X.env v = (do
      let ov ← holding [v] (eval o X.env)
      let iv ← holding [v, ov] (eval i X.env)
      standAt pos
      holding [v, ov, iv] (setItem ov iv v)
      release [v, ov, iv] []) := by intro _; rfl) : RG X cm vs (.Subscript o i pos) (gSubO C f mo mi) := by
  refine pgM (pg_sub ho hi (set_own F hr hb hq hs hf) ha) fun v σ H Q q => ?_
  obtain ⟨ρ, h, sw, w, s, h', rh, rs, rw', e, k⟩ := q
  obtain ⟨x, h1, e1, e2⟩ := bnd_ok e
  obtain ⟨y, h2, e3, e4⟩ := bnd_ok e2
  obtain ⟨u, h3, e5, e6⟩ := bnd_ok e4
  cases e6
  refine ⟨ρ, h, sw, x, h1, rh, rs, e1, fun ρ1 H1 x' l1 rh1 rx => ?_⟩
  refine ⟨ρ1, h1, sw, y, h2, rh1, rs.mono l1, e3, fun ρ2 H2 y' l2 rh2 ry => ?_⟩
  split at e5
  · rename_i q
    obtain ⟨p, a, dx, fv, rfl, rfl, hp, ea⟩ := insB_of rh2 (rx.mono l2) q
    refine ⟨a, dx, fv, rfl, ea, own2 rh2 (.cons (rx.mono l2) (.cons ry (.cons ((rw'.mono l1).mono l2) .nil))) e5 fun ρ3 H3 v3 l3 rh3 rv3 => ?_⟩
    exact k ρ3 H3 σ .refl (l1.trans (l2.trans l3)) rh3 (rs.mono (l1.trans (l2.trans l3)))
  · cases e5
theorem wLenO : CallW X.K cm (rOwnLen (cm C) (spM X.K cm f)) (bLenO C f) := by
  intro ρ h H ws vs z h' Q rh rw e k
  cases rw with
  | nil => cases e
  | cons r t =>
    cases t with
    | cons _ _ => cases e
    | nil =>
      have e' : (if insB h _ C = true then bnd (f [_]) (fun z => match z with
        | .int n => if 0 ≤ n ∧ n < 4611686018427387904 then rtn (.int n) else bad
        | _ => bad) h else EL.R.no) = .ok z h' := e
      split at e'
      · rename_i q
        obtain ⟨p, a, dx, fv, rfl, rfl, hp, ea⟩ := insB_of rh r q
        obtain ⟨b, h1, e1, e2⟩ := bnd_ok e'
        refine ⟨a, dx, fv, rfl, ea, own2 rh (.cons r .nil) e1 fun ρ1 H1 v l1 rh1 rv => ?_⟩
        cases b with
        | int n =>
          cases rv
          have e2' : (if 0 ≤ n ∧ n < 4611686018427387904 then rtn (W.int n) else bad) h1 = .ok z h' := e2
          split at e2'
          · rename_i hn
            cases e2'
            exact ⟨n.toNat, by rw [Int.toNat_of_nonneg hn.1], by omega, by rw [Int.toNat_of_nonneg hn.1]; exact k ρ1 H1 _ l1 rh1 (.int n)⟩
          · cases e2'
        | _ => cases e2
      · cases e'
theorem cr_lenO {k : Nat} {g : Addr} {fd : FuncData} {ps : List Str} {D : Addr} {sp : Sp} (F : FnOk X.prog X.w X.K X.mg X.base CX0 k g fd ps sp) (hr : Room (k + 1) X.A) (hb : Binds X.K fd ps [])
    (hs : PySem.W.findIn X.K (.ref D) "__len__" = some (some (.ref g))) (hf : PySem.W.isFn X.K (.ref g) = true) : CallR X (.builtin "len") (rOwnLen D sp) := by
  intro pins s σ H xs us Q I r h
  obtain ⟨a, dx, fs, rfl, ea, h⟩ := h
  obtain ⟨u, rfl, rx⟩ := vals1 r
  cases (show u = Value.ref a from rx)
  obtain ⟨od, J⟩ := inst_of I ea
  obtain ⟨m, hF⟩ := I.fr
  refine PySem.W.len_K hF I.ok.mod.kin J hs hf (wpAny_mono (run_own F (Sub.in1 ⟨hr, rfl⟩) hb I (.cons rx .nil) h) (fun r s' q => ?_) fun _ _ e => e)
  obtain ⟨z, H', I', rz, n, rfl, hn, q⟩ := q
  obtain ⟨t, rfl⟩ := (show ∃ t, r = Value.int n t from rz)
  exact ⟨⟨by omega, by omega⟩, .int n, H', I'.tok _, ⟨_, rfl⟩, q⟩
end
end EL
namespace EL
open PySem PySem.Spec L2
open PyProof.Rows hiding St

/-! ### dicts by values -/
def valW {κ : Type} [DecidableEq κ] (kvs : List (κ × W)) (k : κ) : Option W := (kvs.find? fun kv => decide (kv.1 = k)).map (·.2)
def putKW {κ : Type} [DecidableEq κ] (kvs : List (κ × W)) (k : κ) (w : W) : List (κ × W) := if (kvs.any fun kv => decide (kv.1 = k)) = true then kvs.map (fun kv => if kv.1 = k then (kv.1, w) else kv) else kvs ++ [(k, w)]
def dropKW {κ : Type} [DecidableEq κ] (kvs : List (κ × W)) (k : κ) : List (κ × W) := kvs.filter fun kv => decide (kv.1 ≠ k)
def mergeKW (kvs more : List (Key × W)) : List (Key × W) := more.foldl (fun acc kv => putKW acc kv.1 kv.2) kvs
/-- two lists of pairs, key by key -/
inductive KVs {κ : Type} (K : PySem.W.Frag) (ρ : List Addr) (H : Hp) : List (κ × W) → List (κ × V) → Prop where
  | nil : KVs K ρ H [] []
  | cons {k : κ} {w : W} {v : V} {ws : List (κ × W)} {vs : List (κ × V)} (r : Rel K ρ H w v) (t : KVs K ρ H ws vs) : KVs K ρ H ((k, w) :: ws) ((k, v) :: vs)
section
variable {κ : Type} {K : PySem.W.Frag} {ρ ρ' : List Addr} {H H' : Hp} {kvs : List (κ × W)} {kv : List (κ × V)}
theorem KVs.of : ∀ {kvs : List (κ × W)} {kv : List (κ × V)}, kv.map (·.1) = kvs.map (·.1) → Rels K ρ H (kvs.map (·.2)) (kv.map (·.2)) → KVs K ρ H kvs kv
  | [], [], _, _ => .nil
  | [], _ :: _, e, _ => by cases e
  | _ :: _, [], e, _ => by cases e
  | (k, w) :: ws, (k', v) :: vs, e, r => by
    have e1 : k' = k := (List.cons.inj e).1
    subst e1
    cases r with
    | cons r t => exact .cons r (KVs.of (List.cons.inj e).2 t)
theorem KVs.keys : ∀ {kvs : List (κ × W)} {kv : List (κ × V)}, KVs K ρ H kvs kv → kv.map (·.1) = kvs.map (·.1)
  | _, _, .nil => rfl
  | _, _, .cons _ t => by rw [List.map_cons, List.map_cons, KVs.keys t]
theorem KVs.rels : ∀ {kvs : List (κ × W)} {kv : List (κ × V)}, KVs K ρ H kvs kv → Rels K ρ H (kvs.map (·.2)) (kv.map (·.2))
  | _, _, .nil => .nil
  | _, _, .cons r t => .cons r (KVs.rels t)
theorem KVs.mono (l : Le K ρ H ρ' H') : ∀ {kvs : List (κ × W)} {kv : List (κ × V)}, KVs K ρ H kvs kv → KVs K ρ' H' kvs kv
  | _, _, .nil => .nil
  | _, _, .cons r t => .cons (r.mono l) (KVs.mono l t)
theorem KVs.length : ∀ {kvs : List (κ × W)} {kv : List (κ × V)}, KVs K ρ H kvs kv → kvs.length = kv.length
  | _, _, .nil => rfl
  | _, _, .cons _ t => by rw [List.length_cons, List.length_cons, KVs.length t]
variable [DecidableEq κ]
theorem KVs.val (k : κ) : ∀ {kvs : List (κ × W)} {kv : List (κ × V)}, KVs K ρ H kvs kv → (valW kvs k = none ∧ valV kv k = none) ∨ ∃ w v, valW kvs k = some w ∧ valV kv k = some v ∧ Rel K ρ H w v
  | _, _, .nil => .inl ⟨rfl, rfl⟩
  | _, _, .cons (k := k') (w := w) (v := v) r t => by
    by_cases e : k' = k
    · refine .inr ⟨w, v, ?_, ?_, r⟩
      · simp [valW, List.find?_cons, e]
      · exact valV_pos e
    · have e1 : ∀ ws : List (κ × W), valW ((k', w) :: ws) k = valW ws k := fun ws => by simp [valW, List.find?_cons, e]
      rw [e1, valV_neg e]
      exact KVs.val k t
theorem KVs.any (k : κ) : ∀ {kvs : List (κ × W)} {kv : List (κ × V)}, KVs K ρ H kvs kv → (kv.any fun p => decide (p.1 = k)) = (kvs.any fun p => decide (p.1 = k))
  | _, _, .nil => rfl
  | _, _, .cons _ t => by rw [List.any_cons, List.any_cons, KVs.any k t]
theorem KVs.repl (k : κ) {w : W} {v : V} (q : Rel K ρ H w v) : ∀ {kvs : List (κ × W)} {kv : List (κ × V)}, KVs K ρ H kvs kv → KVs K ρ H (kvs.map fun p => if p.1 = k then (p.1, w) else p) (kv.map fun p => if p.1 = k then (p.1, v) else p)
  | _, _, .nil => .nil
  | _, _, .cons (k := k') r t => by
    rw [List.map_cons, List.map_cons]
    by_cases e : k' = k
    · rw [if_pos e, if_pos e]
      exact .cons q (KVs.repl k q t)
    · rw [if_neg e, if_neg e]
      exact .cons r (KVs.repl k q t)
theorem KVs.append {ws2 : List (κ × W)} {vs2 : List (κ × V)} (b : KVs K ρ H ws2 vs2) : ∀ {kvs : List (κ × W)} {kv : List (κ × V)}, KVs K ρ H kvs kv → KVs K ρ H (kvs ++ ws2) (kv ++ vs2)
  | _, _, .nil => b
  | _, _, .cons r t => .cons r (KVs.append b t)
theorem KVs.put (k : κ) {w : W} {v : V} (q : Rel K ρ H w v) (r : KVs K ρ H kvs kv) : KVs K ρ H (putKW kvs k w) (putK kv k v) := by
  unfold putKW putK
  rw [r.any k]
  split
  · exact r.repl k q
  · exact KVs.append (.cons q .nil) r
theorem KVs.drop (k : κ) : ∀ {kvs : List (κ × W)} {kv : List (κ × V)}, KVs K ρ H kvs kv → KVs K ρ H (dropKW kvs k) (dropK kv k)
  | _, _, .nil => .nil
  | _, _, .cons (k := k') (w := w) (v := v) (ws := ws) (vs := vs) r t => by
    have ih := KVs.drop k t
    unfold dropKW dropK at ih ⊢
    by_cases e : k' = k
    · rw [List.filter_cons_of_neg (by simp [e]), List.filter_cons_of_neg (by simp [e])]
      exact ih
    · rw [List.filter_cons_of_pos (by simp [e]), List.filter_cons_of_pos (by simp [e])]
      exact .cons r ih
end
theorem KVs.merge {K : PySem.W.Frag} {ρ : List Addr} {H : Hp} : ∀ {more : List (Key × W)} {moreV : List (Key × V)} {kvs : List (Key × W)} {kv : List (Key × V)}, KVs K ρ H more moreV → KVs K ρ H kvs kv → KVs K ρ H (mergeKW kvs more) (mergeK kv moreV)
  | _, _, _, _, .nil, b => b
  | _, _, _, _, .cons (k := k) r t, b => by
    have q := KVs.merge t (b.put k r)
    exact q
/-- a dict to be read, locked or not -/
def dOf (h : Hw) (x : W) : Option (List (Key × W)) := match x with
  | .ref p => match h[p]? with
    | some (.dK kvs) => some kvs
    | some (.dF kvs) => some kvs
    | _ => none
  | _ => none
/-- a dict to be written -/
def dMut (h : Hw) (x : W) : Option (Nat × List (Key × W)) := match x with
  | .ref p => match h[p]? with
    | some (.dK kvs) => some (p, kvs)
    | _ => none
  | _ => none
def keyW : W → Option Key
  | .int i => some (.inl i)
  | .str x => some (.inr x)
  | _ => none
section
variable {K : PySem.W.Frag} {cm : Cm} {ρ : List Addr} {h h' : Hw} {H : Hp}
theorem dOf_of {x : W} {v : V} {kvs : List (Key × W)} (rh : RelH K cm ρ h H) (r : Rel K ρ H x v) (e : dOf h x = some kvs) : ∃ p a kv, x = .ref p ∧ ρ[p]? = some a ∧ v = .ref a ∧ Rd H a (.dK kv) ∧ KVs K ρ H kvs kv := by
  unfold dOf at e
  split at e
  · rename_i p
    cases r with
    | ref hp =>
      split at e
      · rename_i kvs' ho
        cases e
        obtain ⟨kv, ea, ek, rl⟩ := rh.obj p _ _ ho hp
        exact ⟨p, _, kv, rfl, hp, rfl, .inl ea, .of ek rl⟩
      · rename_i kvs' ho
        cases e
        obtain ⟨o, kv, ea, ek, rl⟩ := rh.obj p _ _ ho hp
        exact ⟨p, _, kv, rfl, hp, rfl, .inr ⟨o, ea⟩, .of ek rl⟩
      · cases e
  · cases e
theorem dMut_of {x : W} {v : V} {p : Nat} {kvs : List (Key × W)} (rh : RelH K cm ρ h H) (r : Rel K ρ H x v) (e : dMut h x = some (p, kvs)) : ∃ a kv, x = .ref p ∧ ρ[p]? = some a ∧ v = .ref a ∧ H a = some (.dK kv) ∧ KVs K ρ H kvs kv := by
  unfold dMut at e
  split at e
  · cases r with
    | ref hp =>
      split at e
      · rename_i kvs' ho
        cases e
        obtain ⟨kv, ea, ek, rl⟩ := rh.obj _ _ _ ho hp
        exact ⟨_, kv, rfl, hp, rfl, ea, .of ek rl⟩
      · cases e
  · cases e
theorem keyW_of {x : W} {v : V} {k : Key} (r : Rel K ρ H x v) (e : keyW x = some k) : v = kV k := by
  cases r <;> cases e <;> rfl
theorem relO_dK {a : Addr} {kvs : List (Key × W)} {kv : List (Key × V)} (r : KVs K ρ (upd H a (.dK kv)) kvs kv) : RelO K cm ρ (upd H a (.dK kv)) a (.dK kvs) := ⟨kv, upd_same, r.keys, r.rels⟩
theorem rd_get {a : Addr} {kv : List (Key × V)} {k : Key} (e : Rd H a (.dK kv)) : DGet H a (kV k) (valV kv k) := .inl ⟨kv, k, e, rfl, rfl⟩
end
def fDget : W → W → M W := fun d k h => match dOf h d, keyW k with
  | some kvs, some k => (match valW kvs k with
    | some w => .ok w h
    | none => .no)
  | _, _ => .no
def fDin (neg : Bool) : W → W → M W := fun k d h => match dOf h d, keyW k with
  | some kvs, some k => .ok (.bl (neg != (valW kvs k).isSome)) h
  | _, _ => .no
def mDget2 (a k x : ME) : ME := fun sw => bnd (a sw) fun d h1 => match dOf h1 d with
  | some _ => bnd (k sw) (fun y => bnd (x sw) fun z h => match dOf h d, keyW y with
    | some kvs, some k => .ok ((valW kvs k).getD z) h
    | _, _ => .no) h1
  | none => .no
def mDpop2 (a k x : ME) : ME := fun sw => bnd (a sw) fun d h1 => match dOf h1 d with
  | some _ => bnd (k sw) (fun y => bnd (x sw) fun z h => match dMut h d, keyW y with
    | some (p, kvs), some k => (match valW kvs k with
      | some w => .ok w (h.set p (.dK (dropKW kvs k)))
      | none => .ok z h)
    | _, _ => .no) h1
  | none => .no
def sDput (a k v : ME) : MS := fun sw => bnd (v sw) fun z => bnd (a sw) fun d => bnd (k sw) fun y h => match dMut h d, keyW y with
  | some (p, kvs), some k => if kvs.length < lim then .ok (.nx sw) (h.set p (.dK (putKW kvs k z))) else .no
  | _, _ => .no
def bLenD : List W → M W
  | [x] => fun h => match dMut h x with
    | some (_, kvs) => .ok (.int kvs.length) h
    | none => .no
  | _ => bad
section
variable {X : Cx} {cm : Cm} {a b x e : Expr} {ma mb mx me : ME} {pos apos cpos pos' : Pos}
theorem re_dsub (hu : X.A.units + 1 < cLine) (ha : RE X cm a ma) (hb : RE X cm b mb) (hs : NoSl b := by exact fun _ _ => rfl) : RE X cm (.Subscript a b pos) (mBin fDget ma mb) := by
  refine peM (pe_dget hu ha hb hs) fun σ H Q q => ?_
  obtain ⟨ρ, h, sw, w, h', rh, rs, e, k⟩ := q
  obtain ⟨d, h1, e1, e2⟩ := bnd_ok e
  obtain ⟨y, h2, e3, e4⟩ := bnd_ok e2
  refine ⟨ρ, h, sw, d, h1, rh, rs, e1, fun ρ1 H1 d' l1 rh1 rd => ?_⟩
  refine ⟨ρ1, h1, sw, y, h2, rh1, rs.mono l1, e3, fun ρ2 H2 y' l2 rh2 ry => ?_⟩
  unfold fDget at e4
  split at e4
  · rename_i kvs kk hd hk
    obtain ⟨p, ad, kv, rfl, hp, rfl, er, rk⟩ := dOf_of rh2 (rd.mono l2) hd
    have ek := keyW_of ry hk
    subst ek
    rcases rk.val kk with ⟨n1, n2⟩ | ⟨w', v, n1, n2, rv⟩
    · rw [n1] at e4; cases e4
    · rw [n1] at e4
      cases e4
      refine ⟨ad, v, rfl, ?_, k ρ2 H2 v (l1.trans l2) rh2 rv⟩
      have g := rd_get (k := kk) er
      rw [n2] at g
      exact g
  · cases e4
theorem re_din (hu : X.A.units + 1 < cLine) (ha : RE X cm a ma) (hb : RE X cm b mb) (hm : behindInMarks .In b = false := by first | exact nobehind _ (by decide) (by decide) | rfl) : RE X cm (.Compare a [.In] [b] pos) (mBin (fDin false) ma mb) := by
  refine peM (pe_cmp (pc_din hu ha hb) hm) fun σ H Q q => ?_
  obtain ⟨ρ, h, sw, w, h', rh, rs, e, k⟩ := q
  obtain ⟨y, h1, e1, e2⟩ := bnd_ok e
  obtain ⟨d, h2, e3, e4⟩ := bnd_ok e2
  refine ⟨ρ, h, sw, y, h1, rh, rs, e1, fun ρ1 H1 y' l1 rh1 ry => ?_⟩
  refine ⟨ρ1, h1, sw, d, h2, rh1, rs.mono l1, e3, fun ρ2 H2 d' l2 rh2 rd => ?_⟩
  unfold fDin at e4
  split at e4
  · rename_i kvs kk hd hk
    obtain ⟨p, ad, kv, rfl, hp, rfl, er, rk⟩ := dOf_of rh2 rd hd
    have ek := keyW_of ry hk
    subst ek
    cases e4
    refine ⟨ad, _, rfl, rd_get er, ?_⟩
    have es : (valV kv kk).isSome = (valW kvs kk).isSome := by
      rcases rk.val kk with ⟨n1, n2⟩ | ⟨w', v, n1, n2, rv⟩ <;> rw [n1, n2] <;> rfl
    rw [es]
    have q := k ρ2 H2 (.bl (false != (valW kvs kk).isSome)) (l1.trans l2) rh2 (.bl _)
    simpa using q
  · cases e4
theorem re_dget2 (hu : X.A.units + 1 < cLine) (ha : RE X cm a ma) (hb : RE X cm b mb) (hx : RE X cm x mx) (m : M2 X a "get" apos b x cpos := by exact ⟨rfl, rfl, rfl, rfl⟩) : RE X cm (.Call (.Attribute a "get" apos) [b, x] [] cpos) (mDget2 ma mb mx) := by
  refine peM (pe_dget2 hu ha hb hx m) fun σ H Q q => ?_
  obtain ⟨ρ, h, sw, w, h', rh, rs, e, k⟩ := q
  obtain ⟨d, h1, e1, e2⟩ := bnd_ok e
  refine ⟨ρ, h, sw, d, h1, rh, rs, e1, fun ρ1 H1 d' l1 rh1 rd => ?_⟩
  split at e2
  · rename_i kvs0 hd0
    obtain ⟨p0, ad0, kv0, _, _, rfl, er0, _⟩ := dOf_of rh1 rd hd0
    obtain ⟨y, h2, e3, e4⟩ := bnd_ok e2
    obtain ⟨z, h3, e5, e6⟩ := bnd_ok e4
    refine ⟨ad0, rfl, .inl ⟨kv0, er0⟩, ρ1, h1, sw, y, h2, rh1, rs.mono l1, e3, fun ρ2 H2 y' l2 rh2 ry => ?_⟩
    refine ⟨ρ2, h2, sw, z, h3, rh2, rs.mono (l1.trans l2), e5, fun ρ3 H3 z' l3 rh3 rz => ?_⟩
    split at e6
    · rename_i kvs kk hd hk
      obtain ⟨p, ad, kv, rfl, hp, ev, er, rk⟩ := dOf_of rh3 (rd.mono (l2.trans l3)) hd
      cases ev
      have ek := keyW_of ry hk
      subst ek
      cases e6
      refine ⟨_, rd_get er, ?_⟩
      rcases rk.val kk with ⟨n1, n2⟩ | ⟨w', v, n1, n2, rv⟩
      · rw [n1] at k
        rw [n2]
        exact k ρ3 H3 _ (l1.trans (l2.trans l3)) rh3 rz
      · rw [n1] at k
        rw [n2]
        exact k ρ3 H3 _ (l1.trans (l2.trans l3)) rh3 rv
    · cases e6
  · cases e2
theorem re_dpop2 (ha : RE X cm a ma) (hb : RE X cm b mb) (hx : RE X cm x mx) (m : M2 X a "pop" apos b x cpos := by exact ⟨rfl, rfl, rfl, rfl⟩) : RE X cm (.Call (.Attribute a "pop" apos) [b, x] [] cpos) (mDpop2 ma mb mx) := by
  refine peM (pe_dpop2 ha hb hx m) fun σ H Q q => ?_
  obtain ⟨ρ, h, sw, w, h', rh, rs, e, k⟩ := q
  obtain ⟨d, h1, e1, e2⟩ := bnd_ok e
  refine ⟨ρ, h, sw, d, h1, rh, rs, e1, fun ρ1 H1 d' l1 rh1 rd => ?_⟩
  split at e2
  · rename_i kvs0 hd0
    obtain ⟨p0, ad0, kv0, _, _, rfl, er0, _⟩ := dOf_of rh1 rd hd0
    obtain ⟨y, h2, e3, e4⟩ := bnd_ok e2
    obtain ⟨z, h3, e5, e6⟩ := bnd_ok e4
    refine ⟨ad0, rfl, .inl ⟨kv0, er0⟩, ρ1, h1, sw, y, h2, rh1, rs.mono l1, e3, fun ρ2 H2 y' l2 rh2 ry => ?_⟩
    refine ⟨ρ2, h2, sw, z, h3, rh2, rs.mono (l1.trans l2), e5, fun ρ3 H3 z' l3 rh3 rz => ?_⟩
    split at e6
    · rename_i p kvs kk hd hk
      obtain ⟨ad, kv, rfl, hp, ev, ea, rk⟩ := dMut_of rh3 (rd.mono (l2.trans l3)) hd
      cases ev
      have ek := keyW_of ry hk
      subst ek
      refine ⟨kv, kk, ea, rfl, fun v hv => ?_, fun hv => ?_⟩
      · rcases rk.val kk with ⟨n1, n2⟩ | ⟨w', v', n1, n2, rv⟩
        · rw [n2] at hv; cases hv
        · rw [n2] at hv
          cases hv
          rw [n1] at e6
          cases e6
          have lu : Le X.K ρ3 H3 ρ3 (upd H3 ad0 (.dK (dropK kv kk))) := le_mut ea trivial
          exact k ρ3 _ _ (l1.trans (l2.trans (l3.trans lu))) (rh3.set hp ea trivial (relO_dK ((rk.drop kk).mono lu))) (rv.mono lu)
      · rcases rk.val kk with ⟨n1, n2⟩ | ⟨w', v', n1, n2, rv⟩
        · rw [n1] at e6
          cases e6
          exact k ρ3 H3 _ (l1.trans (l2.trans l3)) rh3 rz
        · rw [n2] at hv; cases hv
    · cases e6
  · cases e2
theorem rs_dput (hu : X.A.units + 1 < cLine) (ha : RE X cm a ma) (hb : RE X cm b mb) (hx : RE X cm x mx) (hs : swapsWith x (some (.Subscript a b pos')) pos.line X.env = pure false := by rfl) : RS X cm (.Assign [.Subscript a b pos'] x pos) (sDput ma mb mx) := by
  refine psM (ps_dput hu ha hb hx hs) fun D σ H q => ?_
  obtain ⟨ρ, h, sw, f, h', rh, rs, e, k⟩ := q
  obtain ⟨z, h1, e1, e2⟩ := bnd_ok e
  obtain ⟨d, h2, e3, e4⟩ := bnd_ok e2
  obtain ⟨y, h3, e5, e6⟩ := bnd_ok e4
  refine ⟨ρ, h, sw, z, h1, rh, rs, e1, fun ρ1 H1 z' l1 rh1 rz => ?_⟩
  refine ⟨ρ1, h1, sw, d, h2, rh1, rs.mono l1, e3, fun ρ2 H2 d' l2 rh2 rd => ?_⟩
  refine ⟨ρ2, h2, sw, y, h3, rh2, rs.mono (l1.trans l2), e5, fun ρ3 H3 y' l3 rh3 ry => ?_⟩
  split at e6
  · rename_i p kvs kk hd hk
    obtain ⟨ad, kv, rfl, hp, rfl, ea, rk⟩ := dMut_of rh3 (rd.mono l3) hd
    have ek := keyW_of ry hk
    subst ek
    split at e6
    · rename_i hl
      cases e6
      have lu : Le X.K ρ3 H3 ρ3 (upd H3 ad (.dK (putK kv kk z'))) := le_mut ea trivial
      refine ⟨ad, _, rfl, DPut.k ea (by rw [← rk.length, ← lim_eq]; exact hl), ?_⟩
      have l03 := l1.trans (l2.trans l3)
      exact k ρ3 _ σ (l03.trans lu) (rh3.set hp ea trivial (relO_dK ((rk.put kk (rz.mono (l2.trans l3))).mono lu))) ((rs.mono l03).mono lu)
    · cases e6
  · cases e6
theorem wLenD : CallW X.K cm (fun xs H Q => ∃ a kvs, xs = [V.ref a] ∧ H a = some (.dK kvs) ∧ Q (.int kvs.length) H) bLenD := by
  intro ρ h H ws vs z h' Q rh r e k
  cases r with
  | nil => cases e
  | cons r t =>
    cases t with
    | cons _ _ => cases e
    | nil =>
      have e' : (match dMut h _ with
        | some (_, kvs) => EL.R.ok (W.int kvs.length) h
        | none => EL.R.no) = .ok z h' := e
      split at e'
      · rename_i p kvs hd
        cases e'
        obtain ⟨ad, kv, rfl, hp, rfl, ea, rk⟩ := dMut_of rh r hd
        refine ⟨ad, kv, rfl, ea, ?_⟩
        rw [← rk.length]
        exact k.at rh (.int _)
      · cases e'
end
end EL
namespace EL
open PySem PySem.Spec L2
open PyProof.Rows hiding St

/-! ### a dict that is walked: locked meanwhile -/
structure Le0 (K : PySem.W.Frag) (ρ : List Addr) (H : Hp) (ρ' : List Addr) (H' : Hp) : Prop where
  pre : ρ <+: ρ'
  sq : ∀ a vs, SqT K H a vs → SqT K H' a vs
  sl : ∀ a vs, SqP K H a vs → SqP K H' a vs
  xd : ∀ a fs, H a = some (.xd fs) → H' a = some (.xd fs)
section
variable {K : PySem.W.Frag} {cm : Cm} {ρ ρ' : List Addr} {h h' : Hw} {H H' : Hp}
mutual
theorem Rel.mono0 (l : Le0 K ρ H ρ' H') : ∀ {w : W} {v : V}, Rel K ρ H w v → Rel K ρ' H' w v
  | _, _, .non => .non
  | _, _, .bl b => .bl b
  | _, _, .int i => .int i
  | _, _, .str x => .str x
  | _, _, .ref h => .ref (pre_get l.pre h)
  | _, _, .tup h r => .tup (l.sq _ _ h) (Rels.mono0 l r)
  | _, _, .rol h r => .rol (l.sl _ _ h) (Rels.mono0 l r)
theorem Rels.mono0 (l : Le0 K ρ H ρ' H') : ∀ {ws : List W} {vs : List V}, Rels K ρ H ws vs → Rels K ρ' H' ws vs
  | _, _, .nil => .nil
  | _, _, .cons r t => .cons (Rel.mono0 l r) (Rels.mono0 l t)
end
theorem RelO.mono0 {a : Addr} {o : O} (l : Le0 K ρ H ρ' H') (e : H' a = H a) (r : RelO K cm ρ H a o) : RelO K cm ρ' H' a o := by
  cases o with
  | lst xs => obtain ⟨vs, e1, q⟩ := r; exact ⟨vs, e.trans e1, q.mono0 l⟩
  | ins C fs => obtain ⟨dx, fv, e1, e2, q⟩ := r; exact ⟨dx, fv, e.trans e1, e2, q.mono0 l⟩
  | dK kvs => obtain ⟨kv, e1, e2, q⟩ := r; exact ⟨kv, e.trans e1, e2, q.mono0 l⟩
  | dF kvs => obtain ⟨o, kv, e1, e2, q⟩ := r; exact ⟨o, kv, e.trans e1, e2, q.mono0 l⟩
  | st ks => obtain ⟨n, l1, e1⟩ := r; exact ⟨n, l1, e.trans e1⟩
  | xc C f w => obtain ⟨d, v, e1, e2, q⟩ := r; exact ⟨d, v, e.trans e1, l.xd _ _ e2, q.mono0 l⟩
theorem RelS.mono0 {sw : SW} {σ : St} (l : Le0 K ρ H ρ' H') (r : RelS K ρ H sw σ) : RelS K ρ' H' sw σ := ⟨r.1, fun i w e =>
  let ⟨v, h1, h2⟩ := r.2 i w e
  ⟨v, h1, h2.mono0 l⟩⟩
theorem le_unlock {d : Addr} {od : Obj} {kv : List (Key × V)} (e : H d = some (.frz od (.dK kv))) : Le0 K ρ H ρ (upd H d (.dK kv)) := by
  have keep : ∀ b x, H b = some x → x ≠ .frz od (.dK kv) → upd H d (.dK kv) b = some x := fun b x hb hx => by
    have ne : b ≠ d := fun z => by
      subst z
      rw [hb] at e
      exact hx (Option.some.inj e)
    rw [upd_ne ne]
    exact hb
  refine ⟨List.prefix_refl _, fun b vs q => ?_, fun b vs q => ?_, fun b fs q => keep b _ q fun z => by cases z⟩
  · rcases q with (q | ⟨ob, q⟩) | q
    · exact .inl (.inl (keep b _ q fun z => by cases z))
    · exact .inl (.inr ⟨ob, keep b _ q fun z => by cases z⟩)
    · exact .inr q
  · rcases q with ⟨ob, q⟩ | q
    · exact .inl ⟨ob, keep b _ q fun z => by cases z⟩
    · exact .inr q
theorem lock_le {d : Addr} {od : Obj} {kv : List (Key × V)} (ea : H d = some (.dK kv)) (l : Le K ρ (upd H d (.frz od (.dK kv))) ρ' H') : Le K ρ H ρ' (upd H' d (.dK kv)) := by
  have lu : Le K ρ H ρ (upd H d (.frz od (.dK kv))) := le_mut ea trivial
  have ed : H' d = some (.frz od (.dK kv)) := l.fz _ _ _ upd_same
  have l0 : Le0 K ρ' H' ρ' (upd H' d (.dK kv)) := le_unlock ed
  refine ⟨l.pre, fun a vs q => l0.sq a vs (l.sq a vs (lu.sq a vs q)), fun a vs q => l0.sl a vs (l.sl a vs (lu.sl a vs q)), fun a o u q => ?_, fun a f q => ?_⟩
  · have ne : a ≠ d := fun z => by
      subst z
      rw [ea] at q
      cases q
    rw [upd_ne ne]
    exact l.fz a o u (by rw [upd_ne ne]; exact q)
  · have ne : a ≠ d := fun z => by
      subst z
      rw [ea] at q
      cases q
    rw [upd_ne ne]
    exact l.xd a f (by rw [upd_ne ne]; exact q)
theorem unlock_rel {d : Addr} {od : Obj} {kv : List (Key × V)} {p : Nat} {kvs : List (Key × W)} (rh : RelH K cm ρ h H) (hp : ρ[p]? = some d) (ed : H d = some (.frz od (.dK kv))) (eo : h[p]? = some (.dF kvs)) : RelH K cm ρ (h.set p (.dK kvs)) (upd H d (.dK kv)) := by
  have l0 : Le0 K ρ H ρ (upd H d (.dK kv)) := le_unlock ed
  refine ⟨by rw [List.length_set]; exact rh.len, rh.nd, fun j o1 b hj hb => ?_⟩
  by_cases hji : p = j
  · subst hji
    rw [hp] at hb
    cases hb
    rw [List.getElem?_set, if_pos rfl, if_pos (List.getElem?_eq_some_iff.mp eo).1] at hj
    cases hj
    obtain ⟨o', kv', e1, e2, q⟩ := rh.obj p _ _ eo hp
    rw [ed] at e1
    cases e1
    exact ⟨kv, upd_same, e2, q.mono0 l0⟩
  · rw [List.getElem?_set_ne hji] at hj
    exact (rh.obj j o1 b hj hb).mono0 l0 (upd_ne fun z => by
      subst z
      exact hji (nd_ix rh.nd hp hb))
end
def selM (m : ME) : SW → Hw → Option Nat := fun sw h => match m sw h with
  | .ok (.ref p) _ => some p
  | _ => none
def lockG {α : Type} (p : Option Nat) (b : M α) : M α := fun h => match p with
  | some p => (match h[p]? with
    | some (.dK kvs) => (match b (h.set p (.dF kvs)) with
      | .ok f h2 => (match h2[p]? with
        | some (.dF kvs2) => .ok f (h2.set p (.dK kvs2))
        | _ => .no)
      | _ => .no)
    | _ => .no)
  | none => .no
def lockS (sel : SW → Hw → Option Nat) (b : MS) : MS := fun sw h => lockG (sel sw h) (b sw) h
def lockE (sel : SW → Hw → Option Nat) (b : ME) : ME := fun sw h => lockG (sel sw h) (b sw) h
theorem lockG_inv {α : Type} {p : Option Nat} {b : M α} {h h' : Hw} {f : α} (e : lockG p b h = .ok f h') : ∃ p0 kvs h2 kvs2, p = some p0 ∧ h[p0]? = some (.dK kvs) ∧ b (h.set p0 (.dF kvs)) = .ok f h2 ∧ h2[p0]? = some (.dF kvs2) ∧ h' = h2.set p0 (.dK kvs2) := by
  unfold lockG at e
  split at e
  · split at e
    · split at e
      · split at e
        · cases e
          exact ⟨_, _, _, _, rfl, by assumption, by assumption, by assumption, rfl⟩
        · cases e
      · cases e
    · cases e
  · cases e
section
variable {X : Cx} {cm : Cm} {st : Stmt} {e : Expr} {b : MS} {be : ME} {sel : SW → Hw → Option Nat}
theorem rs_lock (hb : RS X cm st b) : RS X cm st (lockS sel b) := by
  refine psM (ps_lock hb) fun D σ H q => ?_
  obtain ⟨ρ, h, sw, f, h', rh, rs, e, k⟩ := q
  obtain ⟨p, kvs, h2, kvs2, ep, eo, e2, eo2, rfl⟩ := lockG_inv e
  have hl : p < ρ.length := by rw [rh.len]; exact (List.getElem?_eq_some_iff.mp eo).1
  have hp : ρ[p]? = some ρ[p] := List.getElem?_eq_getElem hl
  obtain ⟨kv, ea, ek, rl⟩ := rh.obj p _ _ eo hp
  refine ⟨ρ[p], _, ea, trivial, fun od => ?_⟩
  have lu : Le X.K ρ H ρ (upd H ρ[p] (.frz od (.dK kv))) := le_mut ea trivial
  refine ⟨ρ, _, sw, f, h2, RelH.set (o := .dF kvs) rh hp ea trivial ⟨od, kv, upd_same, ek, rl.mono lu⟩, rs.mono lu, e2, ?_⟩
  have key : ∀ ρ' H', Le X.K ρ (upd H ρ[p] (.frz od (.dK kv))) ρ' H' → RelH X.K cm ρ' h2 H' → H' ρ[p] = some (.frz od (.dK kv)) ∧ Le X.K ρ H ρ' (upd H' ρ[p] (.dK kv)) ∧ RelH X.K cm ρ' (h2.set p (.dK kvs2)) (upd H' ρ[p] (.dK kv)) ∧ Le0 X.K ρ' H' ρ' (upd H' ρ[p] (.dK kv)) := fun ρ' H' l' rh' => by
    have ed := l'.fz _ _ _ upd_same
    exact ⟨ed, lock_le ea l', unlock_rel rh' (pre_get l'.pre hp) ed eo2, le_unlock ed⟩
  cases f with
  | nx s => exact fun ρ' H' σ' l' rh' rs' => let ⟨a1, a2, a3, a4⟩ := key ρ' H' l' rh'; ⟨a1, k ρ' _ σ' a2 a3 (rs'.mono0 a4)⟩
  | bk s => exact fun ρ' H' σ' l' rh' rs' => let ⟨a1, a2, a3, a4⟩ := key ρ' H' l' rh'; ⟨a1, k ρ' _ σ' a2 a3 (rs'.mono0 a4)⟩
  | ct s => exact fun ρ' H' σ' l' rh' rs' => let ⟨a1, a2, a3, a4⟩ := key ρ' H' l' rh'; ⟨a1, k ρ' _ σ' a2 a3 (rs'.mono0 a4)⟩
  | rt w => exact fun ρ' H' v l' rh' rv => let ⟨a1, a2, a3, a4⟩ := key ρ' H' l' rh'; ⟨a1, k ρ' _ v a2 a3 (rv.mono0 a4)⟩
theorem re_lock (hb : RE X cm e be) : RE X cm e (lockE sel be) := by
  refine peM (pe_lock hb) fun σ H Q q => ?_
  obtain ⟨ρ, h, sw, f, h', rh, rs, e, k⟩ := q
  obtain ⟨p, kvs, h2, kvs2, ep, eo, e2, eo2, rfl⟩ := lockG_inv e
  have hl : p < ρ.length := by rw [rh.len]; exact (List.getElem?_eq_some_iff.mp eo).1
  have hp : ρ[p]? = some ρ[p] := List.getElem?_eq_getElem hl
  obtain ⟨kv, ea, ek, rl⟩ := rh.obj p _ _ eo hp
  refine ⟨ρ[p], _, ea, trivial, fun od => ?_⟩
  have lu : Le X.K ρ H ρ (upd H ρ[p] (.frz od (.dK kv))) := le_mut ea trivial
  refine ⟨ρ, _, sw, f, h2, RelH.set (o := .dF kvs) rh hp ea trivial ⟨od, kv, upd_same, ek, rl.mono lu⟩, rs.mono lu, e2, fun ρ' H' v l' rh' rv => ?_⟩
  have ed := l'.fz _ _ _ upd_same
  exact ⟨ed, k ρ' _ v (lock_le ea l') (unlock_rel rh' (pre_get l'.pre hp) ed eo2) (rv.mono0 (le_unlock ed))⟩
end
/-! ### walks over dicts, enumerate -/
def iDit (a : ME) : MI := fun sw => bnd (a sw) fun x h => match x with
  | .ref p => match h[p]? with
    | some (.dF kvs) => .ok (.dit p, kvs.length) h
    | _ => .no
  | _ => .no
def iDky (a : ME) : MI := fun sw => bnd (a sw) fun x h => match x with
  | .ref p => match h[p]? with
    | some (.dF kvs) => .ok (.dky p, kvs.length) h
    | _ => .no
  | _ => .no
def iDvl (a : ME) : MI := fun sw => bnd (a sw) fun x h => match x with
  | .ref p => match h[p]? with
    | some (.dF kvs) => .ok (.dvl p, kvs.length) h
    | _ => .no
  | _ => .no
def iEnu (a : ME) : MI := fun sw => bnd (a sw) fun x h => match x with
  | .ref p => match h[p]? with
    | some (.lst xs) => .ok (.enu p, xs.length) h
    | _ => .no
  | .rol xs => .ok (.enr xs, xs.length) h
  | .tup xs => .ok (.enuT xs, xs.length) h
  | _ => .no
section
variable {X : Cx} {cm : Cm} {a : Expr} {ma : ME} {pos apos cpos tpos : Pos} {elts : List Expr} {kk : Nat}
theorem dF_inv {x : W} {h h' : Hw} {g : Nat → Src} {src : Src × Nat} (e : (match x with
  | .ref p => match h[p]? with
    | some (.dF kvs) => EL.R.ok (g p, kvs.length) h
    | _ => EL.R.no
  | _ => EL.R.no) = .ok src h') : ∃ p kvs, x = .ref p ∧ h[p]? = some (.dF kvs) ∧ src.1 = g p ∧ h' = h := by
  split at e
  · split at e
    · cases e
      exact ⟨_, _, rfl, by assumption, rfl, rfl⟩
    · cases e
  · cases e
theorem ri_items (ha : RE X cm a ma) (hbase : attributeBase a "items" X.env (eval a X.env) = eval a X.env := by rfl) (hline : (apos.endLine == cpos.line) = true := by rfl) : RI X cm (.Tuple elts kk tpos) (.Call (.Attribute a "items" apos) [] [] cpos) (iDit ma) := by
  refine piM (pi_items ha hbase hline) fun σ H R q => ?_
  obtain ⟨ρ, h, sw, src, h', rh, rs, e, k⟩ := q
  obtain ⟨x, h1, e1, e2⟩ := bnd_ok e
  refine ⟨ρ, h, sw, x, h1, rh, rs, e1, fun ρ1 H1 x' l1 rh1 rx => ?_⟩
  obtain ⟨p, kvs, rfl, eo, es, rfl⟩ := dF_inv (g := Src.dit) e2
  cases rx with
  | ref hp =>
    obtain ⟨o, kv, ea, ek, rl⟩ := rh1.obj p _ _ eo hp
    exact ⟨_, o, kv, rfl, ea, k ρ1 H1 _ l1 rh1 (by rw [es]; exact ⟨_, o, kv, hp, ea, rfl⟩)⟩
theorem ri_values (ha : RE X cm a ma) {tg : Expr} (hbase : attributeBase a "values" X.env (eval a X.env) = eval a X.env := by rfl) (hline : (apos.endLine == cpos.line) = true := by rfl) : RI X cm tg (.Call (.Attribute a "values" apos) [] [] cpos) (iDvl ma) := by
  refine piM (pi_values ha hbase hline) fun σ H R q => ?_
  obtain ⟨ρ, h, sw, src, h', rh, rs, e, k⟩ := q
  obtain ⟨x, h1, e1, e2⟩ := bnd_ok e
  refine ⟨ρ, h, sw, x, h1, rh, rs, e1, fun ρ1 H1 x' l1 rh1 rx => ?_⟩
  obtain ⟨p, kvs, rfl, eo, es, rfl⟩ := dF_inv (g := Src.dvl) e2
  cases rx with
  | ref hp =>
    obtain ⟨o, kv, ea, ek, rl⟩ := rh1.obj p _ _ eo hp
    exact ⟨_, o, kv, rfl, ea, k ρ1 H1 _ l1 rh1 (by rw [es]; exact ⟨_, o, kv, hp, ea, rfl⟩)⟩
theorem ri_keys (ha : RE X cm a ma) {tg : Expr} : RI X cm tg a (iDky ma) := by
  refine piM (pi_keys ha) fun σ H R q => ?_
  obtain ⟨ρ, h, sw, src, h', rh, rs, e, k⟩ := q
  obtain ⟨x, h1, e1, e2⟩ := bnd_ok e
  refine ⟨ρ, h, sw, x, h1, rh, rs, e1, fun ρ1 H1 x' l1 rh1 rx => ?_⟩
  obtain ⟨p, kvs, rfl, eo, es, rfl⟩ := dF_inv (g := Src.dky) e2
  cases rx with
  | ref hp =>
    obtain ⟨o, kv, ea, ek, rl⟩ := rh1.obj p _ _ eo hp
    exact ⟨_, o, rfl, .inl ⟨kv, ea, k ρ1 H1 _ l1 rh1 (by rw [es]; exact ⟨_, o, kv, hp, ea, rfl⟩)⟩⟩
def iEnS (a : ME) : MI := fun sw => bnd (a sw) fun x h => match x with
  | .str y => .ok (.enuS y, y.cps.size) h
  | _ => .no
theorem ri_enumS {p : Pos} (hm : X.mg "enumerate" = none) (ha : RE X cm a ma) (hg : Gl X "enumerate" := by rfl) (hs : starEach [a] X.env = [(false, eval a X.env)] := by rfl) : RI X cm (.Tuple elts kk tpos) (.Call (.Name "enumerate" p) [a] [] pos) (iEnS ma) := by
  refine piM (pi_enumS hg hm (pa_cons ha pa_nil hs) hs) fun σ H R q => ?_
  obtain ⟨ρ, h, sw, src, h', rh, rs, e, k⟩ := q
  obtain ⟨x, h1, e1, e2⟩ := bnd_ok e
  refine ⟨ρ, h, sw, x, h1, rh, rs, e1, fun ρ1 H1 x' l1 rh1 rx => ?_⟩
  cases x with
  | str y =>
    cases rx
    cases e2
    exact ⟨y, rfl, k ρ1 H1 _ l1 rh1 rfl⟩
  | _ => cases e2
theorem ri_enum {p : Pos} (hm : X.mg "enumerate" = none) (ha : RE X cm a ma) (hg : Gl X "enumerate" := by rfl) (hs : starEach [a] X.env = [(false, eval a X.env)] := by rfl) : RI X cm (.Tuple elts kk tpos) (.Call (.Name "enumerate" p) [a] [] pos) (iEnu ma) := by
  refine piM (pi_enum2 hg hm (pa_cons ha pa_nil hs) hs) fun σ H R q => ?_
  obtain ⟨ρ, h, sw, src, h', rh, rs, e, k⟩ := q
  obtain ⟨x, h1, e1, e2⟩ := bnd_ok e
  refine ⟨ρ, h, sw, x, h1, rh, rs, e1, fun ρ1 H1 x' l1 rh1 rx => ?_⟩
  cases rx with
  | @ref p ad hp =>
    have e2' : (match h1[p]? with
      | some (.lst xs) => EL.R.ok (Src.enu p, xs.length) h1
      | _ => EL.R.no) = .ok src h' := e2
    split at e2'
    · rename_i xs eo
      cases e2'
      obtain ⟨vs, ea, rl⟩ := rh1.obj p _ _ eo hp
      exact ⟨_, rfl, .inl ⟨vs, .of ea, k ρ1 H1 _ l1 rh1 ⟨_, hp, rfl⟩⟩⟩
    · cases e2'
  | rol hq rl =>
    cases e2
    exact ⟨_, rfl, .inl ⟨_, hq.sq, k ρ1 H1 _ l1 rh1 ⟨_, _, hq, rl, rfl⟩⟩⟩
  | tup hq rl =>
    cases e2
    exact ⟨_, rfl, .inr ⟨_, hq, k ρ1 H1 _ l1 rh1 ⟨_, _, hq, rl, rfl⟩⟩⟩
  | _ => cases e2
end
/-! ### dict comprehensions -/
def putD (d y z : W) : M Unit := fun h => match dMut h d, keyW y with
  | some (p, kvs), some k => if kvs.length < lim then .ok () (h.set p (.dK (putKW kvs k z))) else .no
  | _, _ => .no
def dcGo (src : Src) (g : MG) (t : MT) (ek ev : ME) (vs : List Nat) (d : W) (sw : SW) : Nat → Nat → M Unit
  | _, 0 => bad
  | i, n + 1 => fun h => match src.item i h with
    | none => .no
    | some none => .ok () h
    | some (some x) => bnd (g x (wipeW sw vs)) (fun s => bnd (t s) fun b => if b = true then bnd (ek s) (fun y => bnd (ev s) fun z => bnd (putD d y z) fun _ => dcGo src g t ek ev vs d sw (i + 1) n) else dcGo src g t ek ev vs d sw (i + 1) n) h
def mDc (mi : MI) (g : MG) (t : MT) (ek ev : ME) (vs : List Nat) : ME := fun sw => bnd (mi sw) fun src => bnd (alloc (.dK [])) fun d => bnd (dcGo src.1 g t ek ev vs d sw 0 (src.2 + 1)) fun _ => rtn d
theorem putD_ok {K : PySem.W.Frag} {cm : Cm} {ρ : List Addr} {h h' : Hw} {H : Hp} {p : Nat} {D : Addr} {y z : W} {v u : V} {r : Unit} (rh : RelH K cm ρ h H) (hp : ρ[p]? = some D) (ry : Rel K ρ H y v) (rz : Rel K ρ H z u) (e : putD (.ref p) y z h = .ok r h') :
    ∃ kv k, v = kV k ∧ H D = some (.dK kv) ∧ kv.length < sizeLine ∧ RelH K cm ρ h' (upd H D (.dK (putK kv k u))) ∧ Le K ρ H ρ (upd H D (.dK (putK kv k u))) := by
  unfold putD at e
  split at e
  · rename_i p' kvs kk hd hk
    obtain ⟨ad, kv, ex, hp', ev, ea, rk⟩ := dMut_of rh (.ref hp) hd
    cases ex
    cases ev
    have ek := keyW_of ry hk
    subst ek
    split at e
    · rename_i hl
      cases e
      have lu : Le K ρ H ρ (upd H D (.dK (putK kv kk u))) := le_mut ea trivial
      exact ⟨kv, kk, rfl, ea, by rw [← rk.length, ← lim_eq]; exact hl, rh.set hp ea trivial (relO_dK ((rk.put kk rz).mono lu)), lu⟩
    · cases e
  · cases e
section
variable {X : Cx} {cm : Cm} {kx vx tg it : Expr} {scope : Scope} {pos : Pos} {mi : MI} {g : MG} {t : MT} {mk mv : ME}
theorem dc_tE {σ : St} {H : Hp} {Q : VK} {vs : List Nat} {G : TG} {T : TT} {E1 E2 : TE} (q : tE X.K cm (mDc mi g t mk mv vs) σ H Q)
    (hG : ∀ v σ H Q, tG X.K cm vs g v σ H Q → G v σ H Q) (hT : ∀ σ H Q, tT X.K cm t σ H Q → T σ H Q) (hE1 : ∀ σ H Q, tE X.K cm mk σ H Q → E1 σ H Q) (hE2 : ∀ σ H Q, tE X.K cm mv σ H Q → E2 σ H Q) : tDc (tI X.K cm mi) G T E1 E2 vs σ H Q := by
  obtain ⟨ρ, h, sw, w, h', rh, rs, e, k⟩ := q
  obtain ⟨src, h1, e1, e2⟩ := bnd_ok e
  obtain ⟨d, h2, e3, e4⟩ := bnd_ok e2
  obtain ⟨u, h3, e5, e6⟩ := bnd_ok e4
  cases e6
  cases e3
  refine ⟨ρ, h, sw, src, h1, rh, rs, e1, fun ρ1 H1 J l1 rh1 rj => ?_⟩
  intro D hD
  have l2 : Le X.K ρ1 H1 (ρ1 ++ [D]) (upd H1 D (.dK [])) := (le_new hD).trans (le_app D)
  have rh2 : RelH X.K cm (ρ1 ++ [D]) (h1 ++ [.dK []]) (upd H1 D (.dK [])) := rh1.push hD ⟨[], upd_same, rfl, .nil⟩
  refine ⟨fun i n H3 => ∃ ρ3 h3, Le X.K ρ H ρ3 H3 ∧ Le X.K (ρ1 ++ [D]) (upd H1 D (.dK [])) ρ3 H3 ∧ RelH X.K cm ρ3 h3 H3 ∧ SrcR X.K ρ3 H3 src.1 J ∧ dcGo src.1 g t mk mv vs (.ref h1.length) sw i n h3 = .ok u h', ⟨_, ρ1 ++ [D], _, l1.trans l2, .refl, rh2, rj.mono l2, e5⟩, fun i n H3 w => ?_⟩
  obtain ⟨ρ3, h3, l3, m3, rh3, rj3, e7⟩ := w
  have hp : ρ3[h1.length]? = some D := pre_get m3.pre (push_at rh1)
  cases n with
  | zero => cases e7
  | succ n =>
    have e7' : (match src.1.item i h3 with
      | none => (EL.R.no : EL.R Unit)
      | some none => .ok () h3
      | some (some x) => bnd (g x (wipeW sw vs)) (fun s => bnd (t s) fun b => if b = true then bnd (mk s) (fun y => bnd (mv s) fun z => bnd (putD (.ref h1.length) y z) fun _ => dcGo src.1 g t mk mv vs (.ref h1.length) sw (i + 1) n) else dcGo src.1 g t mk mv vs (.ref h1.length) sw (i + 1) n) h3) = .ok u h' := e7
    split at e7'
    · cases e7'
    · rename_i he
      cases e7'
      exact .inl ⟨src_stop rh3 rj3 he, k ρ3 H3 _ l3 rh3 (.ref hp)⟩
    · rename_i x he
      obtain ⟨s2, h4, e8, e9⟩ := bnd_ok e7'
      obtain ⟨b, h5, e10, e11⟩ := bnd_ok e9
      obtain ⟨go, yl⟩ := src_go rh3 rj3 he
      refine .inr ⟨go, fun H6 => ∃ ρ6 h6, Le X.K ρ H ρ6 H6 ∧ Le X.K (ρ1 ++ [D]) (upd H1 D (.dK [])) ρ6 H6 ∧ RelH X.K cm ρ6 h6 H6 ∧ SrcR X.K ρ6 H6 src.1 J ∧ dcGo src.1 g t mk mv vs (.ref h1.length) sw (i + 1) n h6 = .ok u h', fun H6 z => ⟨n, Nat.lt_succ_self n, z⟩, fun v H6 y => ?_⟩
      obtain ⟨ly, rhy, rv⟩ := yl v H6 y
      have l3 := l3.trans ly
      have m3 := m3.trans ly
      have rj3 := rj3.mono ly
      refine hG _ _ _ _ ⟨ρ3, h3, _, x, s2, h4, rhy, relS_wipe (rs.mono l3) vs, rv, e8, fun ρ4 H4 σ4 b4 l4 rh4 rs4 => ⟨wipe_ext b4, ?_⟩⟩
      refine hT _ _ _ ⟨ρ4, h4, s2, b, h5, rh4, rs4, e10, fun ρ5 H5 l5 rh5 => ?_⟩
      have l45 := l4.trans l5
      cases b with
      | false => exact iteF ⟨ρ5, h5, l3.trans l45, m3.trans l45, rh5, rj3.mono l45, e11⟩
      | true =>
        obtain ⟨yw, h6, e12, e13⟩ := bnd_ok e11
        obtain ⟨zw, h7, e14, e15⟩ := bnd_ok e13
        obtain ⟨u2, h8, e16, e17⟩ := bnd_ok e15
        refine iteT (hE1 _ _ _ ⟨ρ5, h5, s2, yw, h6, rh5, rs4.mono l5, e12, fun ρ6 H6 v6 l6 rh6 rv6 => ?_⟩)
        refine hE2 _ _ _ ⟨ρ6, h6, s2, zw, h7, rh6, rs4.mono (l5.trans l6), e14, fun ρ7 H7 v7 l7 rh7 rv7 => ?_⟩
        have l47 := (l45.trans l6).trans l7
        obtain ⟨kv, kk, ev, ea, hl, rh8, l8⟩ := putD_ok rh7 (pre_get l47.pre hp) (rv6.mono l7) rv7 e16
        have l48 := l47.trans l8
        exact ⟨kv, kk, ev, ea, hl, ρ7, h8, l3.trans l48, m3.trans l48, rh8, rj3.mono l48, e17⟩
theorem re_dc (own : List (Str × Nat)) (hc : X.calm = true) (hN : X.N.Nodup) (hi : RI X cm tg it mi) {N0 : List Str} {sc0 : Scope} (ok : blkC N0 sc0 scope own = true)
    (hg : ∀ (s : Shared) (H : Hp) (C : Addr) (cl : List (Str × Addr)) (fp : List Addr), RG (X.blk s H scope (compEnvC scope cl C X.env) fp) cm (own.map (·.2)) tg g)
    (hk : ∀ (s : Shared) (H : Hp) (C : Addr) (cl : List (Str × Addr)) (fp : List Addr), RE (X.blk s H scope (compEnvC scope cl C X.env) fp) cm kx mk)
    (hv : ∀ (s : Shared) (H : Hp) (C : Addr) (cl : List (Str × Addr)) (fp : List Addr), RE (X.blk s H scope (compEnvC scope cl C X.env) fp) cm vx mv) (hs : ∀ x, foldedSetIterable it X.env x = pure x := by intro _; rfl) (eN : N0 = X.N := by rfl) (eS : sc0 = X.env.scope := by rfl) :
    RE X cm (.DictComp kx vx [⟨tg, it, [], 0⟩] scope pos) (mDc mi g tYs mk mv (own.map (·.2))) :=
  peM (pe_dc (own := own) hc hN hi (by rw [← eN, ← eS]; exact blkOk_by ok) hg (fun _ _ _ _ _ => pts_nil) hk hv hs) fun σ H Q q => dc_tE q (fun _ _ _ _ z => z) (fun _ _ _ z => by
    obtain ⟨ρ, h, sw, b, h', rh, rs, e, k⟩ := z
    cases e
    exact k ρ _ .refl rh) (fun _ _ _ z => z) (fun _ _ _ z => z)
theorem re_dc1 {c : Expr} (own : List (Str × Nat)) (hc : X.calm = true) (hN : X.N.Nodup) (hi : RI X cm tg it mi) {N0 : List Str} {sc0 : Scope} (ok : blkC N0 sc0 scope own = true)
    (hg : ∀ (s : Shared) (H : Hp) (C : Addr) (cl : List (Str × Addr)) (fp : List Addr), RG (X.blk s H scope (compEnvC scope cl C X.env) fp) cm (own.map (·.2)) tg g)
    (ht : ∀ (s : Shared) (H : Hp) (C : Addr) (cl : List (Str × Addr)) (fp : List Addr), RT (X.blk s H scope (compEnvC scope cl C X.env) fp) cm c t)
    (hk : ∀ (s : Shared) (H : Hp) (C : Addr) (cl : List (Str × Addr)) (fp : List Addr), RE (X.blk s H scope (compEnvC scope cl C X.env) fp) cm kx mk)
    (hv : ∀ (s : Shared) (H : Hp) (C : Addr) (cl : List (Str × Addr)) (fp : List Addr), RE (X.blk s H scope (compEnvC scope cl C X.env) fp) cm vx mv) (hs : ∀ x, foldedSetIterable it X.env x = pure x := by intro _; rfl) (eN : N0 = X.N := by rfl) (eS : sc0 = X.env.scope := by rfl) :
    RE X cm (.DictComp kx vx [⟨tg, it, [c], 0⟩] scope pos) (mDc mi g t mk mv (own.map (·.2))) :=
  peM (pe_dc (own := own) hc hN hi (by rw [← eN, ← eS]; exact blkOk_by ok) hg (fun _ _ _ _ _ => pts_one (ht _ _ _ _ _)) hk hv hs) fun σ H Q q => dc_tE q (fun _ _ _ _ z => z) (fun _ _ _ z => z) (fun _ _ _ z => z) (fun _ _ _ z => z)
end
end EL
namespace EL
open PySem PySem.Spec L2
open PyProof.Rows hiding St

/-! ### texts in order -/
def leS (a b : Str) : Bool := !ltCps b.cps.toList a.cps.toList
def insS (x : Str) : List Str → List Str
  | [] => [x]
  | y :: r => if leS x y = true then x :: y :: r else y :: insS x r
def sortS : List Str → List Str
  | [] => []
  | x :: r => insS x (sortS r)
theorem insS_perm (x : Str) : ∀ xs : List Str, (insS x xs).Perm (x :: xs)
  | [] => .refl _
  | y :: r => by
    unfold insS
    split
    · exact .refl _
    · exact ((insS_perm x r).cons y).trans (.swap x y r)
theorem sortS_perm : ∀ xs : List Str, (sortS xs).Perm xs
  | [] => .refl _
  | x :: r => (insS_perm x (sortS r)).trans ((sortS_perm r).cons x)
theorem leS_iff {a b : Str} : leS a b = true ↔ a.cps.toList ≤ b.cps.toList := by
  unfold leS
  rw [ltCps_eq]
  simp [List.not_lt]
theorem leS_trans (a b c : Str) (h : leS a b = true) (h' : leS b c = true) : leS a c = true := leS_iff.mpr (List.le_trans (leS_iff.mp h) (leS_iff.mp h'))
theorem leS_total (a b : Str) : (leS a b || leS b a) = true := by
  rw [Bool.or_eq_true, leS_iff, leS_iff]
  exact List.le_total _ _
theorem leS_anti {a b : Str} (h : leS a b = true) (h' : leS b a = true) : a = b := by
  have e := List.le_antisymm (leS_iff.mp h) (leS_iff.mp h')
  cases a with
  | mk x => cases b with
    | mk y =>
      have e' : x = y := Array.toList_inj.mp e
      rw [e']
theorem rising_pw : ∀ (xs : List Str) (p : Str), risingS p xs = true → (∀ x ∈ xs, leS p x = true) ∧ xs.Pairwise (fun a b => leS a b = true)
  | [], _, _ => ⟨(fun _ h => by cases h), List.Pairwise.nil⟩
  | x :: r, p, h => by
    have h' : (!ltCps x.cps.toList p.cps.toList && risingS x r) = true := h
    rw [Bool.and_eq_true] at h'
    obtain ⟨h1, h2⟩ := rising_pw r x h'.2
    have hx : leS p x = true := h'.1
    refine ⟨fun y hy => ?_, List.pairwise_cons.mpr ⟨h1, h2⟩⟩
    rcases List.mem_cons.mp hy with e | e
    · rw [e]; exact hx
    · exact leS_trans _ _ _ hx (h1 y e)
theorem sorted_pw {xs : List Str} (h : sortedS xs = true) : xs.Pairwise (fun a b => leS a b = true) := by
  cases xs with
  | nil => exact List.Pairwise.nil
  | cons x r =>
    obtain ⟨h1, h2⟩ := rising_pw r x h
    exact List.pairwise_cons.mpr ⟨h1, h2⟩
theorem insS_pw (x : Str) : ∀ xs : List Str, xs.Pairwise (fun a b => leS a b = true) → (insS x xs).Pairwise (fun a b => leS a b = true)
  | [], _ => by
    unfold insS
    exact List.pairwise_singleton _ _
  | y :: r, h => by
    unfold insS
    have hy := List.pairwise_cons.mp h
    split
    · rename_i hx
      exact List.pairwise_cons.mpr ⟨fun z hz => (List.mem_cons.mp hz).elim (fun e => e ▸ hx) fun e => leS_trans _ _ _ hx (hy.1 z e), h⟩
    · rename_i hx
      have hx' : leS y x = true := by
        have q := leS_total x y
        rw [Bool.or_eq_true] at q
        exact q.resolve_left hx
      exact List.pairwise_cons.mpr ⟨fun z hz => (List.mem_cons.mp ((insS_perm x r).mem_iff.mp hz)).elim (fun e => e ▸ hx') (hy.1 z), insS_pw x r hy.2⟩
theorem sortS_pw : ∀ xs : List Str, (sortS xs).Pairwise (fun a b => leS a b = true)
  | [] => .nil
  | x :: r => insS_pw x _ (sortS_pw r)
theorem sort_eq {xs ys : List Str} (p : ys.Perm xs) (h : sortedS ys = true) : ys = sortS xs :=
  List.Perm.eq_of_pairwise (fun a b _ _ h1 h2 => leS_anti h1 h2) (sorted_pw h) (sortS_pw xs) (p.trans (sortS_perm xs).symm)
theorem sort_uniq {xs ys : List Str} (p : xs.Perm ys) : sortS xs = sortS ys :=
  List.Perm.eq_of_pairwise (fun a b _ _ h1 h2 => leS_anti h1 h2) (sortS_pw xs) (sortS_pw ys) ((sortS_perm xs).trans (p.trans (sortS_perm ys).symm))
/-! ### built-ins -/
def bSortS : List W → M W
  | [x] => fun h => match items h x with
    | some xs => (match wStrs xs with
      | some ys => if ys.length < 64 then alloc (.lst ((sortS ys).map W.str)) h else .no
      | none => .no)
    | none => .no
  | _ => bad
def tupOf : W → Option (List W)
  | .tup xs => some xs
  | _ => none
def bList1 : List W → M W
  | [x] => fun h => match items h x with
    | some xs => alloc (.lst xs) h
    | none => (match tupOf x with
      | some xs => alloc (.lst xs) h
      | none => .no)
  | _ => bad
def bTup1 : List W → M W
  | [x] => fun h => match items h x with
    | some xs => .ok (.tup xs) h
    | none => (match tupOf x with
      | some xs => .ok (.tup xs) h
      | none => .no)
  | _ => bad
def bStr1 : List W → M W
  | [.str x] => rtn (.str x)
  | _ => bad
def pairW : W → Option (Key × W)
  | .tup [k, v] => (keyW k).map fun k => (k, v)
  | _ => none
def bDict : List W → M W
  | [x] => fun h => match items h x with
    | some xs => (match mapO pairW xs with
      | some kvs => alloc (.dK (mergeKW [] kvs)) h
      | none => .no)
    | none => .no
  | _ => bad
section
variable {K : PySem.W.Frag} {cm : Cm} {ρ : List Addr} {h h' : Hw} {H : Hp}
theorem tupOf_of {x : W} {v : V} {xs : List W} (r : Rel K ρ H x v) (e : tupOf x = some xs) : ∃ a vs, v = .ref a ∧ SqT K H a vs ∧ Rels K ρ H xs vs := by
  cases r with
  | tup hq rl => cases e; exact ⟨_, _, rfl, hq, rl⟩
  | _ => cases e
theorem Rels.strs : ∀ (ns : List Str), Rels K ρ H (ns.map W.str) (ns.map V.str)
  | [] => .nil
  | n :: r => .cons (.str n) (Rels.strs r)
theorem pairs_of' : ∀ {xs : List W} {vs : List V} {kvs : List (Key × W)}, Rels K ρ H xs vs → mapO pairW xs = some kvs → ∃ ps kv, vs = ps.map V.ref ∧ Paired (fun p (q : Key × V) => SqT K H p [kV q.1, q.2]) ps kv ∧ KVs K ρ H kvs kv
  | _, _, _, .nil, e => by cases e; exact ⟨[], [], rfl, .nil, .nil⟩
  | x :: xs, v :: vs, kvs, .cons r t, e => by
    unfold mapO at e
    split at e
    · rename_i y ys e1 e2
      cases e
      obtain ⟨ps, kv, rfl, hp, hk⟩ := pairs_of' t e2
      cases r with
      | @tup ws us a hq r1 =>
        cases r1 with
        | nil => cases e1
        | cons ra ta =>
          cases ta with
          | nil => cases e1
          | cons rb tb =>
            cases tb with
            | cons _ _ => cases e1
            | nil =>
              rename_i w1 v1 w2 v2
              have e1' : (keyW w1).map (fun k => (k, w2)) = some y := e1
              cases q : keyW w1 with
              | none => rw [q] at e1'; cases e1'
              | some k =>
                rw [q] at e1'
                cases e1'
                have ek := keyW_of ra q
                subst ek
                exact ⟨a :: ps, (k, v2) :: kv, rfl, .cons hq hp, .cons rb hk⟩
      | _ => cases e1
    · cases e
theorem one' {ws : List W} {vs : List V} {f : W → M W} {g : List W → M W} {z : W} (r : Rels K ρ H ws vs) (hg : ∀ x, g [x] = f x) (hb : ∀ ws, (∀ x, ws ≠ [x]) → g ws = bad) (e : g ws h = .ok z h') : ∃ x v, ws = [x] ∧ vs = [v] ∧ Rel K ρ H x v ∧ f x h = .ok z h' := by
  cases r with
  | nil => rw [hb [] (fun x q => by cases q)] at e; cases e
  | cons r t =>
    cases t with
    | cons _ _ => rw [hb _ (fun x q => by cases q)] at e; cases e
    | nil =>
      rw [hg] at e
      exact ⟨_, _, rfl, rfl, r, e⟩
end
section
variable {X : Cx} {cm : Cm}
theorem wSortS : CallW X.K cm (rSortedS X.K) bSortS := by
  intro ρ h H ws vs z h' Q rh r e k
  obtain ⟨x, v, rfl, rfl, rx, e'⟩ := one' r (f := fun x => bSortS [x]) (fun _ => rfl) (fun ws hw => by cases ws with
    | nil => rfl
    | cons a t => cases t with
      | nil => exact absurd rfl (hw a)
      | cons _ _ => rfl) e
  have e2 : (match items h x with
    | some xs => (match wStrs xs with
      | some ys => if ys.length < 64 then alloc (.lst ((sortS ys).map W.str)) h else EL.R.no
      | none => EL.R.no)
    | none => EL.R.no) = .ok z h' := e'
  split at e2
  · rename_i xs hi
    split at e2
    · rename_i ys hy
      split at e2
      · rename_i hl
        cases e2
        obtain ⟨a, us, rfl, hq, rl⟩ := items_of rh rx hi
        have q := wStrs_of hy
        subst q
        rw [Rels.of_strs rl] at hq
        refine ⟨a, ys, rfl, hq, hl, fun zs p hp hs hn => ?_⟩
        rw [sort_eq hp hs]
        exact new_lst rh (Rels.strs _) hn k
      · cases e2
    · cases e2
  · cases e2
theorem wList1 : CallW X.K cm (fun xs H Q => ∃ p ys, xs = [.ref p] ∧ (SqL X.K H p ys ∨ SqT X.K H p ys) ∧ ∀ l, H l = none → Q (.ref l) (upd H l (.lst ys))) bList1 := by
  intro ρ h H ws vs z h' Q rh r e k
  obtain ⟨x, v, rfl, rfl, rx, e'⟩ := one' r (f := fun x => bList1 [x]) (fun _ => rfl) (fun ws hw => by cases ws with
    | nil => rfl
    | cons a t => cases t with
      | nil => exact absurd rfl (hw a)
      | cons _ _ => rfl) e
  have e2 : (match items h x with
    | some xs => alloc (.lst xs) h
    | none => (match tupOf x with
      | some xs => alloc (.lst xs) h
      | none => EL.R.no)) = .ok z h' := e'
  split at e2
  · rename_i xs hi
    cases e2
    obtain ⟨a, us, rfl, hq, rl⟩ := items_of rh rx hi
    exact ⟨a, us, rfl, .inl hq, fun l hl => new_lst rh rl hl k⟩
  · split at e2
    · rename_i xs ht
      cases e2
      obtain ⟨a, us, rfl, hq, rl⟩ := tupOf_of rx ht
      exact ⟨a, us, rfl, .inr hq, fun l hl => new_lst rh rl hl k⟩
    · cases e2
theorem wTup1 : CallW X.K cm (fun xs H Q => ∃ p ys, xs = [.ref p] ∧ ((SqL X.K H p ys ∧ ∀ l, H l = none → Q (.ref l) (upd H l (.tup ys))) ∨ (SqT X.K H p ys ∧ Q (.ref p) H))) bTup1 := by
  intro ρ h H ws vs z h' Q rh r e k
  obtain ⟨x, v, rfl, rfl, rx, e'⟩ := one' r (f := fun x => bTup1 [x]) (fun _ => rfl) (fun ws hw => by cases ws with
    | nil => rfl
    | cons a t => cases t with
      | nil => exact absurd rfl (hw a)
      | cons _ _ => rfl) e
  have e2 : (match items h x with
    | some xs => EL.R.ok (W.tup xs) h
    | none => (match tupOf x with
      | some xs => EL.R.ok (W.tup xs) h
      | none => EL.R.no)) = .ok z h' := e'
  split at e2
  · rename_i xs hi
    cases e2
    obtain ⟨a, us, rfl, hq, rl⟩ := items_of rh rx hi
    exact ⟨a, us, rfl, .inl ⟨hq, fun l hl => new_tup rh rl hl k⟩⟩
  · split at e2
    · rename_i xs ht
      cases e2
      obtain ⟨a, us, rfl, hq, rl⟩ := tupOf_of rx ht
      exact ⟨a, us, rfl, .inr ⟨hq, k.at rh (.tup hq rl)⟩⟩
    · cases e2
theorem wStr1 : CallW X.K cm (fun xs H Q => ∃ a, xs = [.str a] ∧ Q (.str a) H) bStr1 := by
  intro ρ h H ws vs z h' Q rh r e k
  cases r with
  | nil => cases e
  | cons r t =>
    cases t with
    | cons _ _ => cases r <;> cases e
    | nil =>
      cases r with
      | str x => cases e; exact ⟨x, rfl, k.at rh (.str x)⟩
      | _ => cases e
theorem wDict : CallW X.K cm (fun xs H Q => ∃ (a : Addr) (ps : List Addr) (kvs : List (Key × V)), xs = [.ref a] ∧ SqL X.K H a (ps.map V.ref) ∧ Paired (fun p kv => SqT X.K H p [kV kv.1, kv.2]) ps kvs ∧
    ∀ p, H p = none → Q (.ref p) (upd H p (.dK (mergeK [] kvs)))) bDict := by
  intro ρ h H ws vs z h' Q rh r e k
  obtain ⟨x, v, rfl, rfl, rx, e'⟩ := one' r (f := fun x => bDict [x]) (fun _ => rfl) (fun ws hw => by cases ws with
    | nil => rfl
    | cons a t => cases t with
      | nil => exact absurd rfl (hw a)
      | cons _ _ => rfl) e
  have e2 : (match items h x with
    | some xs => (match mapO pairW xs with
      | some kvs => alloc (.dK (mergeKW [] kvs)) h
      | none => EL.R.no)
    | none => EL.R.no) = .ok z h' := e'
  split at e2
  · rename_i xs hi
    split at e2
    · rename_i kvs hk
      cases e2
      obtain ⟨a, us, rfl, hq, rl⟩ := items_of rh rx hi
      obtain ⟨ps, kv, rfl, hp, rk⟩ := pairs_of' rl hk
      refine ⟨a, ps, kv, rfl, hq, hp, fun p hn => ?_⟩
      have l := (le_new (K := X.K) (ρ := ρ) (o := .dK (mergeK [] kv)) hn).trans (le_app p)
      exact k (ρ ++ [p]) _ _ l (rh.push hn (relO_dK (KVs.merge (rk.mono l) .nil))) (.ref (push_at rh))
    · cases e2
  · cases e2
end
/-- {k: v} -/
def mDisp1 (mk mv : ME) : ME := fun sw => bnd (alloc (.dK [])) fun d => bnd (mk sw) fun y => bnd (mv sw) fun z h => match dMut h d, keyW y with
  | some (p, []), some k => .ok d (h.set p (.dK (mergeKW [] [(k, z)])))
  | _, _ => .no
section
variable {X : Cx} {cm : Cm}
theorem re_disp1 {k v : Expr} {mk mv : ME} {pos : Pos} (hk : RE X cm k mk) (hv : RE X cm v mv) : RE X cm (.Dict [some k] [v] pos) (mDisp1 mk mv) := by
  refine peM (pe_disp (pps_cons hk hv pps_nil) (by rfl) (by rfl) (fun z => by cases z) (by show 1 ≤ 15; decide)) fun σ H Q q => ?_
  obtain ⟨ρ, h, sw, w, h', rh, rs, e, kq⟩ := q
  obtain ⟨d, h1, e1, e2⟩ := bnd_ok e
  obtain ⟨y, h2, e3, e4⟩ := bnd_ok e2
  obtain ⟨z, h3, e5, e6⟩ := bnd_ok e4
  cases e1
  intro p hp
  have l1 : Le X.K ρ H (ρ ++ [p]) (upd H p (.dK [])) := (le_new hp).trans (le_app p)
  have rh1 : RelH X.K cm (ρ ++ [p]) (h ++ [.dK []]) (upd H p (.dK [])) := rh.push hp ⟨[], upd_same, rfl, .nil⟩
  refine ⟨ρ ++ [p], _, sw, y, h2, rh1, rs.mono l1, e3, fun ρ2 H2 y' l2 rh2 ry => ?_⟩
  refine ⟨ρ2, h2, sw, z, h3, rh2, rs.mono (l1.trans l2), e5, fun ρ3 H3 z' l3 rh3 rz => ?_⟩
  have hpp : ρ3[h.length]? = some p := pre_get l3.pre (pre_get l2.pre (push_at rh))
  split at e6
  · rename_i p' kk hd hkk
    obtain ⟨ad, kv, ex, hp', ev, ea, rk⟩ := dMut_of rh3 (.ref hpp) hd
    cases ex
    cases ev
    cases rk
    have ek := keyW_of ry hkk
    subst ek
    cases e6
    refine ⟨ea, [(kk, z')], rfl, (by show 1 ≤ 15; decide), ?_⟩
    have lu : Le X.K ρ3 H3 ρ3 (upd H3 p (.dK (mergeK [] [(kk, z')]))) := le_mut ea trivial
    refine kq ρ3 _ _ (l1.trans (l2.trans (l3.trans lu))) (rh3.set hpp ea trivial (relO_dK (KVs.merge (.cons (rz.mono lu) .nil) .nil))) (.ref hpp)
  · cases e6
end
/-! ### dicts compared -/
def flV : W → Option V
  | .non => some .non
  | .bl b => some (.bl b)
  | .int i => some (.int i)
  | .str x => some (.str x)
  | _ => none
def flKV (kvs : List (Key × W)) : Option (List (Key × V)) := mapO (fun kv => (flV kv.2).map fun v => (kv.1, v)) kvs
def keqV (kb ka : List (Key × V)) : Bool := ka.all fun kv => match valV kb kv.1 with
  | some y => eqV kv.2 y
  | none => false
def fDeq (neg : Bool) : W → W → M W := fun x y h => match dOf h x, dOf h y with
  | some ka, some kb => (match flKV ka, flKV kb with
    | some va, some vb => .ok (.bl (neg != (va.length == vb.length && keqV vb va))) h
    | _, _ => .no)
  | _, _ => .no
theorem flV_of {K : PySem.W.Frag} {ρ : List Addr} {H : Hp} {w : W} {v u : V} (r : Rel K ρ H w v) (e : flV w = some u) : v = u ∧ flatV u = true := by
  cases r <;> cases e <;> exact ⟨rfl, rfl⟩
theorem flKV_of {K : PySem.W.Frag} {ρ : List Addr} {H : Hp} : ∀ {kvs : List (Key × W)} {kv us : List (Key × V)}, KVs K ρ H kvs kv → flKV kvs = some us → kv = us ∧ ∀ p ∈ us, flatV p.2 = true
  | _, _, _, .nil, e => by cases e; exact ⟨rfl, (fun p h => by cases h)⟩
  | (k, w) :: ws, (_, v) :: vs, us, .cons r t, e => by
    unfold flKV mapO at e
    split at e
    · rename_i y ys e1 e2
      cases e
      cases q : flV w with
      | none => rw [q] at e1; cases e1
      | some u =>
        rw [q] at e1
        cases e1
        obtain ⟨h1, h2⟩ := flV_of r q
        subst h1
        obtain ⟨h3, h4⟩ := flKV_of t e2
        subst h3
        exact ⟨rfl, fun p hp => (List.mem_cons.mp hp).elim (fun z => by rw [z]; exact h2) (h4 p)⟩
    · cases e
theorem hits_of {A : Around} {s : Shared} {kb : List (Key × V)} {vb : List (Key × Value)} (rb : KV kb vb) (fb : ∀ p ∈ kb, flatV p.2 = true) : ∀ {ka : List (Key × V)} {va : List (Key × Value)}, KV ka va → (∀ p ∈ ka, flatV p.2 = true) → PySem.W.KeqHits A s vb va (keqV kb ka)
  | _, _, .nil, _ => .nil
  | (k, x) :: ka, (_, u) :: va, .cons r t, fa => by
    obtain ⟨e, ru⟩ := r
    have e' : k = _ := e
    subst e'
    have q := rb.val k
    have ih := hits_of (A := A) (s := s) rb fb t fun p hp => fa p (List.mem_cons_of_mem _ hp)
    have step : keqV kb ((k, x) :: ka) = ((match valV kb k with
      | some y => eqV x y
      | none => false) && keqV kb ka) := rfl
    rw [step]
    cases h1 : valV kb k with
    | none =>
      rw [h1] at q
      exact .miss (RelO.none_of q)
    | some y =>
      rw [h1] at q
      obtain ⟨u', hu, ry⟩ := RelO.some_of q
      have fy : flatV y = true := by
        unfold valV at h1
        cases h2 : kb.find? fun kv => decide (kv.1 = k) with
        | none => rw [h2] at h1; cases h1
        | some p =>
          rw [h2] at h1
          cases h1
          exact fb p (List.mem_of_find?_eq_some h2)
      exact .hit hu (eqAt_V ru ry (fa _ List.mem_cons_self) fy) ih
def rDEq (neg : Bool) : R2 := fun x y H Q => ∃ a b ka kb, x = .ref a ∧ y = .ref b ∧ Rd H a (.dK ka) ∧ Rd H b (.dK kb) ∧ (∀ p ∈ ka, flatV p.2 = true) ∧ (∀ p ∈ kb, flatV p.2 = true) ∧ Q (.bl (neg != (ka.length == kb.length && keqV kb ka))) H
theorem op_dEq {X : Cx} (hu : X.A.units < cLine) : OpR X (compareOp .Eq) (rDEq false) := by
  intro pins s σ H x y v u Q I rx ry hq
  obtain ⟨a, b, ka, kb, rfl, rfl, ea, eb, fa, fb, q⟩ := hq
  cases (show v = Value.ref a from rx)
  cases (show u = Value.ref b from ry)
  obtain ⟨z1, d1, va, r1, D1⟩ := dk_rd I.hok ea
  obtain ⟨z2, d2, vb, r2, D2⟩ := dk_rd I.hok eb
  refine PySem.W.keq_eq d1 d2 D1 D2 hu (fun _ => hits_of r2 fb r1 fa) ?_
  rw [← r1.length, ← r2.length]
  exact ⟨.bl (ka.length == kb.length && keqV kb ka), H, I, rfl, by simpa using q⟩
theorem op_dNe {X : Cx} (hu : X.A.units < cLine) : OpR X (compareOp .NotEq) (rDEq true) := by
  intro pins s σ H x y v u Q I rx ry hq
  obtain ⟨a, b, ka, kb, rfl, rfl, ea, eb, fa, fb, q⟩ := hq
  cases (show v = Value.ref a from rx)
  cases (show u = Value.ref b from ry)
  obtain ⟨z1, d1, va, r1, D1⟩ := dk_rd I.hok ea
  obtain ⟨z2, d2, vb, r2, D2⟩ := dk_rd I.hok eb
  refine PySem.W.keq_ne d1 d2 D1 D2 hu (fun _ => hits_of r2 fb r1 fa) ?_
  rw [← r1.length, ← r2.length]
  exact ⟨.bl (!(ka.length == kb.length && keqV kb ka)), H, I, rfl, by simpa using q⟩
theorem wDEq {X : Cx} {cm : Cm} {neg : Bool} : OpW X.K cm (rDEq neg) (fDeq neg) := by
  intro ρ h H x y x' y' z h' Q rh rx ry e k
  unfold fDeq at e
  split at e
  · rename_i ka kb hx hy
    split at e
    · rename_i va vb ea eb
      cases e
      obtain ⟨p, a, kv, rfl, _, rfl, e1, rk⟩ := dOf_of rh rx hx
      obtain ⟨p2, b, kv2, rfl, _, rfl, e2, rk2⟩ := dOf_of rh ry hy
      obtain ⟨h1, f1⟩ := flKV_of rk ea
      obtain ⟨h2, f2⟩ := flKV_of rk2 eb
      subst h1 h2
      exact ⟨a, b, kv, kv2, rfl, rfl, e1, e2, f1, f2, k.at rh (.bl _)⟩
    · cases e
  · cases e
/-! ### isinstance of an own class -/
structure InsK (K : PySem.W.Frag) (C : Addr) : Prop where
  cl : Cls K C
  ha : PySem.W.findIn K (.ref C) "__class__" = some (some (.builtin "object.__class__"))
  hn : PySem.W.specialIn K (.builtin "object.__class__") "__get__" = some (some (.builtin "getset_descriptor.__get__"))
  htk : PySem.W.takesIn K (.builtin "object.__class__") = some true
  hm : PySem.W.mroIn K C (.type "object") = some true
/-- which class it is asked for; what each class and each built-in type answers -/
def mIsiC (tab : List (Str × Bool)) (tys : List String) (a : ME) : ME := fun sw => bnd (a sw) fun x h => match tab.find? fun q => insB h x q.1 with
  | some q => .ok (.bl q.2) h
  | none => if tyIn h x tys = true then .ok (.bl false) h else .no
theorem re_isiC {X : Cx} {cm : Cm} {C x : Str} {a : Expr} {ma : ME} {tab : List (Str × Bool)} {tys : List String} {p p2 pos : Pos} (hm : X.mg "isinstance" = none) (hC : X.mg x = some (.ref (cm C))) (ht : ∀ q ∈ tab, InsK X.K (cm q.1) ∧ PySem.W.kitOne X.K (.ref (cm q.1)) (.ref (cm C)) = some q.2)
    (hy : ∀ n ∈ tys, PySem.W.kitOne X.K (.type n) (.ref (cm C)) = some false) (ha : RE X cm a ma) (hg : Gl X "isinstance" := by rfl) (hg2 : Gl X x := by rfl) (hd : (x == ("__debug__" : Str)) = false := by decide)
    (hs1 : starEach (a :: [.Name x p2]) X.env = (false, eval a X.env) :: starEach [.Name x p2] X.env := by rfl) (hs2 : starEach (.Name x p2 :: []) X.env = (false, eval (.Name x p2) X.env) :: starEach [] X.env := by rfl) (hpl : (backTo pos (starEach [.Name x p2] X.env)).any (·.1) = false := by rfl) :
    RE X cm (.Call (.Name "isinstance" p) [a, .Name x p2] [] pos) (mIsiC tab tys ma) := by
  refine peM (pe_callB call_isi hg hm (by decide +kernel) (pa_cons ha (pa_cons (pe_glob (v := .ref (cm C)) hg2 hC rfl hd) pa_nil hs2) hs1) (by decide) (by decide) hs1 hpl) fun σ H Q q => ?_
  obtain ⟨ρ, h, sw, w, h', rh, rs, e, k⟩ := q
  obtain ⟨y, h1, e1, e2⟩ := bnd_ok e
  refine ⟨ρ, h, sw, y, h1, rh, rs, e1, fun ρ1 H1 v l1 rh1 rx => ?_⟩
  split at e2
  · rename_i q hq
    cases e2
    obtain ⟨hI, hk⟩ := ht q (List.mem_of_find?_eq_some hq)
    have hb : insB h' y q.1 = true := by simpa using List.find?_some hq
    obtain ⟨p', ad, dx, fv, rfl, rfl, _, ea⟩ := insB_of rh1 rx hb
    exact ⟨_, .ref (cm C), .ref (cm q.1), .ref (cm C), q.2, rfl, .own _, .base (.ins ea hI.cl hI.ha hI.hn hI.htk hI.hm), hk, k ρ1 H1 _ l1 rh1 (.bl _)⟩
  · split at e2
    · rename_i ht'
      cases e2
      unfold tyIn at ht'
      split at ht'
      · rename_i n hn
        exact ⟨v, .ref (cm C), .type n, .ref (cm C), false, rfl, .own _, tyX_of rh1 rx hn, hy n (by simpa using ht'), k ρ1 H1 _ l1 rh1 (.bl _)⟩
      · cases ht'
    · cases e2
end EL
namespace EL
open PySem PySem.Spec L2
open PyProof.Rows hiding St

/-! ### sets of texts, with what their table must bear to be walked -/
def keyT (e : Int × Value) : Str := match e.2 with
  | .str x _ => x
  | _ => Str.empty
def GoodT (P : Program) (w : World) (e : Int × Value) : Prop := ∃ x tk, e.2 = Value.str x tk ∧ e.1 = (strKind P w).hash x
structure TabT (P : Program) (w : World) (ob : Obj) (es : Array (Int × Value)) (ep : Nat) (tb : SetTable) (ks : List Str) : Prop where
  exs : ob.ExactSet
  dat : ob.data = .set es ep tb
  good : ∀ e ∈ es.toList, GoodT P w e
  perm : (es.toList.map keyT).Perm ks
  nd : ks.Nodup
  few : es.size < scanBound
  fit : tb.fits es.size = true
  ris : Ris tb.place.toList
  led : w.params.followText "set-order" = true ∨ tb.led = true
def SetS (P : Program) (w : World) (h : Heap) (a : Addr) (ks : List Str) : Prop := ∃ ob es ep tb, h.get? a = some ob ∧ TabT P w ob es ep tb ks
def addK (ks : List Str) (x : Str) : List Str := if x ∈ ks then ks else ks ++ [x]
section
variable {P : Program} {w : World} {A : Around} {E : Value → Shared → Prop} {s : Shared} {a : Addr} {ks : List Str}
theorem goodT_is {e : Int × Value} (g : GoodT P w e) (x : Str) : (strKind P w).is x e.2 = true ↔ keyT e = x := by
  obtain ⟨y, tk, h1, _⟩ := g
  unfold keyT
  rw [h1]
  show Value.isStrOf x (.str y tk) = true ↔ y = x
  constructor
  · intro z
    obtain ⟨t, q⟩ := Value.isStrOf_shape z
    cases q
    rfl
  · intro z
    subst z
    exact strKind_is P w y tk
theorem goodT_els {l : List (Int × Value)} (g : ∀ e ∈ l, GoodT P w e) : ElemsOf (strKind P w) l := fun e he => by
  obtain ⟨y, tk, h1, h2⟩ := g e he
  rw [h1]
  exact ⟨⟨y, strKind_is P w y tk, h2⟩, rfl⟩
theorem TabT.len {ob : Obj} {es : Array (Int × Value)} {ep : Nat} {tb : SetTable} (T : TabT P w ob es ep tb ks) : es.size = ks.length := by
  have q := T.perm.length_eq
  simpa using q
/-- the new entries are laid, and laid anew where the table is too full -/
theorem tailT {note : Bool → Sem Unit} (quiet : ∀ (b : Bool) (s₁ : Shared) (Q' : Unit → Shared → Prop), Q' () s₁ → wpAny (model P w) A (note b) Q' E s₁) {ob : Obj} {es es1 : Array (Int × Value)} {ep : Nat} {tb t2 : SetTable} {ks1 : List Str} (got : s.heap.get? a = some ob) (exs : ob.ExactSet) (dat : ob.data = .set es ep tb)
    (good : ∀ e ∈ es1.toList, GoodT P w e) (perm : (es1.toList.map keyT).Perm ks1) (nd : ks1.Nodup) (few : es1.size < scanBound) (fit : t2.fits es1.size = true) (ris : Ris t2.place.toList) (led : w.params.followText "set-order" = true ∨ t2.led = true) {gone : Bool} {R : Option Bool → Shared → Prop}
    (fin : ∀ h', Heap.SameBut a s.heap h' → SetS P w h' a ks1 → R (some true) { s with heap := h' }) :
    wpAny (model P w) A (storeSet a es1 t2 >>= fun _ => if (!gone && t2.tooFull) = true then (note (relayAll t2 es1 (SetTable.grown es1.size)).2.2 >>= fun _ => storeSet a (relayAll t2 es1 (SetTable.grown es1.size)).1 (relayAll t2 es1 (SetTable.grown es1.size)).2.1 >>= fun _ => pure (some true)) else pure (some true)) R E s := by
  apply wpAny_bind
  refine wpAny_storeSet_of got dat ?_ (fits_of_scanBound few)
  have put1 := store_at (es' := es1) (t' := t2) got dat
  have but1 := Heap.SameBut.update s.heap a (Obj.putSet es1 t2)
  cases full : (!gone && t2.tooFull) with
  | false => exact wpAny_pure (fin _ but1 ⟨_, es1, _, t2, put1, ⟨exs, rfl, good, perm, nd, few, fit, ris, led⟩⟩)
  | true =>
    rw [if_pos rfl]
    have q1 := relayAll_perm t2 es1 (SetTable.grown es1.size)
    have q2 := relayAll_fits t2 es1 (SetTable.grown es1.size)
    have q3 := relayAll_ris t2 es1 (SetTable.grown es1.size)
    have q4 := relayAll_led t2 es1 (SetTable.grown es1.size)
    generalize relayAll t2 es1 (SetTable.grown es1.size) = Z at q1 q2 q3 q4 ⊢
    obtain ⟨es2, t3, was⟩ := Z
    dsimp only at q1 q2 q3 q4 ⊢
    have same : es2.size = es1.size := by
      have := q1.length_eq
      simpa using this
    have few2 : es2.size < scanBound := same ▸ few
    apply wpAny_bind
    apply quiet
    apply wpAny_bind
    refine wpAny_storeSet_of put1 rfl ?_ (fits_of_scanBound few2)
    have put2 := store_at (es' := es2) (t' := t3) put1 rfl
    refine wpAny_pure (fin _ (but1.trans (Heap.SameBut.update _ a _)) ⟨_, es2, _, t3, put2, ⟨exs, rfl, fun e he => good e (q1.mem_iff.mp he), (q1.map keyT).trans perm, nd, few2, q2, q3, ?_⟩⟩)
    exact led.imp id fun z => q4.trans z
theorem addT {x : Str} {tk : Tok} {Q : Bool → Shared → Prop} (R : SetS P w s.heap a ks) (room : ks.length + 1 < scanBound) (fin : ∀ b h', Heap.SameBut a s.heap h' → SetS P w h' a (addK ks x) → Q b { s with heap := h' }) :
    wpAny (model P w) A (setAddHashed a (.str x tk) ((strKind P w).hash x)) Q E s := by
  obtain ⟨ob, es, ep, tb, got, T⟩ := R
  have isx : (strKind P w).is x (.str x tk) = true := strKind_is P w x tk
  have scx : (Value.str x tk).scannable = true := rfl
  have els := goodT_els T.good
  unfold setAddHashed setAddHashedIn
  apply wpAny_holding
  apply wpAny_bind
  refine wpAny_setState_of got T.dat T.fit ?_
  dsimp only
  rw [byScan_of scx T.few els]
  simp only [↓reduceIte]
  unfold setAddByScan
  apply wpAny_bind
  apply wpAny_bind
  apply wpAny_rule
  apply wpAny_bind
  refine wpAny_setScan_of isx got T.dat T.fit els ?_
  cases met : List.findIdx? (fun e => (strKind P w).is x e.2) es.toList with
  | some j =>
    dsimp only
    obtain ⟨hj, isj, _⟩ := List.findIdx?_eq_some_iff_getElem.mp met
    have old : x ∈ ks := T.perm.mem_iff.mp (List.mem_map.mpr ⟨_, List.getElem_mem hj, (goodT_is (T.good _ (List.getElem_mem hj)) x).mp isj⟩)
    have q := fin false s.heap (Heap.SameBut.refl a s.heap) ⟨ob, es, ep, tb, got, by unfold addK; rw [if_pos old]; exact T⟩
    exact wpAny_pure (wpAny_pure q)
  | none =>
    dsimp only
    have new : x ∉ ks := fun z => by
      obtain ⟨e, he, q⟩ := List.mem_map.mp (T.perm.mem_iff.mpr z)
      have c := List.findIdx?_eq_none_iff.mp met e he
      rw [(goodT_is (T.good e he) x).mpr q] at c
      cases c
    have still : ∀ (b : Bool) {s₁ : Shared} {Q' : Unit → Shared → Prop}, Q' () s₁ → wpAny (model P w) A (match b with
      | true => rule "set.scan.the-table-gave-way"
      | false => pure ()) Q' E s₁ := fun b s₁ Q' q => by
        cases b
        · exact wpAny_pure q
        · exact wpAny_rule q
    have q1 := layNew_perm tb es ((strKind P w).hash x) (.str x tk)
    have q2 := layNew_fits tb es ((strKind P w).hash x) (.str x tk)
    have q3 := layNew_ris tb es ((strKind P w).hash x) (.str x tk) T.ris
    have q4 := layNew_led tb es ((strKind P w).hash x) (.str x tk)
    generalize layNew tb es ((strKind P w).hash x) (.str x tk) = Z at q1 q2 q3 q4 ⊢
    obtain ⟨es1, t1, gone, gave⟩ := Z
    dsimp only at q1 q2 q3 q4 ⊢
    rw [Array.toList_push] at q1
    have good1 : ∀ e ∈ es1.toList, GoodT P w e := fun e he => by
      rcases List.mem_append.mp (q1.mem_iff.mp he) with z | z
      · exact T.good e z
      · rw [List.mem_singleton.mp z]
        exact ⟨x, tk, rfl, rfl⟩
    have perm1 : (es1.toList.map keyT).Perm (ks ++ [x]) := by
      have z := q1.map keyT
      rw [List.map_append] at z
      exact z.trans (T.perm.append_right _)
    have nd1 : (ks ++ [x]).Nodup := List.nodup_append.mpr ⟨T.nd, by simp, fun y hy z hz e => new (by rw [List.mem_singleton.mp hz] at e; exact e ▸ hy)⟩
    have few1 : es1.size < scanBound := by
      have z := q1.length_eq
      rw [List.length_append, Array.length_toList, Array.length_toList, T.len] at z
      simp at z
      omega
    have led1 : w.params.followText "set-order" = true ∨ t1.led = true := T.led.imp id fun z => q4.trans z
    have fin1 : ∀ h', Heap.SameBut a s.heap h' → SetS P w h' a (ks ++ [x]) → Q true { s with heap := h' } := fun h' sb r => fin true h' sb (by unfold addK; rw [if_neg new]; exact r)
    apply wpAny_bind
    apply still
    split
    · apply wpAny_bind
      rw [hashByValue_scannable 8 scx]
      apply wpAny_pure
      refine tailT ?_ got T.exs T.dat good1 perm1 nd1 few1 ?_ ?_ ?_ ?_
      · intro b s₁ Q' q
        cases b
        · exact wpAny_pure q
        · exact wpAny_rule q
      · split
        · exact q2
        · exact SetTable.fits_plain_off q2
      · split <;> exact q3
      · split <;> exact led1
      · intro h' sb r
        exact wpAny_pure (fin1 h' sb r)
    · apply wpAny_bind
      apply wpAny_pure
      simp only [↓reduceIte]
      refine tailT ?_ got T.exs T.dat good1 perm1 nd1 few1 q2 q3 led1 ?_
      · intro b s₁ Q' q
        cases b
        · exact wpAny_pure q
        · exact wpAny_rule q
      · intro h' sb r
        exact wpAny_pure (fin1 h' sb r)
end
end EL
namespace EL
open PySem PySem.Spec L2
open PyProof.Rows hiding St

/-! ### set(xs) of texts, and sorted of it -/
def dedK (xs : List Str) : List Str := xs.foldl addK []
theorem dedK_snoc (xs : List Str) (x : Str) : dedK (xs ++ [x]) = addK (dedK xs) x := by
  unfold dedK
  rw [List.foldl_append]
  rfl
theorem addK_mem {ks : List Str} {x y : Str} : y ∈ addK ks x ↔ y ∈ ks ∨ y = x := by
  unfold addK
  split
  · rename_i h
    exact ⟨.inl, fun z => z.elim id fun e => e ▸ h⟩
  · rw [List.mem_append, List.mem_singleton]
theorem addK_nd {ks : List Str} {x : Str} (h : ks.Nodup) : (addK ks x).Nodup := by
  unfold addK
  split
  · exact h
  · rename_i hn
    exact List.nodup_append.mpr ⟨h, by simp, fun y hy z hz e => hn (by rw [List.mem_singleton.mp hz] at e; exact e ▸ hy)⟩
theorem dedK_all (xs : List Str) : ∀ (ks : List Str), ks.Nodup → (xs.foldl addK ks).Nodup ∧ (∀ y, y ∈ xs.foldl addK ks ↔ y ∈ ks ∨ y ∈ xs) ∧ (xs.foldl addK ks).length ≤ ks.length + xs.length := by
  induction xs with
  | nil => exact fun ks h => ⟨h, fun y => by simp, by simp⟩
  | cons x r ih =>
    intro ks h
    obtain ⟨h1, h2, h3⟩ := ih (addK ks x) (addK_nd h)
    refine ⟨h1, fun y => ?_, ?_⟩
    · rw [List.foldl_cons, h2, addK_mem, List.mem_cons]
      constructor
      · rintro ((q | q) | q)
        · exact .inl q
        · exact .inr (.inl q)
        · exact .inr (.inr q)
      · rintro (q | q | q)
        · exact .inl (.inl q)
        · exact .inl (.inr q)
        · exact .inr q
    · have hl : (addK ks x).length ≤ ks.length + 1 := by
        unfold addK
        split <;> simp
      rw [List.foldl_cons, List.length_cons]
      omega
theorem dedK_nd (xs : List Str) : (dedK xs).Nodup := (dedK_all xs [] List.nodup_nil).1
theorem dedK_mem {xs : List Str} {y : Str} : y ∈ dedK xs ↔ y ∈ xs := by
  have q := (dedK_all xs [] List.nodup_nil).2.1 y
  unfold dedK
  simpa using q
theorem dedK_len (xs : List Str) : (dedK xs).length ≤ xs.length := by
  have q := (dedK_all xs [] List.nodup_nil).2.2
  unfold dedK
  simpa using q
theorem SetS.at {P : Program} {w : World} {h h' : Heap} {a : Addr} {ks : List Str} (R : SetS P w h a ks) (k : ∀ o, h.get? a = some o → h'.get? a = some o) : SetS P w h' a ks := by
  obtain ⟨ob, es, ep, tb, got, T⟩ := R
  exact ⟨ob, es, ep, tb, k _ got, T⟩
section
variable {P : Program} {w : World} {A : Around} {R : Result → Shared → Prop} {I : Addr} {fp wr : List Addr} {G : Array GenState → Array GenState → Prop} {n : Nat} {Pv : Nat → Value → Prop} {St : Nat → Shared → Prop}
/-- the texts of a walk go into the set one by one -/
theorem loopT (W : WalksS P w A.in1 I fp wr G n Pv St) (S : Addr) (out : S ∉ fp) (xs : List Str) (hn : xs.length = n) (room : n + 1 < scanBound) (val : ∀ i v, Pv i v → ∃ t, v = .str (xs.getD i Str.empty) t) :
    ∀ (k i : Nat) (s : Shared), n - i = k → i ≤ n → St i s → SetS P w s.heap S (dedK (xs.take i)) →
      (∀ s', Moved (S :: wr) G s s' → SetS P w s'.heap S (dedK xs) → R (.ok (.ret .none)) s') → codeAny (model P w) A (.builtin "set.update.loop" ⟨[.ref S, .ref I], []⟩) R s := by
  have outw : S ∉ wr := fun z => out (W.sub _ z)
  have more : ∀ b ∈ wr, b ∈ S :: wr := fun b z => List.mem_cons_of_mem _ z
  intro k
  induction k with
  | zero =>
    intro i s hk hi st set ret
    have ei : i = n := by omega
    subst ei
    apply codeAny_builtin PyProof.Rows.F.entry_set_update_loop
    rw [Around.under_plainId PyProof.Rows.F.plain_set_update_loop _]
    show wpAny _ A.in1 (pyNext (.ref I) >>= _) _ _ s
    apply wpAny_bind
    refine W.done s _ _ st fun s' mv => ?_
    show wpAny _ A.in1 (PySem.ret Value.none) _ _ s'
    refine wpAny_pure (ret s' (mv.mono more) ?_)
    rw [List.take_of_length_le (by omega)] at set
    exact set.at fun o e => mv.heap S o outw e
  | succ k ih =>
    intro i s hk hi st set ret
    have lt : i < n := by omega
    apply codeAny_builtin PyProof.Rows.F.entry_set_update_loop
    rw [Around.under_plainId PyProof.Rows.F.plain_set_update_loop _]
    show wpAny _ A.in1 (pyNext (.ref I) >>= _) _ _ s
    apply wpAny_bind
    refine W.item i s _ _ lt st fun v s' pv st' mv => ?_
    obtain ⟨t, rfl⟩ := val i v pv
    have set' := set.at (h' := s'.heap) fun o e => mv.heap S o outw e
    show wpAny _ A.in1 (holding [Value.str (xs.getD i Str.empty) t] (setAdd S (.str (xs.getD i Str.empty) t)) >>= _) _ _ s'
    apply wpAny_bind
    apply wpAny_holding
    unfold setAdd
    apply wpAny_holding
    apply wpAny_bind
    refine (strKind P w).pyHash (k := xs.getD i Str.empty) (strKind_is _ _ _ _) ?_
    have few : (dedK (xs.take i)).length + 1 < scanBound := by
      have q := dedK_len (xs.take i)
      rw [List.length_take] at q
      omega
    refine addT (s := { s' with toks := s'.toks + 1 }) set' few fun b h' but set2 => ?_
    have nxt : SetS P w h' S (dedK (xs.take (i + 1))) := by
      have e1 : xs.take (i + 1) = xs.take i ++ [xs.getD i Str.empty] := by
        rw [List.take_succ, List.getD_eq_getElem?_getD, List.getElem?_eq_getElem (by omega)]
        rfl
      rw [e1, dedK_snoc]
      exact set2
    refine wpAny_pure ⟨plainId_quiet PyProof.Rows.F.plain_set_update_loop _, ih (i + 1) _ (by omega) lt (W.frame _ s' _ _ st' (Nat.le_succ _) fun b hb o e => ?_) nxt fun s'' mv2 set3 => ?_⟩
    · rw [but.2 b fun z => out (by rw [← z]; exact hb)]
      exact e
    · refine ret s'' (Moved.trans W.gtrans ((mv.mono more).then_heap (Nat.le_succ _) fun b o hb e => ?_) mv2) set3
      rw [but.2 b fun z => hb (by rw [z]; exact List.mem_cons_self)]
      exact e
end
section
variable {P : Program} {w : World} {A : Around} {E : Value → Shared → Prop} {s : Shared}
abbrev newSetO (w : World) : Obj := { cls := .type "set", dict := none, data := .set #[] 0 (.fresh 0 0 (!w.params.followText "set-order")) }
theorem made_set1 (x : Value) {Q : Value → Shared → Prop} (fin : Q (.ref s.heap.objs.size) { s with heap := s.heap.push (newSetO w) }) : codeAny (model P w) A (.call (.builtin "set.__new__") ⟨[.type "set", x], []⟩) (wants Q E) s := by
  apply codeAny_of_tree
  show wpAny _ A.in1 (checkBuiltinCall "set.__new__" ⟨[.type "set", x], []⟩ >>= fun _ => again (.builtin "set.__new__" ⟨[.type "set", x], []⟩)) _ _ s
  apply wpAny_bind
  apply wpAny_of_eq (F.newCall_set_1 x)
  refine wpAny_pure ⟨plainId_quiet F.plain_set_new _, codeAny_builtin F.entry_set_new ?_⟩
  rw [Around.under_plainId F.plain_set_new _]
  unfold Builtin.«set.__new__» Builtin.Frozenset.newClass
  have z := sub_set_self
  obtain ⟨hp, g, d, tk, os⟩ := s
  dsimp only
  wp_walk
  apply wpAny_askSetting
  apply wpAny_pure
  dsimp only
  simp only [newObj]
  apply wpAny_bind
  apply wpAny_alloc
  apply wpAny_pure
  exact wpAny_pure fin
theorem setS_new (h : Heap) : SetS P w (h.push (newSetO w)) h.objs.size [] := by
  refine ⟨_, #[], 0, _, Heap.get?_push_size _ rfl, ⟨⟨rfl, rfl, rfl⟩, rfl, (fun e he => by simp at he), by simp, List.nodup_nil, (by decide), by rfl, List.Pairwise.nil, ?_⟩⟩
  show _ ∨ (!w.params.followText "set-order") = true
  cases w.params.followText "set-order"
  · exact .inr rfl
  · exact .inl rfl
set_option maxHeartbeats 3000000 in
theorem call_setT {l : Addr} {items : Array Value} {xs : List Str} {Q : Value → Shared → Prop} (calm : A.handled = none) (isl : s.heap.IsList l items) (are : StrsAre items.toList xs) (room : xs.length + 1 < scanBound)
    (fin : ∀ (h' : Heap) (tk : Nat), SetS P w h' s.heap.objs.size (dedK xs) → (∀ b o, s.heap.get? b = some o → h'.get? b = some o) → Q (.ref s.heap.objs.size) { s with heap := h', toks := tk }) : wpAny (model P w) A (call (.type "set") [.ref l]) Q E s := by
  have nx : xs.length = items.size := by
    have q := are.length
    simpa using q.symm
  obtain ⟨c, tl, hmro⟩ := F.called_set.mro
  have f1 := F.called_set.made
  have f2 := F.called_set.sub
  have f3 := F.called_set.notType
  have f4 := F.called_set.canCreate
  have f5 := F.typeCall_set_1 (.ref l)
  apply wpAny_call
  apply codeAny_of_tree
  show wpAny _ _ (callAny (.type "set") _) _ _ _
  refine wpAny_pure ⟨Code.quiet_builtin _ (by decide +kernel), codeAny_builtin F.entry_type_call ?_⟩
  rw [Around.under_plain (weight_type_call_type "set" [.ref l] []) rfl]
  repeat (any_goals (first | assumption | wp_step))
  refine codeAny_mono (made_set1 (.ref l) (E := E) (Q := fun obj s₁ => obj = .ref s.heap.objs.size ∧ s₁ = { s with heap := s.heap.push (newSetO w) }) ⟨rfl, rfl⟩) fun r s₁ back => ?_
  cases r with
  | error e => exact back
  | ok fl =>
    cases fl with
    | ret obj =>
      obtain ⟨rfl, rfl⟩ := back
      have gS : (s.heap.push (newSetO w)).get? s.heap.objs.size = some (newSetO w) := Heap.get?_push_size _ rfl
      have tS : Shared.TypeIs { s with heap := s.heap.push (newSetO w) } (.ref s.heap.objs.size) "set" := ⟨_, gS, rfl⟩
      have f6 := F.called_set.init.lookup
      have f7 := F.called_set.init.bind (.ref s.heap.objs.size)
      repeat (any_goals (first | assumption | wp_step))
      refine codeAny_mono (codeAny_call_builtin (R := wants (fun r s₂ => r = .none ∧ ∃ h' tk, s₂ = { s with heap := h', toks := tk } ∧ SetS P w h' s.heap.objs.size (dedK xs) ∧ (∀ b o, s.heap.get? b = some o → h'.get? b = some o)) E) F.called_set.init.plain F.entry_set_init (check_set_init_1 tS ?_)) fun r₂ s₂ back₂ => ?_
      · obtain ⟨ol, gl, cl, nl, dl⟩ := isl
        obtain ⟨ocls, odict, odata, oslots⟩ := ol
        simp only at cl dl
        subst cl
        subst dl
        have gl1 : (s.heap.push (newSetO w)).get? l = some { cls := .type "list", dict := odict, data := .seq items nl, slots := oslots } := Heap.get?_push_of_some _ gl
        have g1 := F.sub_list_set
        have g2 := F.sub_list_frozenset
        have g3 : (Value.type "list" == Value.type "dict") = false := by decide
        have isl1 : (s.heap.push (newSetO w)).IsList l items := ⟨_, gl1, rfl, nl, rfl⟩
        unfold Builtin.«set.__init__» noKeywords Builtin.Frozenset.updateFrom
        generalize keepIt : pyIter = PI
        wp_walk
        subst keepIt
        refine wpAny_pyIter_list isl1 ?_
        apply wpAny_bind
        apply wpAny_runValue
        have ltl : l < s.heap.objs.size := Heap.lt_size gl
        have calm3 : A.in1.in1.in1.handled = none := by simp [calm]
        have neI : l ≠ (s.heap.push (newSetO w)).objs.size := by
          rw [Heap.size_push]
          exact Nat.ne_of_lt (Nat.lt_succ_of_lt ltl)
        have outS : s.heap.objs.size ∉ [(s.heap.push (newSetO w)).objs.size, l] := by
          rw [Heap.size_push]
          simp only [List.mem_cons, List.mem_singleton, List.not_mem_nil, or_false, not_or]
          exact ⟨Nat.ne_of_lt (Nat.lt_succ_self _), Nat.ne_of_gt ltl⟩
        have val : ∀ (i : Nat) (v : Value), items[i]? = some v → ∃ t, v = .str (xs.getD i Str.empty) t := fun i v hv => SS.strs_at are i v (by rw [Array.getElem?_toList]; exact hv)
        refine loopT ((Walks.list calm3 _ l neI items).toS) s.heap.objs.size outS xs nx (by omega) val (items.size - 0) 0 _ (by omega) (Nat.zero_le _) ⟨⟨_, Heap.get?_push_size _ rfl, rfl, rfl⟩, (isl1.push _)⟩ ?set0 ?back
        case set0 => exact (setS_new (P := P) (w := w) s.heap).at fun o e => Heap.get?_push_of_some _ e
        case back =>
          intro s' mv set
          obtain ⟨h', g', d', tk', os'⟩ := s'
          have e1 : g' = s.gens := mv.gens
          have e2 : d' = s.drawn := mv.drawn
          have e3 : os' = s.os := mv.os
          subst e1
          subst e2
          subst e3
          show wpAny _ _ _ _ _ _
          apply wpAny_pure
          show wpAny _ _ (PySem.ret Value.none) _ _ _
          refine wpAny_pure ⟨rfl, h', tk', rfl, set, fun b o e => ?_⟩
          have lb : b < s.heap.objs.size := Heap.lt_size e
          refine mv.heap b o ?_ (Heap.get?_push_of_some _ (Heap.get?_push_of_some _ e))
          rw [Heap.size_push]
          simp only [List.mem_cons, List.mem_singleton, List.not_mem_nil, or_false, not_or]
          exact ⟨Nat.ne_of_lt lb, Nat.ne_of_lt (Nat.lt_succ_of_lt lb)⟩
      · cases r₂ with
        | error e => exact back₂
        | ok fl₂ =>
          cases fl₂ with
          | ret r =>
            obtain ⟨rfl, h', tk, rfl, set, keep⟩ := back₂
            repeat (any_goals (first | assumption | wp_step))
            exact fin _ _ set keep
          | _ => exact back₂.elim
    | _ => exact back.elim
end
end EL
namespace EL
open PySem PySem.Spec L2
open PyProof.Rows hiding St

section
variable {P : Program} {w : World} {A : Around} {E : Value → Shared → Prop} {s : Shared} {a : Addr} {ks : List Str}
theorem strs_of_keys : ∀ (l : List Value), (∀ v ∈ l, ∃ x tk, v = Value.str x tk) → StrsAre l (l.map fun v => keyT (0, v))
  | [], _ => .nil
  | v :: l, h => by
    obtain ⟨x, tk, rfl⟩ := h v List.mem_cons_self
    exact .cons x tk (strs_of_keys l fun u hu => h u (List.mem_cons_of_mem _ hu))
/-- sorted(a set of texts) -/
theorem sorted_setT {Q : Value → Shared → Prop} (R : SetS P w s.heap a ks) (calm : A.handled = none) (few : ks.length < 64)
    (fin : ∀ s' p (out : Array Value) (c : Nat), (∀ b o, s.heap.get? b = some o → s'.heap.get? b = some o) → s'.gens = s.gens → s'.os = s.os → s.heap.objs.size ≤ p → s'.heap.get? p = some (seqObj "list" out c) → StrsAre out.toList (sortS ks) → Q (.ref p) s') :
    wpAny (model P w) A (call (.builtin "sorted") [.ref a]) Q E s := by
  obtain ⟨ob, es, ep, tb, got, T⟩ := R
  apply Calls.call_function_entry kind_sorted plain_sorted entry_sorted (args_sorted1 _)
  unfold Builtin.«sorted»
  refine wpAny_bind (m := checkCount "sorted" 1 1 _) (wpAny_pure ?_)
  apply wpAny_bind
  refine collect_set (A := A.in1) calm ⟨ob, got, T.exs.1, T.dat⟩ T.fit T.few T.ris T.led fun s1 vs keep big gens os pm => ?_
  have len : vs.length = ks.length := by
    rw [pm.length_eq, List.length_map, Array.length_toList]
    exact T.len
  have are : StrsAre vs (vs.map fun v => keyT (0, v)) := strs_of_keys vs fun v hv => by
    obtain ⟨e, he, q⟩ := List.mem_map.mp (pm.mem_iff.mp hv)
    obtain ⟨x, tk, h1, _⟩ := T.good e he
    exact ⟨x, tk, by rw [← q]; exact h1⟩
  have keys : (vs.map fun v => keyT (0, v)).Perm ks := by
    have q := pm.map fun v => keyT (0, v)
    rw [List.map_map] at q
    exact q.trans T.perm
  apply wpAny_bind
  refine wpAny_newList ?_ (by rw [len, sizeLine_eq]; omega)
  have gL : (s1.heap.push (seqObj "list" vs.toArray 0)).get? s1.heap.objs.size = some (seqObj "list" vs.toArray 0) := Heap.get?_push_size _ rfl
  apply wpAny_bind
  apply wpAny_holding
  refine wpAny_call_entry slot_list_sort ⟨_, gL, rfl⟩ entry_list_sort (list_sort_treeK strKind_oneLt gL are.keysOf (fun v₁ v₂ rest e => keyKind_strs (by rw [← e]; exact are)) (by rw [len]; exact few) fun st' hp hs => ⟨_, rfl, ?_⟩) (args_list_sort _)
  obtain ⟨ys, g1, g2, g3⟩ := sorted_out_str are hp hs
  obtain ⟨c, hc⟩ := sortedHeap_at (vs := vs) (out := (arrOf st').map (·.2)) gL
  rw [sort_eq (g2.trans keys) g3] at g1
  refine wpAny_pure ⟨_, rfl, fin _ s1.heap.objs.size _ c (fun b u e => ?_) gens os big hc g1⟩
  have q := keep b u e
  have lt := Heap.lt_size q
  show (sortedHeap (s1.heap.push (seqObj "list" vs.toArray 0)) s1.heap.objs.size vs _).get? b = some u
  rw [sortedHeap_old (Nat.ne_of_lt lt) (by rw [size_push']; exact Nat.lt_succ_of_lt lt)]
  exact Heap.get?_push_of_some _ q
end
/-! ### by values -/
def SetSO (P : Program) (w : World) (a : Addr) (ks : List Str) : HO := .ext fun h => SetS P w h a ks
theorem setSO_ok {P : Program} {w : World} {H : Hp} {h : Heap} {a : Addr} {ks : List Str} (R : SetS P w h a ks) : ObjOk P w H h a (SetSO P w a ks) := by
  have ⟨ob, _, _, _, got, _⟩ := R
  exact ⟨R, ⟨ob, got⟩, fun h1 h2 p k => SetS.at p k⟩
theorem setSO_get {X : Cx} {pins : List (Addr × Obj)} {σ : St} {H : Hp} {s : Shared} {a : Addr} {ks : List Str} (I : Inv X pins σ H s) (ha : H a = some (SetSO X.prog X.w a ks)) : SetS X.prog X.w s.heap a ks := (I.hok a _ ha).1
def rSetS (P : Program) (w : World) (K : PySem.W.Frag) : List V → Hp → VK → Prop := fun vs H Q => ∃ (a : Addr) (xs : List Str), vs = [.ref a] ∧ SqL K H a (xs.map V.str) ∧ xs.length + 1 < 4096 ∧ ∀ p, H p = none → Q (.ref p) (upd H p (SetSO P w p (dedK xs)))
def rSortSetS (P : Program) (w : World) : List V → Hp → VK → Prop := fun vs H Q => ∃ (a : Addr) (ks : List Str), vs = [.ref a] ∧ H a = some (SetSO P w a ks) ∧ ks.length < 64 ∧ ∀ p, H p = none → Q (.ref p) (upd H p (.lst ((sortS ks).map V.str)))
section
variable {X : Cx}
theorem cr_setS (hc : X.calm = true) : CallR X (.type "set") (rSetS X.prog X.w X.K) := by
  intro pins s σ H vs us Q I r q
  obtain ⟨a, xs, rfl, hs, few, q⟩ := q
  obtain ⟨its, rv, hl, _⟩ := I.list hs
  rw [Vals.ref1 r]
  refine call_setT (I.ok.hd hc) hl.isList rv.strs (by show _ < 4096; exact few) fun h' tk R k => ?_
  exact ⟨.ref s.heap.objs.size, _, I.laid (t' := tk) k (Nat.le_refl _) (setSO_ok R), rfl, q _ (I.hok.fresh (Nat.le_refl _))⟩
theorem cr_sortSetS (hc : X.calm = true) : CallR X (.builtin "sorted") (rSortSetS X.prog X.w) := by
  intro pins s σ H vs us Q I r q
  obtain ⟨a, ks, rfl, ha, few, q⟩ := q
  rw [Vals.ref1 r]
  refine sorted_setT (setSO_get I ha) (I.ok.hd hc) few fun s' p out c keep gens os big hp are => ?_
  have hn : H p = none := I.hok.fresh big
  have len : ((sortS ks).map V.str).length ≤ sizeLine := by
    rw [List.length_map, show (sortS ks).length = ks.length from (sortS_perm ks).length_eq, sizeLine_eq]
    omega
  have J : Inv X pins σ (upd H p (.lst ((sortS ks).map V.str))) { s with heap := s'.heap, gens := s'.gens, drawn := s'.drawn, toks := s'.toks } :=
    I.call (ch := []) (Un.laid keep big hn) (I.hok.laid keep big ⟨len, out.toList, c, vals_of_strs are, hp⟩) (by rw [gens]; exact I.bare) (fun _ z => nomatch z)
  have e : s' = { s with heap := s'.heap, gens := s'.gens, drawn := s'.drawn, toks := s'.toks } := by
    cases s'
    cases s
    cases os
    rfl
  rw [e]
  exact ⟨.ref p, _, J, rfl, q p hn⟩
end
/-- sorted(set(xs)) of a list of texts -/
def bSortSet : List W → M W
  | [x] => fun h => match items h x with
    | some xs => (match wStrs xs with
      | some ys => if ys.length < 64 then alloc (.lst ((sortS (dedK ys)).map W.str)) h else .no
      | none => .no)
    | none => .no
  | _ => bad
section
variable {X : Cx} {cm : Cm} {a : Expr} {ma : ME} {p p2 pos pos2 : Pos}
theorem re_sortSet (hc : X.calm = true) (hm : X.mg "sorted" = none) (hm2 : X.mg "set" = none) (ha : RE X cm a ma) (hg : Gl X "sorted" := by rfl) (hg2 : Gl X "set" := by rfl)
    (h1 : starEach [a] X.env = [(false, eval a X.env)] := by rfl) (h2 : (backTo pos2 (starEach ([] : List Expr) X.env)).any (·.1) = false := by rfl)
    (h3 : starEach [.Call (.Name "set" p2) [a] [] pos2] X.env = [(false, eval (.Call (.Name "set" p2) [a] [] pos2) X.env)] := by rfl) (h4 : (backTo pos (starEach ([] : List Expr) X.env)).any (·.1) = false := by rfl) :
    RE X cm (.Call (.Name "sorted" p) [.Call (.Name "set" p2) [a] [] pos2] [] pos) (mCall bSortSet (aCons ma aNil)) := by
  refine peM (pe_callB (cr_sortSetS hc) hg hm (by decide +kernel) (pa_cons (pe_callTy (cr_setS hc) hg2 hm2 (by decide +kernel) (pa_cons ha pa_nil h1) (by decide) (by decide) h1 h2) pa_nil h3) (by decide) (by decide) h3 h4) fun σ H Q q => ?_
  obtain ⟨ρ, h, sw, w, h', rh, rs, e, k⟩ := q
  obtain ⟨ws, h1, e1, e2⟩ := bnd_ok e
  obtain ⟨x, h3, e3, e4⟩ := bnd_ok e1
  obtain ⟨us, h4, e5, e6⟩ := bnd_ok e4
  cases e5
  cases e6
  refine ⟨ρ, h, sw, x, h1, rh, rs, e3, fun ρ1 H1 v l1 rh1 rx => ?_⟩
  have e2' : (match items h1 x with
    | some xs => (match wStrs xs with
      | some ys => if ys.length < 64 then alloc (.lst ((sortS (dedK ys)).map W.str)) h1 else EL.R.no
      | none => EL.R.no)
    | none => EL.R.no) = .ok w h' := e2
  split at e2'
  · rename_i xs hi
    split at e2'
    · rename_i ys hy
      split at e2'
      · rename_i hl
        cases e2'
        obtain ⟨ad, vs, rfl, hq, rl⟩ := items_of rh1 rx hi
        have q := wStrs_of hy
        subst q
        rw [Rels.of_strs rl] at hq
        refine ⟨ad, ys, rfl, hq, by omega, fun D hD => ?_⟩
        have l2 : Le X.K ρ1 H1 ρ1 (upd H1 D (SetSO X.prog X.w D (dedK ys))) := le_new hD
        refine ⟨D, dedK ys, rfl, upd_same, by have := dedK_len ys; omega, fun D2 hD2 => ?_⟩
        refine new_lst (rh1.new hD) (Rels.strs _) hD2 fun ρ3 H3 v3 l3 => k ρ3 H3 v3 (l1.trans (l2.trans l3))
      · cases e2'
    · cases e2'
  · cases e2'
end
end EL
namespace EL
open PySem PySem.Spec L2
open PyProof.Rows hiding St

/-! ### set(d), d a dict whose keys are texts -/
theorem tab0 : ∀ n : Fin 31, ∀ led : Bool, (match (SetTable.fresh 0 0 led).roomFor n.val with
    | none => true
    | some wanted => decide (SetTable.sizeAbove wanted ≤ 16777216) && (match (SetTable.fresh 0 0 led).relaid #[] wanted with
      | some (t', order) => decide (order = #[]) && t'.fits 0 && decide (t'.place = #[]) && (t'.led == led)
      | none => false)) = true := by decide +kernel
section
variable {P : Program} {w : World} {A : Around} {E : Value → Shared → Prop} {s : Shared} {a : Addr}
theorem relay0 {o : Obj} {ep : Nat} {led : Bool} {wanted : Nat} {t' : SetTable} (got : s.heap.get? a = some o) (exs : o.ExactSet) (dat : o.data = .set #[] ep (.fresh 0 0 led)) (hled : w.params.followText "set-order" = true ∨ led = true)
    (h1 : SetTable.sizeAbove wanted ≤ 16777216) (h2 : (SetTable.fresh 0 0 led).relaid #[] wanted = some (t', #[])) (h3 : t'.fits 0 = true) (h4 : t'.place = #[]) (h5 : t'.led = led) {Q : Unit → Shared → Prop}
    (fin : ∀ h', Heap.SameBut a s.heap h' → SetS P w h' a [] → Q () { s with heap := h' }) : wpAny (model P w) A (setRelay a wanted) Q E s := by
  unfold setRelay
  apply wpAny_bind
  refine wpAny_setState_of got dat (by rfl) ?_
  dsimp only
  rw [if_neg (by rw [sizeLine_eq]; omega)]
  have e : ((#[] : Array (Int × Value)).map (·.1)) = #[] := by simp
  rw [e, h2]
  refine wpAny_bind (m := _) ?_
  show wpAny _ _ (pure ((#[] : Array (Int × Value)), t')) _ _ s
  apply wpAny_pure
  refine wpAny_storeSet_of got dat ?_ (by rw [sizeLine_eq]; exact Nat.zero_le _)
  refine fin _ (Heap.SameBut.update s.heap a _) ⟨_, #[], _, t', store_at got dat, ⟨exs, rfl, (fun e he => by simp at he), by simp, List.nodup_nil, (by decide), h3, ?_, ?_⟩⟩
  · rw [h4]
    exact List.Pairwise.nil
  · rw [h5]
    exact hled
theorem room0 {o : Obj} {ep : Nat} {led : Bool} {n : Nat} (got : s.heap.get? a = some o) (exs : o.ExactSet) (dat : o.data = .set #[] ep (.fresh 0 0 led)) (hled : w.params.followText "set-order" = true ∨ led = true) (hn : n < 31) {Q : Unit → Shared → Prop}
    (fin : ∀ h', Heap.SameBut a s.heap h' → SetS P w h' a [] → Q () { s with heap := h' }) : wpAny (model P w) A (setRoomFor a n) Q E s := by
  have q := tab0 ⟨n, hn⟩ led
  unfold setRoomFor
  apply wpAny_bind
  refine wpAny_setState_of got dat (by rfl) ?_
  dsimp only at q ⊢
  cases r : (SetTable.fresh 0 0 led).roomFor n with
  | none =>
    exact wpAny_pure (fin s.heap (Heap.SameBut.refl a s.heap) ⟨o, #[], ep, _, got, ⟨exs, dat, (fun e he => by simp at he), by simp, List.nodup_nil, (by decide), by rfl, List.Pairwise.nil, hled⟩⟩)
  | some wanted =>
    rw [r] at q
    dsimp only at q ⊢
    rw [Bool.and_eq_true] at q
    cases z : (SetTable.fresh 0 0 led).relaid #[] wanted with
    | none => rw [z] at q; exact absurd q.2 Bool.false_ne_true
    | some p =>
      obtain ⟨t', order⟩ := p
      rw [z] at q
      simp only [Bool.and_eq_true, decide_eq_true_eq, beq_iff_eq] at q
      obtain ⟨q1, ⟨⟨q2, q3⟩, q4⟩, q5⟩ := q
      subst q2
      exact relay0 got exs dat hled q1 z q3 q4 q5 fin
theorem entry_text {es : Array DictEntry} {vs : List (Key × Value)} {xs : List Str} (ko : KeysOf (mixKind P w) es) (pr : Pairs (mixKind P w) es.toList vs) (hk : vs.map (·.1) = xs.map Sum.inr) (i : Nat) (hi : i < xs.length) :
    ∃ e tk, es[i]? = some e ∧ e.key = Value.str (xs.getD i Str.empty) tk ∧ e.hash = (strKind P w).hash (xs.getD i Str.empty) := by
  have go : ∀ (l : List DictEntry) (vs : List (Key × Value)) (xs : List Str) (i : Nat), Pairs (mixKind P w) l vs → vs.map (·.1) = xs.map Sum.inr → i < xs.length → ∃ e tk, l[i]? = some e ∧ e.key = Value.str (xs.getD i Str.empty) tk := by
    intro l
    induction l with
    | nil =>
      intro vs xs i p hk hi
      cases p
      cases xs with
      | nil => simp at hi
      | cons _ _ => cases hk
    | cons e l ih =>
      intro vs xs i p hk hi
      cases p with
      | @cons _ kv _ kvs h1 h2 h3 =>
        cases xs with
        | nil => simp at hi
        | cons x xs =>
          obtain ⟨hx, ht⟩ := List.cons.inj hk
          cases i with
          | zero =>
            have hx' : kv.1 = Sum.inr x := hx
            rw [hx'] at h1
            obtain ⟨t, q⟩ := Value.isStrOf_shape (show Value.isStrOf x e.key = true from h1)
            exact ⟨e, t, rfl, q⟩
          | succ i => exact ih _ xs i h3 ht (by simpa using hi)
  obtain ⟨e, tk, h1, h2⟩ := go es.toList vs xs i pr hk hi
  have h1' : es[i]? = some e := by rw [← Array.getElem?_toList]; exact h1
  obtain ⟨k, h3, h4⟩ := ko e (Array.mem_of_getElem? h1')
  refine ⟨e, tk, h1', h2, ?_⟩
  rw [h2] at h3
  cases k with
  | inl n => cases (show false = true from h3)
  | inr y =>
    obtain ⟨t, q⟩ := Value.isStrOf_shape (show Value.isStrOf y (Value.str (xs.getD i Str.empty) tk) = true from h3)
    cases q
    exact h4
set_option maxHeartbeats 3000000 in
theorem call_setD {d : Addr} {vs : List (Key × Value)} {xs : List Str} {Q : Value → Shared → Prop} (calm : A.handled = none) (dd : s.heap.DictOf (mixKind P w) d vs) (far : (d == sysModules) = false) (hk : vs.map (·.1) = xs.map Sum.inr) (few : xs.length < 31)
    (fin : ∀ (h' : Heap) (tk : Nat), SetS P w h' s.heap.objs.size (dedK xs) → (∀ b o, s.heap.get? b = some o → h'.get? b = some o) → Q (.ref s.heap.objs.size) { s with heap := h', toks := tk }) : wpAny (model P w) A (call (.type "set") [.ref d]) Q E s := by
  obtain ⟨od, ds, dp, gd, exd, dat, ko, pr, _⟩ := dd
  have nx : xs.length = ds.size := by
    have q1 := congrArg List.length hk
    have q2 := pr.length
    rw [List.length_map, List.length_map] at q1
    rw [Array.length_toList] at q2
    omega
  obtain ⟨c, tl, hmro⟩ := F.called_set.mro
  have f1 := F.called_set.made
  have f2 := F.called_set.sub
  have f3 := F.called_set.notType
  have f4 := F.called_set.canCreate
  have f5 := F.typeCall_set_1 (.ref d)
  apply wpAny_call
  apply codeAny_of_tree
  show wpAny _ _ (callAny (.type "set") _) _ _ _
  refine wpAny_pure ⟨Code.quiet_builtin _ (by decide +kernel), codeAny_builtin F.entry_type_call ?_⟩
  rw [Around.under_plain (weight_type_call_type "set" [.ref d] []) rfl]
  repeat (any_goals (first | assumption | wp_step))
  refine codeAny_mono (made_set1 (.ref d) (E := E) (Q := fun obj s₁ => obj = .ref s.heap.objs.size ∧ s₁ = { s with heap := s.heap.push (newSetO w) }) ⟨rfl, rfl⟩) fun r s₁ back => ?_
  cases r with
  | error e => exact back
  | ok fl =>
    cases fl with
    | ret obj =>
      obtain ⟨rfl, rfl⟩ := back
      have gS : (s.heap.push (newSetO w)).get? s.heap.objs.size = some (newSetO w) := Heap.get?_push_size _ rfl
      have tS : Shared.TypeIs { s with heap := s.heap.push (newSetO w) } (.ref s.heap.objs.size) "set" := ⟨_, gS, rfl⟩
      have gd1 : (s.heap.push (newSetO w)).get? d = some od := Heap.get?_push_of_some _ gd
      have tD : Shared.TypeIs { s with heap := s.heap.push (newSetO w) } (.ref d) "dict" := ⟨_, gd1, exd.1⟩
      have f6 := F.called_set.init.lookup
      have f7 := F.called_set.init.bind (.ref s.heap.objs.size)
      repeat (any_goals (first | assumption | wp_step))
      refine codeAny_mono (codeAny_call_builtin (R := wants (fun r s₂ => r = .none ∧ ∃ h' tk, s₂ = { s with heap := h', toks := tk } ∧ SetS P w h' s.heap.objs.size (dedK xs) ∧ (∀ b o, s.heap.get? b = some o → h'.get? b = some o)) E) F.called_set.init.plain F.entry_set_init (check_set_init_1 tS ?_)) fun r₂ s₂ back₂ => ?_
      · have g1 : isSubtype (.type "dict") (.type "set") = pure false := by rw [isSubtype_type]; kernel_rfl
        have g2 : isSubtype (.type "dict") (.type "frozenset") = pure false := by rw [isSubtype_type]; kernel_rfl
        have ltd : d < s.heap.objs.size := Heap.lt_size gd
        unfold Builtin.«set.__init__» noKeywords Builtin.Frozenset.updateFrom
        generalize keepIt : setRoomFor = RF
        wp_walk
        subst keepIt
        rw [dat]
        apply wpAny_pure
        apply wpAny_bind
        refine wpAny_dictEntries gd1 dat ?_
        apply wpAny_bind
        have led : w.params.followText "set-order" = true ∨ (!w.params.followText "set-order") = true := by
          cases w.params.followText "set-order"
          · exact .inr rfl
          · exact .inl rfl
        refine room0 (n := ds.size) gS ⟨rfl, rfl, rfl⟩ rfl led (by omega) fun h0 but set0 => ?_
        have neD : ∀ {b : Addr} {o : Obj}, s.heap.get? b = some o → b ≠ s.heap.objs.size := fun e => Nat.ne_of_lt (Heap.lt_size e)
        have gd2 : h0.get? d = some od := (but.2 d (neD gd)).trans gd1
        apply wpAny_bind
        refine wpAny_dictEntries (s := { s with heap := h0 }) gd2 dat ?_
        apply wpAny_bind
        refine TI.forIn_rng _ (fun rest b s' => ∃ i, rest = List.range' i (ds.size - i) ∧ i ≤ ds.size ∧ ∃ h1 tk, s' = { s with heap := h1, toks := tk } ∧ SetS P w h1 s.heap.objs.size (dedK (xs.take i)) ∧ ∀ b o, s.heap.get? b = some o → h1.get? b = some o) _ ?turn ?fin _ ?start
        case start =>
          refine ⟨0, by simp, Nat.zero_le _, h0, s.toks, rfl, set0, fun b o e => ?_⟩
          rw [but.2 b (neD e)]
          exact Heap.get?_push_of_some _ e
        case turn =>
          rintro y rest b s' ⟨i, hr, hi, h1, tk, rfl, set, keep⟩
          have lt : i < ds.size := by
            rcases Nat.lt_or_ge i ds.size with z | z
            · exact z
            · rw [show ds.size - i = 0 from by omega] at hr
              cases hr
          have hr2 : y = i ∧ rest = List.range' (i + 1) (ds.size - (i + 1)) := by
            rw [show ds.size - i = (ds.size - (i + 1)) + 1 from by omega, List.range'_succ] at hr
            injection hr with a1 a2
            exact ⟨a1, a2⟩
          obtain ⟨rfl, rfl⟩ := hr2
          obtain ⟨e, tk2, e1, e2, e3⟩ := entry_text ko pr hk y (by omega)
          apply wpAny_bind
          refine wpAny_dictEntries (s := { s with heap := h1, toks := tk }) (keep d od gd) dat ?_
          rw [e1]
          dsimp only
          apply wpAny_bind
          apply wpAny_holding
          rw [e2, e3]
          have few1 : (dedK (xs.take y)).length + 1 < scanBound := by
            have q := dedK_len (xs.take y)
            rw [List.length_take] at q
            show _ < 4096
            omega
          refine addT (s := { s with heap := h1, toks := tk }) set few1 fun b h' but2 set2 => ?_
          have keep2 : ∀ b o, s.heap.get? b = some o → h'.get? b = some o := fun b o z => by
            rw [but2.2 b (neD z)]
            exact keep b o z
          apply wpAny_bind
          refine wpAny_dictEpoch (s := { s with heap := h', toks := tk }) (keep2 d od gd) dat ?_
          simp only [bne_self_eq_false, Bool.false_eq_true, if_false]
          apply wpAny_pure
          refine ⟨y + 1, rfl, lt, h', tk, rfl, ?_, keep2⟩
          have e4 : xs.take (y + 1) = xs.take y ++ [xs.getD y Str.empty] := by
            rw [List.take_succ, List.getD_eq_getElem?_getD, List.getElem?_eq_getElem (by omega)]
            rfl
          rw [e4, dedK_snoc]
          exact set2
        case fin =>
          rintro b s' ⟨i, hr, hi, h1, tk, rfl, set, keep⟩
          have ei : i = ds.size := by
            rcases Nat.lt_or_ge i ds.size with z | z
            · rw [show ds.size - i = (ds.size - (i + 1)) + 1 from by omega, List.range'_succ] at hr
              cases hr
            · omega
          rw [ei, List.take_of_length_le (by omega)] at set
          apply wpAny_pure
          show wpAny _ _ (PySem.ret Value.none) _ _ _
          exact wpAny_pure ⟨rfl, h1, tk, rfl, set, keep⟩
      · cases r₂ with
        | error e => exact back₂
        | ok fl₂ =>
          cases fl₂ with
          | ret r =>
            obtain ⟨rfl, h', tk, rfl, set, keep⟩ := back₂
            repeat (any_goals (first | assumption | wp_step))
            exact fin _ _ set keep
          | _ => exact back₂.elim
    | _ => exact back.elim
end
def rSetD (P : Program) (w : World) : List V → Hp → VK → Prop := fun vs H Q => ∃ (a : Addr) (kvs : List (Key × V)) (xs : List Str), vs = [.ref a] ∧ Rd H a (.dK kvs) ∧ kvs.map (·.1) = xs.map Sum.inr ∧ xs.length < 31 ∧ ∀ p, H p = none → Q (.ref p) (upd H p (SetSO P w p (dedK xs)))
theorem cr_setD {X : Cx} (hc : X.calm = true) : CallR X (.type "set") (rSetD X.prog X.w) := by
  intro pins s σ H vs us Q I r q
  obtain ⟨a, kvs, xs, rfl, er, hk, few, q⟩ := q
  obtain ⟨_, far, ws, rel, dd⟩ := dk_rd I.hok er
  rw [Vals.ref1 r]
  refine call_setD (I.ok.hd hc) dd far (rel.keys.symm.trans hk) few fun h' tk R k => ?_
  exact ⟨.ref s.heap.objs.size, _, I.laid (t' := tk) k (Nat.le_refl _) (setSO_ok R), rfl, q _ (I.hok.fresh (Nat.le_refl _))⟩
def txtK : Key → Option Str
  | .inr x => some x
  | _ => none
theorem txtK_of : ∀ {ks : List Key} {xs : List Str}, mapO txtK ks = some xs → ks = xs.map Sum.inr
  | [], xs, e => by cases e; rfl
  | k :: ks, xs, e => by
    unfold mapO at e
    split at e
    · rename_i y ys e1 e2
      cases e
      rw [txtK_of e2]
      cases k with
      | inl n => cases e1
      | inr z => cases e1; rfl
    · cases e
/-- sorted(set(d)) of a dict with texts as keys -/
def bSortSetD : List W → M W
  | [x] => fun h => match dOf h x with
    | some kvs => (match mapO txtK (kvs.map Prod.fst) with
      | some ys => if ys.length < 31 then alloc (.lst ((sortS (dedK ys)).map W.str)) h else .no
      | none => .no)
    | none => .no
  | _ => bad
section
variable {X : Cx} {cm : Cm} {a : Expr} {ma : ME} {p p2 pos pos2 : Pos}
theorem re_sortSetD (hc : X.calm = true) (hm : X.mg "sorted" = none) (hm2 : X.mg "set" = none) (ha : RE X cm a ma) (hg : Gl X "sorted" := by rfl) (hg2 : Gl X "set" := by rfl)
    (h1 : starEach [a] X.env = [(false, eval a X.env)] := by rfl) (h2 : (backTo pos2 (starEach ([] : List Expr) X.env)).any (·.1) = false := by rfl)
    (h3 : starEach [.Call (.Name "set" p2) [a] [] pos2] X.env = [(false, eval (.Call (.Name "set" p2) [a] [] pos2) X.env)] := by rfl) (h4 : (backTo pos (starEach ([] : List Expr) X.env)).any (·.1) = false := by rfl) :
    RE X cm (.Call (.Name "sorted" p) [.Call (.Name "set" p2) [a] [] pos2] [] pos) (mCall bSortSetD (aCons ma aNil)) := by
  refine peM (pe_callB (cr_sortSetS hc) hg hm (by decide +kernel) (pa_cons (pe_callTy (cr_setD hc) hg2 hm2 (by decide +kernel) (pa_cons ha pa_nil h1) (by decide) (by decide) h1 h2) pa_nil h3) (by decide) (by decide) h3 h4) fun σ H Q q => ?_
  obtain ⟨ρ, h, sw, w, h', rh, rs, e, k⟩ := q
  obtain ⟨ws, h1, e1, e2⟩ := bnd_ok e
  obtain ⟨x, h3, e3, e4⟩ := bnd_ok e1
  obtain ⟨us, h4, e5, e6⟩ := bnd_ok e4
  cases e5
  cases e6
  refine ⟨ρ, h, sw, x, h1, rh, rs, e3, fun ρ1 H1 v l1 rh1 rx => ?_⟩
  have e2' : (match dOf h1 x with
    | some kvs => (match mapO txtK (kvs.map Prod.fst) with
      | some ys => if ys.length < 31 then alloc (.lst ((sortS (dedK ys)).map W.str)) h1 else EL.R.no
      | none => EL.R.no)
    | none => EL.R.no) = .ok w h' := e2
  split at e2'
  · rename_i kvs hd
    split at e2'
    · rename_i ys hy
      split at e2'
      · rename_i hl
        cases e2'
        obtain ⟨_, ad, kv, rfl, _, rfl, er, rk⟩ := dOf_of rh1 rx hd
        refine ⟨ad, kv, ys, rfl, er, rk.keys.trans (txtK_of hy), hl, fun D hD => ?_⟩
        have l2 : Le X.K ρ1 H1 ρ1 (upd H1 D (SetSO X.prog X.w D (dedK ys))) := le_new hD
        refine ⟨D, dedK ys, rfl, upd_same, by have := dedK_len ys; omega, fun D2 hD2 => ?_⟩
        exact new_lst (rh1.new hD) (Rels.strs _) hD2 fun ρ3 H3 v3 l3 => k ρ3 H3 v3 (l1.trans (l2.trans l3))
      · cases e2'
    · cases e2'
  · cases e2'
end
end EL
namespace EL
open PySem PySem.Spec L2
open PyProof.Rows hiding St

/-! ### the methods of a class, defs with defaults -/
/-- the j-th statement in a class's body -/
def inCls (st : Stmt) (j : Nat) : Stmt := match st with
  | .ClassDef _ _ _ b _ _ _ _ _ _ _ => b.getD j (.Pass ⟨0, 0, 0, 0⟩)
  | _ => .Pass ⟨0, 0, 0, 0⟩
section
variable {P : Program} {w : World} {K : PySem.W.Frag} {mg : Str → Option Value} {base : Heap}
theorem efnD {x qual : Str} {st : Stmt} {f : Addr} {fd : FuncData} {N ps : List Str} {k : Nat} {cm : Cm} {m : MS} {dvs : List V} {kws : List (Str × V)} (F : FunD K x qual (defArgs st) (defBody st) (defScope st) dvs kws f fd) (S : FnScope N ps (defScope st))
    (hb : ∀ (cdv : Value) (A : Around) (outer : List Env) (s : Shared) (H : Hp) (E : XK), Room k (A.deeper (envOfC qual (defScope st) s.heap.objs.size f cdv)) → RSs (cxOf CX0 P w K mg base N qual (defScope st) f cdv A outer s H E).nox cm (defBody st) m) :
    FnOk P w K mg base CX0 (k + 1) f fd ps (spM K cm (mFn ps.length N.length m)) := by
  refine F.ok S (fun vs H Q E h => ?_) (fun cdv A outer s H vs Q E hr h => ?_)
  · obtain ⟨ρ, h, ws, w, h', rh, rs, e, k⟩ := h
    unfold mFn at e
    split at e
    · rw [← rs.length]
      assumption
    · cases e
  · refine ⟨_, (hb cdv A outer s H E hr).nox, ?_⟩
    obtain ⟨ρ, h, ws, w, h', rh, rs, e, k⟩ := h
    unfold mFn at e
    split at e
    · rename_i hl
      obtain ⟨fl, h1, e1, e2⟩ := bnd_ok e
      refine ⟨ρ, h, _, fl, h1, rh, ?_, e1, ?_⟩
      · have q := relS_start (N := N) rs
        rw [hl] at q
        exact q
      · cases fl with
        | rt w =>
          cases e2
          exact k
        | nx s =>
          cases e2
          exact fun ρ' H' σ' l rh' _ => k ρ' H' .non l rh' .non
        | bk s => cases e2
        | ct s => cases e2
    · cases e
/-- a def with one default, None -/
theorem fund_mk {x qual : Str} {st : Stmt} {f T : Addr} {oc ocT : Value} {od an odT : Option Addr} {osl slT : Array (Option Value)} {kV doc pm cdv ct : Value} {nT : Nat} (l : K.lookup f = some ⟨oc, od, .func (PySem.W.fnOf x qual (defArgs st) (defBody st) (defScope st) (.ref T) kV doc pm an cdv ct), osl⟩)
    (lT : K.lookup T = some ⟨ocT, odT, .seq [Value.none].toArray nT, slT⟩) (c : PySem.W.codeIn K cdv qual = true) (k : PySem.W.keepIn K (.ref f) = true) : FunD K x qual (defArgs st) (defBody st) (defScope st) [.non] [] f (PySem.W.fnOf x qual (defArgs st) (defBody st) (defScope st) (.ref T) kV doc pm an cdv ct) :=
  ⟨⟨oc, od, .ref T, kV, doc, pm, an, cdv, ct, osl, rfl, l, c, .inr ⟨by simp, T, _, [Value.none], nT, rfl, lT, rfl, .cons rfl .nil⟩, .inl rfl⟩, k⟩
end
/-- what is known of a class whose instances are made here -/
structure ClsK (K : PySem.W.Frag) (mg : Str → Option Value) (x : Str) (C : Addr) : Prop where
  cl : Cls K C
  is : InsK K C
  gl : mg x = some (.ref C)
  slf : PySem.W.kitOne K (.ref C) (.ref C) = some true
  first : PySem.W.selfFirst K C = true
  noseq : PySem.W.noSeq K C = true
  ne : PySem.W.findIn K (.ref C) "__ne__" = some (some (.builtin "object.__ne__"))
  ob : PySem.W.mroIn K C (.type "object") = some true
  tys : ∀ n ∈ ["dict", "list", "tuple", "int", "str", "bool", "NoneType"], PySem.W.kitOne K (.type n) (.ref C) = some false
  nf : ∀ n ∈ ["dict", "list", "tuple", "int", "str", "bool", "NoneType"], PySem.W.notFirst K C (.type n) = true
/-- a function of a class -/
structure Own (K : PySem.W.Frag) (C : Addr) (m : Str) (f : Addr) : Prop where
  at_ : PySem.W.findIn K (.ref C) m = some (some (.ref f))
  fn : PySem.W.isFn K (.ref f) = true
  fi : PySem.W.fnIn K f = true
  kp : PySem.W.keepIn K (.ref f) = true
theorem Own.meth {K : PySem.W.Frag} {C : Addr} {m : Str} {f : Addr} (o : Own K C m f) : Meth K C m f := ⟨o.at_, o.fn, o.kp⟩
abbrev allTys : List String := ["dict", "list", "tuple", "int", "str", "bool", "NoneType"]
theorem rels_nil {K : PySem.W.Frag} (ρ : List Addr) (H : Hp) : Rels K ρ H [] [] := .nil
theorem rels_non {K : PySem.W.Frag} (ρ : List Addr) (H : Hp) : Rels K ρ H [.non] [.non] := .cons .non .nil
theorem isi_tab {K : PySem.W.Frag} {mg : Str → Option Value} {x C : Str} {cm : Cm} (k : ClsK K mg x (cm C)) : ∀ q ∈ [(C, true)], InsK K (cm q.1) ∧ PySem.W.kitOne K (.ref (cm q.1)) (.ref (cm C)) = some q.2 := fun q hq => by
  rw [List.mem_singleton.mp hq]
  exact ⟨k.is, k.slf⟩
end EL
namespace EL
open PySem PySem.Spec L2
open PyProof.Rows hiding St

/-! ### name = {..}: a dict comprehension that is stored within its frame -/
section
variable {X : Cx} {cm : Cm} {kx vx tg it : Expr} {ifs : List Expr} {scope : Scope} {own : List (Str × Nat)} {pos spos : Pos}
theorem ps_setDc {i : Nat} {y : Str} {py : Pos} {wi : TI} {g : TG} {tt : TT} {tk tv : TE} (calm : X.calm = true) (nd : X.N.Nodup) (hy : X.N[i]? = some y) (loc : X.env.scope.names.lookup y = some .local) (sw : swapsWith (.DictComp kx vx [⟨tg, it, ifs, 0⟩] scope pos) (some (.Name y py)) spos.line X.env = pure true)
    (hi : PI X tg it wi) (ok : BlkOk X.N X.env.scope scope own)
    (hg : ∀ (s : Shared) (H : Hp) (C : Addr) (cl : List (Str × Addr)) (fp : List Addr), PG (X.blk s H scope (compEnvC scope cl C X.env) fp) tg g)
    (ht : ∀ (s : Shared) (H : Hp) (C : Addr) (cl : List (Str × Addr)) (fp : List Addr), PTs (X.blk s H scope (compEnvC scope cl C X.env) fp) ifs tt)
    (hk : ∀ (s : Shared) (H : Hp) (C : Addr) (cl : List (Str × Addr)) (fp : List Addr), PE (X.blk s H scope (compEnvC scope cl C X.env) fp) kx tk)
    (hv : ∀ (s : Shared) (H : Hp) (C : Addr) (cl : List (Str × Addr)) (fp : List Addr), PE (X.blk s H scope (compEnvC scope cl C X.env) fp) vx tv) (folded : ∀ x, foldedSetIterable it X.env x = pure x) :
    PS X (.Assign [.Name y py] (.DictComp kx vx [⟨tg, it, ifs, 0⟩] scope pos) spos) (tAsg (tDc wi g tt tk tv (own.map (·.2))) (gName i)) := by
  constructor
  intro pins s σ H D I q
  rw [exec_Assign_Name_used _ _ _ _ sw]
  apply wpAny_bind
  apply wpAny_standAt
  apply wpAny_bind
  show wpAny _ X.A (comprehension (.DictComp kx vx [⟨tg, it, ifs, 0⟩] scope pos) scope X.env (firstIterPos [⟨tg, it, ifs, 0⟩] pos) newDict false (eval it X.env) (some (assign (.Name y py) X.env)) >>= fun _ => _) _ _ s
  have q' : tDc wi g tt tk tv (own.map (·.2)) σ H (fun x H1 => gName i x σ H1 D.nx) := q
  apply wpAny_bind
  refine thn (dc_core (Qf := fun _ s' => SP X pins D .next s') calm nd I hi ok hg ht hk hv folded q' fun L C s' m H' I' q2 hn f => ?_) fun _ s' back => wpAny_pure (wpAny_pure back)
  show wpAny _ _ (assign (.Name y py) X.env (.ref L)) _ _ _
  refine wpAny_assign_Name (store_ok2 (v := V.ref L) I' nd hy (.inl loc) rfl (fun s2 I2 there => ?_) (.inr loc))
  obtain ⟨ad, but, wh⟩ := there
  obtain ⟨g0, g1, g2, g3, g4, g5⟩ := f
  have far : C ≠ ad := by
    rcases wh with z | z
    · rw [z]
      exact g1
    · exact fun e => g4 y ad z e.symm
  exact ⟨m, hn.sameBut but far, fun h3 but3 => ⟨_, H', I2.turned (t' := s2.toks) (fun b o hb e => (but3.2 b hb).trans e) g0 g1 g3 g4 g5, q2⟩⟩
theorem sw_trueD {c : List Comprehension} {py : Pos} {y : Str} {l : Nat} {env : Env} (hk : env.blockKind = .function) (hy : env.kindOf y = some .local) (hl : (py.line == pos.line) = true) (hn : (scope.names.any fun (n, k) => n == y && (k == .local || k == .cell)) = false) :
    swapsWith (.DictComp kx vx c scope pos) (some (.Name y py)) l env = pure true := by
  unfold swapsWith
  dsimp only
  rw [hk, hy]
  have hl' : (py.line == (Expr.DictComp kx vx c scope pos).pos.line) = true := hl
  rw [hl', hn]
  rfl
variable {mi : MI} {g : MG} {mk mv : ME}
theorem rs_setDc {i : Nat} {y : Str} {py : Pos} (own : List (Str × Nat)) (hc : X.calm = true) (hN : X.N.Nodup) (hi : RI X cm tg it mi) {N0 : List Str} {sc0 : Scope} (ok : blkC N0 sc0 scope own = true)
    (hg : ∀ (s : Shared) (H : Hp) (C : Addr) (cl : List (Str × Addr)) (fp : List Addr), RG (X.blk s H scope (compEnvC scope cl C X.env) fp) cm (own.map (·.2)) tg g)
    (hk : ∀ (s : Shared) (H : Hp) (C : Addr) (cl : List (Str × Addr)) (fp : List Addr), RE (X.blk s H scope (compEnvC scope cl C X.env) fp) cm kx mk)
    (hv : ∀ (s : Shared) (H : Hp) (C : Addr) (cl : List (Str × Addr)) (fp : List Addr), RE (X.blk s H scope (compEnvC scope cl C X.env) fp) cm vx mv)
    (hy : X.N[i]? = some y := by rfl) (hyl : X.env.scope.names.lookup y = some .local := by rfl) (hsw : swapsWith (.DictComp kx vx [⟨tg, it, [], 0⟩] scope pos) (some (.Name y py)) spos.line X.env = pure true := by exact sw_trueD rfl rfl rfl (by decide +kernel)) (hs : ∀ x, foldedSetIterable it X.env x = pure x := by intro _; rfl) (eN : N0 = X.N := by rfl) (eS : sc0 = X.env.scope := by rfl) :
    RS X cm (.Assign [.Name y py] (.DictComp kx vx [⟨tg, it, [], 0⟩] scope pos) spos) (sAsg (gNm i) (mDc mi g tYs mk mv (own.map (·.2)))) := by
  refine psM (ps_setDc (own := own) (tk := tE X.K cm mk) (tv := tE X.K cm mv) (g := tG X.K cm (own.map (·.2)) g) hc hN hy hyl hsw hi (by rw [← eN, ← eS]; exact blkOk_by ok) hg (fun _ _ _ _ _ => pts_nil) hk hv hs) fun D σ H q => ?_
  obtain ⟨ρ, h, sw, f, h', rh, rs, e, k⟩ := q
  obtain ⟨x, h1, e1, e2⟩ := bnd_ok e
  obtain ⟨s, h2, e3, e4⟩ := bnd_ok e2
  cases e4
  cases e3
  refine dc_tE (g := g) (t := tYs) (mk := mk) (mv := mv) ⟨ρ, h, sw, x, h', rh, rs, e1, fun ρ1 H1 v l1 rh1 rv => ?_⟩ (fun _ _ _ _ z => z) (fun _ _ _ z => by
    obtain ⟨ρ, h, sw, b, h', rh, rs, e, k⟩ := z
    cases e
    exact k ρ _ .refl rh) (fun _ _ _ z => z) (fun _ _ _ z => z)
  exact k ρ1 H1 _ l1 rh1 ((rs.mono l1).set rv i)
end
end EL
namespace EL
open PySem PySem.Spec L2
open PyProof.Rows hiding St

/-! ### what the readings give: classes, dicts -/
section
variable {a o v b e k x : ME} {as : MA} {sw : SW} {h : Hw} {P : W → Hw → Prop} {PF : Fl → Hw → Prop} {C f m : Str} {fn : List W → M W} {dws : List W} {tys : List String}
theorem ok_fld (q : Ok (a sw) h fun x h1 => ∃ w, fldOf h1 x C f = some w ∧ P w h1) : Ok (mFld C f a sw) h P := ok_bnd (q.imp fun x h1 q => by
  obtain ⟨w, e, p⟩ := q
  exact ⟨w, h1, by simp only [e], p⟩)
theorem ok_sFld (q : Ok (v sw) h fun y h1 => Ok (o sw) h1 fun x h2 => ∃ p fs, x = .ref p ∧ h2[p]? = some (.ins C fs) ∧ fs.length < 1000 ∧ PF (.nx sw) (h2.set p (.ins C (putW f y fs)))) : Ok (sFldS C f o v sw) h PF := ok_bnd (q.imp fun y h1 q => ok_bnd (q.imp fun x h2 q => by
  obtain ⟨p, fs, rfl, e, l, q⟩ := q
  refine ok_bnd ⟨(), h2.set p (.ins C (putW f y fs)), ?_, ok_rtn q⟩
  unfold setFld
  simp only [e]
  rw [if_pos ⟨trivial, l⟩]))
theorem ok_make (q : Ok (as sw) h fun xs h1 => Ok (fn (.ref h1.length :: (xs ++ dws))) (h1 ++ [.ins C []]) fun u h2 => u = .non ∧ P (.ref h1.length) h2) : Ok (mMake C fn dws as sw) h P := ok_bnd (q.imp fun xs h1 q => ok_bnd ⟨.ref h1.length, h1 ++ [.ins C []], rfl, ok_bnd (q.imp fun u h2 q => by
  obtain ⟨rfl, q⟩ := q
  exact ok_rtn q)⟩)
theorem ok_meth (q : Ok (o sw) h fun x h1 => (∃ p fs, x = .ref p ∧ h1[p]? = some (.ins C fs) ∧ fs.lookup m = none) ∧ Ok (as sw) h1 fun xs h2 => Ok (fn (x :: (xs ++ dws))) h2 P) : Ok (mMeth C m fn dws o as sw) h P := ok_bnd (q.imp fun x h1 q => by
  obtain ⟨⟨p, fs, rfl, e, l⟩, q⟩ := q
  refine ok_bnd ⟨(), h1, ?_, ok_bnd q⟩
  unfold isIns
  simp only [e]
  rw [if_pos ⟨trivial, by rw [l]; rfl⟩])
theorem ok_own {y z : W} (h1 : insB h y C = true) (h2 : (insB h z C || tyIn h z tys) = true) (q : Ok (fn [y, z]) h P) : Ok (fOwn C tys fn y z) h P := by
  obtain ⟨w, h', e, p⟩ := q
  exact ⟨w, h', by unfold fOwn; rw [if_pos (by rw [h1, h2]; rfl)]; exact e, p⟩
theorem ok_ownNe {y z : W} (h1 : insB h y C = true) (h2 : (insB h z C || tyIn h z tys) = true) (q : Ok (fn [y, z]) h fun w h' => ∃ b, w = .bl b ∧ P (.bl (!b)) h') : Ok (fOwnNe C tys fn y z) h P := ok_bnd ((ok_own h1 h2 q).imp fun w h' q => by
  obtain ⟨b, rfl, p⟩ := q
  exact ok_rtn p)
theorem ok_ownIx {y z : W} (h1 : insB h y C = true) (q : Ok (fn [y, z]) h P) : Ok (fOwnIx C fn y z) h P := by
  obtain ⟨w, h', e, p⟩ := q
  exact ⟨w, h', by unfold fOwnIx; rw [if_pos h1]; exact e, p⟩
theorem ok_ownIn {neg : Bool} {y z : W} (h1 : insB h y C = true) (q : Ok (fn [y, z]) h fun w h' => ∃ b, w = .bl b ∧ P (.bl (neg != b)) h') : Ok (fOwnIn neg C fn z y) h P := by
  obtain ⟨w, h', e, b, rfl, p⟩ := q
  exact ⟨_, h', by unfold fOwnIn; rw [if_pos h1]; unfold bnd; rw [e]; rfl, p⟩
theorem ok_lenO {y : W} (h1 : insB h y C = true) (q : Ok (fn [y]) h fun w h' => ∃ n : Int, w = .int n ∧ (0 ≤ n ∧ n < 4611686018427387904) ∧ P (.int n) h') : Ok (bLenO C fn [y]) h P := by
  obtain ⟨w, h', e, n, rfl, hn, p⟩ := q
  refine ⟨_, h', ?_, p⟩
  show (if insB h y C = true then _ else _) = _
  rw [if_pos h1]
  unfold bnd
  rw [e]
  show (if 0 ≤ n ∧ n < 4611686018427387904 then rtn (W.int n) else bad) h' = _
  rw [if_pos hn]
  rfl
theorem ok_gSubO {w : W} {PG : SW → Hw → Prop} (q : Ok (o sw) h fun y h1 => Ok (k sw) h1 fun z h2 => insB h2 y C = true ∧ Ok (fn [y, z, w]) h2 fun _ h3 => PG sw h3) : Ok (gSubO C fn o k w sw) h PG := ok_bnd (q.imp fun y h1 q => ok_bnd (q.imp fun z h2 q => by
  obtain ⟨h3, u, h4, e, p⟩ := q
  exact ok_bnd ⟨u, h4, by simp only [if_pos h3]; exact e, ok_rtn p⟩))
theorem ok_dget {d y w : W} {kvs : List (Key × W)} {kk : Key} (h1 : dOf h d = some kvs) (h2 : keyW y = some kk) (h3 : valW kvs kk = some w) (p : P w h) : Ok (fDget d y) h P := ⟨w, h, by unfold fDget; rw [h1, h2]; simp only [h3], p⟩
theorem ok_din {neg : Bool} {d y : W} {kvs : List (Key × W)} {kk : Key} (h1 : dOf h d = some kvs) (h2 : keyW y = some kk) (p : P (.bl (neg != (valW kvs kk).isSome)) h) : Ok (fDin neg y d) h P := ⟨_, h, by unfold fDin; rw [h1, h2], p⟩
theorem ok_dget2 (q : Ok (a sw) h fun d h1 => (∃ kvs, dOf h1 d = some kvs) ∧ Ok (k sw) h1 fun y h2 => Ok (x sw) h2 fun z h3 => ∃ kvs kk, dOf h3 d = some kvs ∧ keyW y = some kk ∧ P ((valW kvs kk).getD z) h3) : Ok (mDget2 a k x sw) h P := ok_bnd (q.imp fun d h1 q => by
  obtain ⟨⟨kvs0, e0⟩, q⟩ := q
  have q2 : Ok (bnd (k sw) (fun y => bnd (x sw) fun z h => match dOf h d, keyW y with
    | some kvs, some k => EL.R.ok ((valW kvs k).getD z) h
    | _, _ => .no)) h1 P := ok_bnd (q.imp fun y h2 q => ok_bnd (q.imp fun z h3 q => by
      obtain ⟨kvs, kk, e1, e2, p⟩ := q
      exact ⟨_, h3, by simp only [e1, e2], p⟩))
  obtain ⟨w, h', e, p⟩ := q2
  exact ⟨w, h', by simp only [e0]; exact e, p⟩)
theorem ok_dput (q : Ok (v sw) h fun z h1 => Ok (a sw) h1 fun d h2 => Ok (k sw) h2 fun y h3 => ∃ p kvs kk, dMut h3 d = some (p, kvs) ∧ keyW y = some kk ∧ kvs.length < lim ∧ PF (.nx sw) (h3.set p (.dK (putKW kvs kk z)))) : Ok (sDput a k v sw) h PF := ok_bnd (q.imp fun z h1 q => ok_bnd (q.imp fun d h2 q => ok_bnd (q.imp fun y h3 q => by
  obtain ⟨p, kvs, kk, e1, e2, l, q⟩ := q
  exact ⟨_, _, by simp only [e1, e2, if_pos l], q⟩)))
theorem ok_lenD {d : W} {p : Nat} {kvs : List (Key × W)} (e : dMut h d = some (p, kvs)) (q : P (.int kvs.length) h) : Ok (bLenD [d]) h P := ⟨_, h, by
  show (match dMut h d with
    | some (_, kvs) => EL.R.ok (W.int kvs.length) h
    | none => EL.R.no) = _
  rw [e], q⟩
theorem ok_deq {neg : Bool} {y z : W} {ka kb : List (Key × W)} {va vb : List (Key × V)} (h1 : dOf h y = some ka) (h2 : dOf h z = some kb) (h3 : flKV ka = some va) (h4 : flKV kb = some vb) (p : P (.bl (neg != (va.length == vb.length && keqV vb va))) h) : Ok (fDeq neg y z) h P := ⟨_, h, by unfold fDeq; rw [h1, h2]; simp only [h3, h4], p⟩
theorem ok_lockG {α : Type} {bb : M α} {PA : α → Hw → Prop} {p : Nat} {kvs : List (Key × W)} (e : h[p]? = some (.dK kvs)) (q : Ok bb (h.set p (.dF kvs)) fun f h2 => ∃ kvs2, h2[p]? = some (.dF kvs2) ∧ PA f (h2.set p (.dK kvs2))) : Ok (lockG (some p) bb) h PA := by
  obtain ⟨f, h2, e2, kvs2, e3, q⟩ := q
  exact ⟨f, _, by unfold lockG; simp only [e, e2, e3], q⟩
theorem ok_lockS {sel : SW → Hw → Option Nat} {bs : MS} {p : Nat} {kvs : List (Key × W)} (es : sel sw h = some p) (e : h[p]? = some (.dK kvs)) (q : Ok (bs sw) (h.set p (.dF kvs)) fun f h2 => ∃ kvs2, h2[p]? = some (.dF kvs2) ∧ PF f (h2.set p (.dK kvs2))) : Ok (lockS sel bs sw) h PF := by
  obtain ⟨f, h', e', q'⟩ := ok_lockG e q
  exact ⟨f, h', by unfold lockS; rw [es]; exact e', q'⟩
theorem ok_lockE {sel : SW → Hw → Option Nat} {p : Nat} {kvs : List (Key × W)} (es : sel sw h = some p) (e : h[p]? = some (.dK kvs)) (q : Ok (b sw) (h.set p (.dF kvs)) fun f h2 => ∃ kvs2, h2[p]? = some (.dF kvs2) ∧ P f (h2.set p (.dK kvs2))) : Ok (lockE sel b sw) h P := by
  obtain ⟨f, h', e', q'⟩ := ok_lockG e q
  exact ⟨f, h', by unfold lockE; rw [es]; exact e', q'⟩
theorem ok_sortSet {y : W} {ys : List Str} (e : items h y = some (ys.map W.str)) (l : ys.length < 64) (p : P (.ref h.length) (h ++ [.lst ((sortS (dedK ys)).map W.str)])) : Ok (bSortSet [y]) h P := ⟨_, _, by
  show (match items h y with
    | some xs => (match wStrs xs with
      | some ys => if ys.length < 64 then alloc (.lst ((sortS (dedK ys)).map W.str)) h else EL.R.no
      | none => EL.R.no)
    | none => EL.R.no) = _
  rw [e]
  simp only [wStrs_map, if_pos l]
  rfl, p⟩
theorem ok_sortS {y : W} {ys : List Str} (e : items h y = some (ys.map W.str)) (l : ys.length < 64) (p : P (.ref h.length) (h ++ [.lst ((sortS ys).map W.str)])) : Ok (bSortS [y]) h P := ⟨_, _, by
  show (match items h y with
    | some xs => (match wStrs xs with
      | some ys => if ys.length < 64 then alloc (.lst ((sortS ys).map W.str)) h else EL.R.no
      | none => EL.R.no)
    | none => EL.R.no) = _
  rw [e]
  simp only [wStrs_map, if_pos l]
  rfl, p⟩
theorem ok_str1 {y : Str} (p : P (.str y) h) : Ok (bStr1 [.str y]) h P := ok_rtn p
theorem ok_isiT {tab : List (Str × Bool)} {q : Str × Bool} (e : Ok (a sw) h fun y h1 => (tab.find? fun q => insB h1 y q.1) = some q ∧ P (.bl q.2) h1) : Ok (mIsiC tab tys a sw) h P := ok_bnd (e.imp fun y h1 e => ⟨_, h1, by simp only [e.1], e.2⟩)
theorem ok_isiF {tab : List (Str × Bool)} (e : Ok (a sw) h fun y h1 => (tab.find? fun q => insB h1 y q.1) = none ∧ tyIn h1 y tys = true ∧ P (.bl false) h1) : Ok (mIsiC tab tys a sw) h P := ok_bnd (e.imp fun y h1 e => ⟨_, h1, by simp only [e.1, if_pos e.2.1], e.2.2⟩)
end
/-- a dict comprehension: Inv by the number of turns and what is made so far; the new dict stands at D -/
theorem ok_mDc {mi : MI} {g : MG} {t : MT} {mk mv : ME} {vs : List Nat} {sw : SW} {h : Hw} {P : W → Hw → Prop} (Inv : Nat → List (Key × W) → Hw → Prop) (D : Nat)
    (o : Ok (mi sw) h fun src h1 => D = h1.length ∧ Inv 0 [] (h1 ++ [.dK []]) ∧
      (∀ i acc h, i < src.2 → Inv i acc h → h[D]? = some (.dK acc) → ∃ x, src.1.item i h = some (some x) ∧ Ok (g x (wipeW sw vs)) h fun s h2 => Ok (t s) h2 fun b h3 => (b = true → Ok (mk s) h3 fun y h4 => Ok (mv s) h4 fun z h5 => ∃ kk, keyW y = some kk ∧ h5[D]? = some (.dK acc) ∧ acc.length < lim ∧ Inv (i + 1) (putKW acc kk z) (h5.set D (.dK (putKW acc kk z)))) ∧ (b = false → h3[D]? = some (.dK acc) ∧ Inv (i + 1) acc h3)) ∧
      (∀ acc h, Inv src.2 acc h → h[D]? = some (.dK acc) → src.1.item src.2 h = some none ∧ P (.ref D) h)) : Ok (mDc mi g t mk mv vs sw) h P := by
  refine ok_bnd (o.imp fun src h1 o => ?_)
  obtain ⟨eD, h0, hs, he⟩ := o
  have go : ∀ (n i : Nat) (acc : List (Key × W)) (h : Hw), i + n = src.2 → Inv i acc h → h[D]? = some (.dK acc) → ∀ m, src.2 < i + m → Ok (dcGo src.1 g t mk mv vs (.ref D) sw i m) h fun _ h' => P (.ref D) h' := by
    intro n
    induction n with
    | zero =>
      intro i acc h ei p hD m hm
      have ei' : i = src.2 := by omega
      subst ei'
      cases m with
      | zero => omega
      | succ m =>
        obtain ⟨e1, q⟩ := he acc h p hD
        exact ⟨(), h, by unfold dcGo; simp only [e1], q⟩
    | succ n ih =>
      intro i acc h ei p hD m hm
      cases m with
      | zero => omega
      | succ m =>
        obtain ⟨x, e1, o⟩ := hs i acc h (by omega) p hD
        have o' : Ok (bnd (g x (wipeW sw vs)) fun s => bnd (t s) fun b => if b = true then bnd (mk s) (fun y => bnd (mv s) fun z => bnd (putD (.ref D) y z) fun _ => dcGo src.1 g t mk mv vs (.ref D) sw (i + 1) m) else dcGo src.1 g t mk mv vs (.ref D) sw (i + 1) m) h fun _ h' => P (.ref D) h' := ok_bnd (o.imp fun s h2 o => ok_bnd (o.imp fun b h3 o => by
          cases b with
          | false =>
            rw [if_neg Bool.false_ne_true]
            obtain ⟨a1, a2⟩ := o.2 rfl
            exact ih (i + 1) acc h3 (by omega) a2 a1 m (by omega)
          | true =>
            rw [if_pos rfl]
            refine ok_bnd ((o.1 rfl).imp fun y h4 o => ok_bnd (o.imp fun z h5 o => ?_))
            obtain ⟨kk, a0, a1, a2, a3⟩ := o
            refine ok_bnd ⟨(), h5.set D (.dK (putKW acc kk z)), ?_, ?_⟩
            · unfold putD dMut
              simp only [a1, a0, if_pos a2]
            · refine ih (i + 1) (putKW acc kk z) _ (by omega) a3 ?_ m (by omega)
              rw [List.getElem?_set, if_pos rfl, if_pos (List.getElem?_eq_some_iff.mp a1).1]))
        obtain ⟨u, h2, e2, q⟩ := o'
        exact ⟨u, h2, by unfold dcGo; simp only [e1]; exact e2, q⟩
  subst eD
  refine ok_bnd ⟨.ref h1.length, h1 ++ [.dK []], rfl, ok_bnd ((go src.2 0 [] _ (by omega) h0 (by simp) (src.2 + 1) (by omega)).imp fun _ _ q => ok_rtn q)⟩
theorem ok_iDit {a : ME} {sw : SW} {h : Hw} {PI : Src × Nat → Hw → Prop} (o : Ok (a sw) h fun x h1 => ∃ p kvs, x = .ref p ∧ h1[p]? = some (.dF kvs) ∧ PI (.dit p, kvs.length) h1) : Ok (iDit a sw) h PI := ok_bnd (o.imp fun x h1 o => by
  obtain ⟨p, kvs, rfl, e, q⟩ := o
  exact ⟨_, h1, by simp only [e], q⟩)
theorem ok_iDky {a : ME} {sw : SW} {h : Hw} {PI : Src × Nat → Hw → Prop} (o : Ok (a sw) h fun x h1 => ∃ p kvs, x = .ref p ∧ h1[p]? = some (.dF kvs) ∧ PI (.dky p, kvs.length) h1) : Ok (iDky a sw) h PI := ok_bnd (o.imp fun x h1 o => by
  obtain ⟨p, kvs, rfl, e, q⟩ := o
  exact ⟨_, h1, by simp only [e], q⟩)
theorem ok_dictL {y : W} {xs : List W} {kvs : List (Key × W)} {h : Hw} {P : W → Hw → Prop} (e : items h y = some xs) (e2 : mapO pairW xs = some kvs) (p : P (.ref h.length) (h ++ [.dK (mergeKW [] kvs)])) : Ok (bDict [y]) h P := ⟨_, _, by
  show (match items h y with
    | some xs => (match mapO pairW xs with
      | some kvs => alloc (.dK (mergeKW [] kvs)) h
      | none => EL.R.no)
    | none => EL.R.no) = _
  rw [e]
  simp only [e2]
  rfl, p⟩
theorem ok_sortSetD {y : W} {kvs : List (Key × W)} {ys : List Str} {h : Hw} {P : W → Hw → Prop} (e : dOf h y = some kvs) (e2 : mapO txtK (kvs.map Prod.fst) = some ys) (l : ys.length < 31) (p : P (.ref h.length) (h ++ [.lst ((sortS (dedK ys)).map W.str)])) : Ok (bSortSetD [y]) h P := ⟨_, _, by
  show (match dOf h y with
    | some kvs => (match mapO txtK (kvs.map Prod.fst) with
      | some ys => if ys.length < 31 then alloc (.lst ((sortS (dedK ys)).map W.str)) h else EL.R.no
      | none => EL.R.no)
    | none => EL.R.no) = _
  rw [e]
  simp only [e2, if_pos l]
  rfl, p⟩
section
variable {a k v x : ME} {sw : SW} {h : Hw} {P : W → Hw → Prop}
theorem ok_dpop2 (q : Ok (a sw) h fun d h1 => (∃ kvs, dOf h1 d = some kvs) ∧ Ok (k sw) h1 fun y h2 => Ok (x sw) h2 fun z h3 => ∃ p kvs kk, dMut h3 d = some (p, kvs) ∧ keyW y = some kk ∧ (∀ w, valW kvs kk = some w → P w (h3.set p (.dK (dropKW kvs kk)))) ∧ (valW kvs kk = none → P z h3)) : Ok (mDpop2 a k x sw) h P := ok_bnd (q.imp fun d h1 q => by
  obtain ⟨⟨kvs0, e0⟩, q⟩ := q
  have q2 : Ok (bnd (k sw) (fun y => bnd (x sw) fun z h => match dMut h d, keyW y with
    | some (p, kvs), some k => (match valW kvs k with
      | some w => EL.R.ok w (h.set p (.dK (dropKW kvs k)))
      | none => .ok z h)
    | _, _ => .no)) h1 P := ok_bnd (q.imp fun y h2 q => ok_bnd (q.imp fun z h3 q => by
      obtain ⟨p, kvs, kk, e1, e2, p1, p2⟩ := q
      cases e3 : valW kvs kk with
      | none => exact ⟨z, h3, by simp only [e1, e2, e3], p2 e3⟩
      | some w => exact ⟨w, _, by simp only [e1, e2, e3], p1 w e3⟩))
  obtain ⟨w, h', e, p⟩ := q2
  exact ⟨w, h', by simp only [e0]; exact e, p⟩)
theorem ok_disp1 (q : Ok (k sw) (h ++ [.dK []]) fun y h1 => Ok (v sw) h1 fun z h2 => h2[h.length]? = some (.dK []) ∧ ∃ kk, keyW y = some kk ∧ P (.ref h.length) (h2.set h.length (.dK (mergeKW [] [(kk, z)])))) : Ok (mDisp1 k v sw) h P := ok_bnd ⟨.ref h.length, h ++ [.dK []], rfl, ok_bnd (q.imp fun y h1 q => ok_bnd (q.imp fun z h2 q => by
  obtain ⟨e, kk, e2, p⟩ := q
  refine ⟨.ref h.length, _, ?_, p⟩
  have e3 : dMut h2 (.ref h.length) = some (h.length, []) := by unfold dMut; simp only [e]
  simp only [e3, e2]))⟩
theorem ok_list1 {y : W} {xs : List W} (e : items h y = some xs) (p : P (.ref h.length) (h ++ [.lst xs])) : Ok (bList1 [y]) h P := ⟨_, _, by
  show (match items h y with
    | some xs => alloc (.lst xs) h
    | none => _) = _
  rw [e]
  rfl, p⟩
theorem ok_list1T {xs : List W} (p : P (.ref h.length) (h ++ [.lst xs])) : Ok (bList1 [.tup xs]) h P := ⟨_, _, rfl, p⟩
theorem ok_tup1 {y : W} {xs : List W} (e : items h y = some xs) (p : P (.tup xs) h) : Ok (bTup1 [y]) h P := ⟨_, h, by
  show (match items h y with
    | some xs => EL.R.ok (W.tup xs) h
    | none => _) = _
  rw [e], p⟩
theorem ok_tup1T {xs : List W} (p : P (.tup xs) h) : Ok (bTup1 [.tup xs]) h P := ⟨_, h, rfl, p⟩
theorem ok_iDvl {PI : Src × Nat → Hw → Prop} (o : Ok (a sw) h fun x h1 => ∃ p kvs, x = .ref p ∧ h1[p]? = some (.dF kvs) ∧ PI (.dvl p, kvs.length) h1) : Ok (iDvl a sw) h PI := ok_bnd (o.imp fun x h1 o => by
  obtain ⟨p, kvs, rfl, e, q⟩ := o
  exact ⟨_, h1, by simp only [e], q⟩)
theorem ok_iEnuL {PI : Src × Nat → Hw → Prop} (o : Ok (a sw) h fun x h1 => ∃ p xs, x = .ref p ∧ h1[p]? = some (.lst xs) ∧ PI (.enu p, xs.length) h1) : Ok (iEnu a sw) h PI := ok_bnd (o.imp fun x h1 o => by
  obtain ⟨p, xs, rfl, e, q⟩ := o
  exact ⟨_, h1, by simp only [e], q⟩)
end
end EL
/-! EL23: what raises. A piece of text either ends as the plain function does, or lets out the exception that the plain function tells: its class and the one value that it holds. -/
namespace EL
open PySem PySem.Spec L2
open PyProof.Rows hiding St

def errTab : List (Str × Str) := [("BadAllowance", "index"), ("BadPlace", "index"), ("BadCount", "part"), ("BadDate", "date"), ("BadMany", "many"), ("BadList", "value"), ("BadStock", "value"), ("BadAllowances", "value"), ("RingOfLists", "word"), ("BadRule", "what"), ("BadEvent", "event"), ("BadEvents", "index"), ("BadShare", "word"), ("BadWait", "wait"), ("BadEither", "index"), ("BadChoice", "choice"), ("BadNumber", "number"), ("BadMenu", "index"), ("BadText", "index"), ("BadPart", "part"), ("BadLine", "line"), ("Lacking", "few"), ("UnknownPlace", "word"), ("UnknownList", "word"), ("TooMany", "limit"), ("NothingToUndo", "index")]
def fieldOf (c : Str) : Str := (errTab.lookup c).getD "index"
def noX {α : Type} (m : SW → M α) : SW → M α := fun sw h => match m sw h with
  | .ok a h' => .ok a h'
  | _ => .no
def noG (g : MG) : MG := fun w sw h => match g w sw h with
  | .ok a h' => .ok a h'
  | _ => .no
theorem bnd_ex {α β : Type} {m : M α} {f : α → M β} {h h' : Hw} {c : Str} {v : W} (e : bnd m f h = .ex c v h') : m h = .ex c v h' ∨ ∃ a h1, m h = .ok a h1 ∧ f a h1 = .ex c v h' := by
  unfold bnd at e
  split at e
  · exact .inr ⟨_, _, by assumption, e⟩
  · cases e
    exact .inl (by assumption)
  · cases e
/-- what is wished of an exception -/
def XOut (K : PySem.W.Frag) (cm : Cm) (ρ : List Addr) (H : Hp) (E : XK) (c : Str) (v : W) (h' : Hw) : Prop :=
  ∀ ρ' H' d v', Le K ρ H ρ' H' → RelH K cm ρ' h' H' → H' d = some (.xd [(fieldOf c, v')]) → Rel K ρ' H' v v' → E (.ref (cm c)) (some d) H'
theorem XOut.le {K : PySem.W.Frag} {cm : Cm} {ρ ρ' : List Addr} {H H' : Hp} {E : XK} {c : Str} {v : W} {h' : Hw} (l : Le K ρ H ρ' H') (q : XOut K cm ρ H E c v h') : XOut K cm ρ' H' E c v h' :=
  fun ρ2 H2 d v' l2 => q ρ2 H2 d v' (l.trans l2)
def OutE (K : PySem.W.Frag) (cm : Cm) (E : XK) (ρ : List Addr) (H : Hp) (r : R W) (Q : VK) : Prop := match r with
  | .ok w h' => KE K cm ρ H w h' Q
  | .ex c v h' => XOut K cm ρ H E c v h'
  | .no => False
def OutT (K : PySem.W.Frag) (cm : Cm) (E : XK) (ρ : List Addr) (H : Hp) (r : R Bool) (Q : Bool → Hp → Prop) : Prop := match r with
  | .ok b h' => ∀ ρ' H', Le K ρ H ρ' H' → RelH K cm ρ' h' H' → Q b H'
  | .ex c v h' => XOut K cm ρ H E c v h'
  | .no => False
def OutS (K : PySem.W.Frag) (cm : Cm) (E : XK) (ρ : List Addr) (H : Hp) (r : R Fl) (D : Ends) : Prop := match r with
  | .ok f h' => FlK K cm ρ H f h' D
  | .ex c v h' => XOut K cm ρ H E c v h'
  | .no => False
def yE (K : PySem.W.Frag) (cm : Cm) (E : XK) (m : ME) : TE := fun σ H Q => ∃ ρ h sw, RelH K cm ρ h H ∧ RelS K ρ H sw σ ∧ OutE K cm E ρ H (m sw h) Q
def yT (K : PySem.W.Frag) (cm : Cm) (E : XK) (m : MT) : TT := fun σ H Q => ∃ ρ h sw, RelH K cm ρ h H ∧ RelS K ρ H sw σ ∧ OutT K cm E ρ H (m sw h) Q
def yS (K : PySem.W.Frag) (cm : Cm) (E : XK) (m : MS) : TS := fun D σ H => ∃ ρ h sw, RelH K cm ρ h H ∧ RelS K ρ H sw σ ∧ OutS K cm E ρ H (m sw h) D
abbrev YE (X : Cx) (cm : Cm) (E : XK) (e : Expr) (m : ME) : Prop := PE X e (yE X.K cm E m)
abbrev YT (X : Cx) (cm : Cm) (E : XK) (e : Expr) (m : MT) : Prop := PT X e (yT X.K cm E m)
abbrev YW (X : Cx) (cm : Cm) (E : XK) (e : Expr) (m : MT) : Prop := PW X e (yT X.K cm E m)
abbrev YS (X : Cx) (cm : Cm) (E : XK) (st : Stmt) (m : MS) : Prop := PS X st (yS X.K cm E m)
abbrev YSs (X : Cx) (cm : Cm) (E : XK) (st : List Stmt) (m : MS) : Prop := PSs X st (yS X.K cm E m)
/-- what may leave is taken around -/
abbrev Tak (X : Cx) (E : XK) : Prop := Takes X fun cls d _ H => E cls d H
section
variable {K : PySem.W.Frag} {cm : Cm} {E : XK} {ρ ρ' : List Addr} {H H' : Hp}
theorem OutS.le {r : R Fl} {D : Ends} (l : Le K ρ H ρ' H') (q : OutS K cm E ρ H r D) : OutS K cm E ρ' H' r D := by
  cases r with
  | ok f h' => exact FlK.le l q
  | ex c v h' => exact XOut.le l q
  | no => exact q
theorem OutE.le {r : R W} {Q : VK} (l : Le K ρ H ρ' H') (q : OutE K cm E ρ H r Q) : OutE K cm E ρ' H' r Q := by
  cases r with
  | ok w h' => exact fun ρ2 H2 v l2 => q ρ2 H2 v (l.trans l2)
  | ex c v h' => exact XOut.le l q
  | no => exact q
end
section
variable {X : Cx} {cm : Cm} {E : XK} {e a b c tg : Expr} {es : List Expr} {st : Stmt} {sts sts' : List Stmt} {ma mb mc : ME} {mr : MA} {mt mu : MT} {m m1 m2 : MS} {g : MG} {pos : Pos} {vs : List Nat}
theorem ye_of (r : RE X cm e ma) : YE X cm E e (noX ma) := peM r fun σ H Q q => by
  obtain ⟨ρ, h, sw, rh, rs, o⟩ := q
  unfold noX at o
  split at o
  · exact ⟨ρ, h, sw, _, _, rh, rs, by assumption, o⟩
  · exact o.elim
theorem yt_of (r : RT X cm e mt) : YT X cm E e (noX mt) := ptM r fun σ H Q q => by
  obtain ⟨ρ, h, sw, rh, rs, o⟩ := q
  unfold noX at o
  split at o
  · exact ⟨ρ, h, sw, _, _, rh, rs, by assumption, o⟩
  · exact o.elim
theorem ys_of (r : RS X cm st m) : YS X cm E st (noX m) := psM r fun D σ H q => by
  obtain ⟨ρ, h, sw, rh, rs, o⟩ := q
  unfold noX at o
  split at o
  · exact ⟨ρ, h, sw, _, _, rh, rs, by assumption, o⟩
  · exact o.elim
theorem yss_of (r : RSs X cm sts m) : YSs X cm E sts (noX m) := pssM r fun D σ H q => by
  obtain ⟨ρ, h, sw, rh, rs, o⟩ := q
  unfold noX at o
  split at o
  · exact ⟨ρ, h, sw, _, _, rh, rs, by assumption, o⟩
  · exact o.elim
theorem yss_nil : YSs X cm E [] sNil := by
  refine pssM pss_nil fun D σ H q => ?_
  obtain ⟨ρ, h, sw, rh, rs, o⟩ := q
  exact o ρ H σ .refl rh rs
theorem yss_cons (h1 : YS X cm E st m1) (h2 : YSs X cm E sts m2) : YSs X cm E (st :: sts) (sSeq m1 m2) := by
  refine pssM (pss_cons h1 h2) fun D σ H q => ?_
  obtain ⟨ρ, h, sw, rh, rs, o⟩ := q
  refine ⟨ρ, h, sw, rh, rs, ?_⟩
  unfold sSeq bnd at o
  cases e1 : m1 sw h with
  | no => rw [e1] at o; exact o
  | ex c v h' => rw [e1] at o; exact o
  | ok f h1 =>
    rw [e1] at o
    cases f with
    | nx s => exact fun ρ1 H1 σ1 l1 rh1 rs1 => ⟨ρ1, h1, s, rh1, rs1, OutS.le l1 o⟩
    | rt w => exact o
    | bk s => exact o
    | ct s => exact o
theorem yss_one (h1 : YS X cm E st m1) : YSs X cm E [st] m1 := pss_one h1
theorem ys_if (hc : YT X cm E c mt) (ha : YSs X cm E sts m1) (hb : YSs X cm E sts' m2) : YS X cm E (.If c sts sts' pos) (sIf mt m1 m2) := by
  refine psM (ps_if hc ha hb) fun D σ H q => ?_
  obtain ⟨ρ, h, sw, rh, rs, o⟩ := q
  refine ⟨ρ, h, sw, rh, rs, ?_⟩
  unfold sIf bnd at o
  cases e1 : mt sw h with
  | no => rw [e1] at o; exact o
  | ex c v h' => rw [e1] at o; exact o
  | ok x h1 =>
    rw [e1] at o
    intro ρ1 H1 l1 rh1
    cases x with
    | true => exact iteT ⟨ρ1, h1, sw, rh1, rs.mono l1, OutS.le l1 o⟩
    | false => exact iteF ⟨ρ1, h1, sw, rh1, rs.mono l1, OutS.le l1 o⟩
theorem ys_ret (ha : YE X cm E e ma) : YS X cm E (.Return (some e) pos) (sRet ma) := by
  refine psM (ps_ret ha) fun D σ H q => ?_
  obtain ⟨ρ, h, sw, rh, rs, o⟩ := q
  refine ⟨ρ, h, sw, rh, rs, ?_⟩
  unfold sRet bnd at o
  cases e1 : ma sw h with
  | no => rw [e1] at o; exact o
  | ex c v h' => rw [e1] at o; exact o
  | ok x h1 => rw [e1] at o; exact o
theorem ys_expr (ha : YE X cm E e ma) (hs : swapsWith e none pos.line X.env = pure false := by rfl) : YS X cm E (.Expr e pos) (sExp ma) := by
  refine psM (ps_expr ha hs) fun D σ H q => ?_
  obtain ⟨ρ, h, sw, rh, rs, o⟩ := q
  refine ⟨ρ, h, sw, rh, rs, ?_⟩
  unfold sExp bnd at o
  cases e1 : ma sw h with
  | no => rw [e1] at o; exact o
  | ex c v h' => rw [e1] at o; exact o
  | ok x h1 =>
    rw [e1] at o
    exact fun ρ1 H1 v l1 rh1 _ => o ρ1 H1 σ l1 rh1 (rs.mono l1)
theorem ys_asg (he : YE X cm E e ma) (hg : RG X cm vs tg g) (hs : swapsWithSole [tg] e pos.line X.env = pure false := by rfl) (hw : swappedStores [tg] e X.env = pure none := by rfl)
    (h1 : (assignEach [tg] X.env).map (·.2) = [assign tg X.env] := by rfl) : YS X cm E (.Assign [tg] e pos) (sAsg (noG g) ma) := by
  refine psM (ps_asg he hg hs hw h1) fun D σ H q => ?_
  obtain ⟨ρ, h, sw, rh, rs, o⟩ := q
  refine ⟨ρ, h, sw, rh, rs, ?_⟩
  unfold sAsg bnd at o
  cases e1 : ma sw h with
  | no => rw [e1] at o; exact o
  | ex c v h' => rw [e1] at o; exact o
  | ok x h1 =>
    rw [e1] at o
    intro ρ1 H1 v l1 rh1 rv
    have e2 : noG g x sw h1 = (match g x sw h1 with
      | .ok a h' => .ok a h'
      | _ => .no) := rfl
    cases e3 : g x sw h1 with
    | no => rw [e3] at e2; simp only [e2] at o; exact o.elim
    | ex c v h' => rw [e3] at e2; simp only [e2] at o; exact o.elim
    | ok s h2 =>
      rw [e3] at e2
      simp only [e2] at o
      exact ⟨ρ1, h1, sw, x, s, h2, rh1, rs.mono l1, rv, e3, fun ρ2 H2 σ2 _ l2 => o ρ2 H2 σ2 (l1.trans l2)⟩
theorem yt_not (ha : YT X cm E a mt) : YT X cm E (.UnaryOp .Not a pos) (tNot mt) := by
  refine ptM (pt_not ha) fun σ H Q q => ?_
  obtain ⟨ρ, h, sw, rh, rs, o⟩ := q
  refine ⟨ρ, h, sw, rh, rs, ?_⟩
  unfold tNot bnd at o
  cases e1 : mt sw h with
  | no => rw [e1] at o; exact o
  | ex c v h' => rw [e1] at o; exact o
  | ok x h1 => rw [e1] at o; exact fun ρ1 H1 l1 rh1 => o ρ1 H1 l1 rh1
end
end EL
/-! EL24: defs that raise, and calls of them. -/
namespace EL
open PySem PySem.Spec L2
open PyProof.Rows hiding St

/-- a def promises: it does what m does, or raises as m does -/
def spY (K : PySem.W.Frag) (cm : Cm) (m : List W → M W) : Sp := fun vs H Q E => ∃ ρ h ws, RelH K cm ρ h H ∧ Rels K ρ H ws vs ∧ OutE K cm E ρ H (m ws h) Q
abbrev FnY (P : Program) (w : World) (K : PySem.W.Frag) (mg : Str → Option Value) (base : Heap) (cm : Cm) (k : Nat) (f : Addr) (fd : FuncData) (ps : List Str) (m : List W → M W) : Prop := FnOk P w K mg base (L2.CX P w) k f fd ps (spY K cm m)
/-- where it raises nothing, it is a def as the others -/
theorem FnOk.calm {P : Program} {w : World} {K : PySem.W.Frag} {mg : Str → Option Value} {base : Heap} {cm : Cm} {k : Nat} {f : Addr} {fd : FuncData} {ps : List Str} {m : List W → M W} (F : FnY P w K mg base cm k f fd ps m) : FnOk P w K mg base CX0 k f fd ps (spM K cm m) := by
  have up : ∀ {vs H Q} {E : XK}, spM K cm m vs H Q E → spY K cm m vs H Q fun _ _ _ => False := fun {vs H Q E} q => by
    obtain ⟨ρ, h, ws, w, h', rh, rs, e, k⟩ := q
    refine ⟨ρ, h, ws, rh, rs, ?_⟩
    rw [e]
    exact k
  refine ⟨fun vs H Q E q => F.len vs H Q _ (up q), fun A outer s H args us vs Q E hr he hb hv q => ?_⟩
  refine codeAny_mono (F.run A outer s H args us vs Q _ hr he hb hv (up q)) fun r s' z => ?_
  cases r with
  | ok fl => cases fl <;> exact z
  | error u =>
    obtain ⟨_, _, _, _, _, _, _, _, _, _, _, _, no⟩ := (show L2.CX P w outer H s (fun _ _ _ => False) u s' from z)
    exact no.elim
section
variable {P : Program} {w : World} {K : PySem.W.Frag} {mg : Str → Option Value} {base : Heap}
theorem efnY {x qual : Str} {st : Stmt} {f : Addr} {fd : FuncData} {N ps : List Str} {k : Nat} {cm : Cm} {m : MS} (F : Fun K x qual st f fd) (S : FnScope N ps (defScope st))
    (hb : ∀ (cdv : Value) (A : Around) (outer : List Env) (s : Shared) (H : Hp) (E : XK), Room k (A.deeper (envOfC qual (defScope st) s.heap.objs.size f cdv)) → Tak (cxOf (L2.CX P w) P w K mg base N qual (defScope st) f cdv A outer s H E) E →
      YSs (cxOf (L2.CX P w) P w K mg base N qual (defScope st) f cdv A outer s H E) cm E (defBody st) m) :
    FnY P w K mg base cm (k + 1) f fd ps (mFn ps.length N.length m) := by
  refine F.okX S (fun vs H Q E h => ?_) (fun cdv A outer s H vs Q E hr h => ?_)
  · obtain ⟨ρ, h, ws, rh, rs, o⟩ := h
    unfold mFn at o
    split at o
    · rw [← rs.length]
      assumption
    · exact o.elim
  · refine ⟨_, hb cdv A outer s H E hr (takes_of rfl rfl rfl rfl), ?_⟩
    obtain ⟨ρ, h, ws, rh, rs, o⟩ := h
    unfold mFn at o
    split at o
    · rename_i hl
      refine ⟨ρ, h, ws.map some ++ List.replicate (N.length - ps.length) none, rh, ?_, ?_⟩
      · have q := relS_start (N := N) rs
        rw [hl] at q
        exact q
      · unfold bnd at o
        cases e1 : m (ws.map some ++ List.replicate (N.length - ps.length) none) h with
        | no => rw [e1] at o; exact o
        | ex c v h' => rw [e1] at o; exact o
        | ok fl h1 =>
          rw [e1] at o
          cases fl with
          | rt w => exact o
          | nx s => exact fun ρ' H' σ' l rh' _ => o ρ' H' .non l rh' .non
          | bk s => exact o.elim
          | ct s => exact o.elim
    · exact o.elim
end
theorem nx_out {α : Type} {m : SW → M α} {f : α → M W} {K : PySem.W.Frag} {cm : Cm} {E : XK} {ρ : List Addr} {H : Hp} {Q : VK} {sw : SW} {h : Hw} (o : OutE K cm E ρ H (bnd (noX m sw) f h) Q) : ∃ a h1, m sw h = .ok a h1 ∧ OutE K cm E ρ H (f a h1) Q := by
  unfold bnd noX at o
  cases e1 : m sw h with
  | no => rw [e1] at o; exact o.elim
  | ex c v h' => rw [e1] at o; exact o.elim
  | ok a h1 => rw [e1] at o; exact ⟨a, h1, rfl, o⟩
theorem of_bnd {α : Type} {m : M α} {f : α → M W} {K : PySem.W.Frag} {cm : Cm} {E : XK} {ρ : List Addr} {H : Hp} {Q : VK} {h h1 : Hw} {a : α} (e : m h = .ok a h1) (o : OutE K cm E ρ H (bnd m f h) Q) : OutE K cm E ρ H (f a h1) Q := by
  unfold bnd at o
  rw [e] at o
  exact o
section
variable {X : Cx} {cm : Cm} {E : XK} {e a b c : Expr} {es rest : List Expr} {ma mb mc mo : ME} {mr : MA} {pos p apos : Pos} {k : Nat} {f : Addr} {fd : FuncData} {ps : List Str} {x : Str} {m : List W → M W} {C n : Str} {o : Expr} {dws : List W} {dvs : List V} {ds : List Value}
theorem tak_pass (tk : Tak X E) : Passes (L2.CX X.prog X.w) X E := passes_call tk fun _ _ _ _ h => h
theorem ye_call (F : FnY X.prog X.w X.K X.mg X.base cm k f fd ps m) (hr : Room k X.A) (hm : X.mg x = some (.ref f)) (hk : PySem.W.keepIn X.K (.ref f) = true) (hb : Binds X.K fd ps []) (ha : RA X cm (e :: es) mr) (tk : Tak X E) (hg : Gl X x := by rfl)
    (hdb : (x == ("__debug__" : Str)) = false := by decide) (he : starEach (e :: es) X.env = (false, eval e X.env) :: starEach es X.env := by rfl) (hpl : (backTo pos (starEach es X.env)).any (·.1) = false := by rfl) : YE X cm E (.Call (.Name x p) (e :: es) [] pos) (mCall m (noX mr)) := by
  refine peM (pe_call F hr hg hm hk hb .nil (tak_pass tk) ha hdb he hpl) fun σ H Q q => ?_
  obtain ⟨ρ, h, sw, rh, rs, o⟩ := q
  obtain ⟨ws, h1, e1, o⟩ := nx_out o
  refine ⟨ρ, h, sw, ws, h1, rh, rs, e1, fun ρ1 H1 vs l1 rh1 rx => ?_⟩
  exact ⟨ρ1, h1, ws, rh1, by rw [List.append_nil]; exact rx, OutE.le l1 o⟩
theorem ymeth_of {σ : St} {H : Hp} {Q : VK} (hd : ∀ ρ H, Rels X.K ρ H dws dvs) (q : yE X.K cm E (mMeth C n m dws (noX mo) (noX mr)) σ H Q) : tMeth (cm C) n (spY X.K cm m) dvs E (tE X.K cm mo) (tA X.K cm mr) σ H Q := by
  obtain ⟨ρ, h, sw, rh, rs, o⟩ := q
  obtain ⟨x, h1, e1, o⟩ := nx_out o
  refine ⟨ρ, h, sw, x, h1, rh, rs, e1, fun ρ1 H1 x' l1 rh1 rx => ?_⟩
  cases e2 : isIns C n x h1 with
  | no => unfold bnd at o; rw [e2] at o; exact o.elim
  | ex c v h' =>
    exfalso
    unfold isIns at e2
    split at e2
    · split at e2
      · split at e2 <;> cases e2
      · cases e2
    · cases e2
  | ok u h2 =>
    have o2 := of_bnd e2 o
    clear o
    obtain ⟨rfl, q⟩ := isIns_inv e2
    obtain ⟨pp, a, dx, fs, fv, rfl, rfl, hp, eo, ea, ek, rl, hl⟩ := ins_of rh1 rx q
    obtain ⟨ws, h3, e3, o⟩ := nx_out o2
    refine ⟨a, dx, fv, rfl, ea, ?_, ρ1, _, sw, ws, h3, rh1, rs.mono l1, e3, fun ρ2 H2 vs l2 rh2 rv => ?_⟩
    · exact lk_none ek hl
    · exact ⟨ρ2, h3, _, rh2, .cons (.ref (pre_get l2.pre hp)) (rv.append (hd _ _)), OutE.le (l1.trans l2) o⟩
theorem ye_meth {pl : Sem Bool} (ck : Cls X.K (cm C)) (me : Meth X.K (cm C) n f) (F : FnY X.prog X.w X.K X.mg X.base cm k f fd ps m) (hr : Room k X.A)
    (hb : Binds X.K fd ps ds) (hd : Vals dvs ds) (hdw : ∀ ρ H, Rels X.K ρ H dws dvs) (ho : RE X cm o mo) (ha : RA X cm (e :: es) mr) (tk : Tak X E)
    (hst : starEach (e :: es) X.env = (false, eval e X.env) :: starEach es X.env := by rfl) (hpl : (backTo pos (starEach es X.env)).any (·.1) = false := by rfl)
    (ht : eval (.Call (.Attribute o n apos) (e :: es) [] pos) X.env = (do
      let ov ← eval o X.env
      standAt apos.atName
      let (f, first) ← holding [ov] (getMethod ov n pl)
      callWith pos f first (backTo pos (starEach (e :: es) X.env)) (backToKw pos (keywordEach [] X.env))) := by rfl) : YE X cm E (.Call (.Attribute o n apos) (e :: es) [] pos) (mMeth C n m dws (noX mo) (noX mr)) :=
  peM (pe_meth ho ck me F hr hb hd (tak_pass tk) ha hst hpl ht) fun σ H Q q => ymeth_of hdw q
theorem ymake_of {σ : St} {H : Hp} {Q : VK} (hd : ∀ ρ H, Rels X.K ρ H dws dvs) (q : yE X.K cm E (mMake C m dws (noX mr)) σ H Q) : tMake (cm C) (spY X.K cm m) dvs E (tA X.K cm mr) σ H Q := by
  obtain ⟨ρ, h, sw, rh, rs, o⟩ := q
  obtain ⟨ws, h1, e1, o⟩ := nx_out o
  refine ⟨ρ, h, sw, ws, h1, rh, rs, e1, fun ρ1 H1 vs l1 rh1 rv => ?_⟩
  intro x dx nx nd hne
  have la : Le X.K ρ1 H1 ρ1 (upd H1 dx (.own x)) := le_new nd
  have n2 : upd H1 dx (.own x) x = none := (upd_ne (Ne.symm hne)).trans nx
  have lb : Le X.K ρ1 (upd H1 dx (.own x)) (ρ1 ++ [x]) (upd (upd H1 dx (.own x)) x (.ins (cm C) dx [])) := (le_new n2).trans (le_app x)
  have rh3 := (rh1.new nd).push n2 (u := .ins (cm C) dx []) (o := .ins C []) ⟨dx, [], upd_same, rfl, .nil⟩
  have o := of_bnd (m := alloc (.ins C [])) (a := W.ref h1.length) (h1 := h1 ++ [.ins C []]) rfl o
  refine ⟨ρ1 ++ [x], _, _, rh3, .cons (.ref (push_at rh1)) (((rv.mono la).mono lb).append (hd _ _)), ?_⟩
  have ll := l1.trans (la.trans lb)
  unfold bnd at o
  cases e3 : m (.ref h1.length :: (ws ++ dws)) (h1 ++ [.ins C []]) with
  | no => rw [e3] at o; exact o.elim
  | ex c v h' => rw [e3] at o; exact XOut.le ll o
  | ok u h3 =>
    rw [e3] at o
    intro ρ4 H4 v l4 rh4 rv4
    cases u with
    | non =>
      cases rv4
      exact ⟨rfl, o ρ4 H4 _ (ll.trans l4) rh4 (.ref (pre_get l4.pre (push_at rh1)))⟩
    | _ => exact o.elim
theorem ye_make {x : Str} (Mk : L2.Mk X.K (cm C) f) (F : FnY X.prog X.w X.K X.mg X.base cm k f fd ps m) (hr : Room (k + 1) X.A) (hm : X.mg x = some (.ref (cm C)))
    (hb : Binds X.K fd ps ds) (hd : Vals dvs ds) (hdw : ∀ ρ H, Rels X.K ρ H dws dvs) (ha : RA X cm (e :: es) mr) (tk : Tak X E) (hg : Gl X x := by rfl) (hdb : (x == ("__debug__" : Str)) = false := by decide) (he : starEach (e :: es) X.env = (false, eval e X.env) :: starEach es X.env := by rfl)
    (hpl : (backTo pos (starEach es X.env)).any (·.1) = false := by rfl) : YE X cm E (.Call (.Name x p) (e :: es) [] pos) (mMake C m dws (noX mr)) :=
  peM (pe_make Mk F hr hg hm hb hd (tak_pass tk) ha hdb he hpl) fun σ H Q q => ymake_of hdw q
end
end EL
/-! EL25: loops, locked walks, own operators, items: what raises in them. -/
namespace EL
open PySem PySem.Spec L2
open PyProof.Rows hiding St

section
variable {X : Cx} {cm : Cm} {E : XK} {tg it : Expr} {st : Stmt} {body : List Stmt} {mi : MI} {g : MG} {m : MS} {pos : Pos} {vs : List Nat}
theorem ys_for (hp : PassesOwn (model X.prog X.w) X.A X.env X.xe) (hc : X.calm = true) (hi : RI X cm tg it mi) (hg : RG X cm vs tg g) (hb : YSs X cm E body m) (hs : ∀ x, foldedSetIterable it X.env x = pure x := by intro _; rfl) : YS X cm E (.For tg it body [] pos) (sForI (noX mi) (noG g) m) := by
  refine psM (ps_for hp hc hi hg hb hs) fun D σ H q => ?_
  obtain ⟨ρ, h, sw, rh, rs, o⟩ := q
  have start : ∃ src h0, mi sw h = .ok src h0 ∧ OutS X.K cm E ρ H (sFor src.1 (noG g) m 0 (src.2 + 1) sw h0) D := by
    unfold sForI bnd noX at o
    cases e1 : mi sw h with
    | no => rw [e1] at o; exact o.elim
    | ex c v h' => rw [e1] at o; exact o.elim
    | ok src h0 => rw [e1] at o; exact ⟨src, h0, rfl, o⟩
  obtain ⟨src, h0, e0, o0⟩ := start
  refine ⟨ρ, h, sw, src, h0, rh, rs, e0, fun ρ0 H0 J l0 rh0 rj => ?_⟩
  refine ⟨fun i n σ1 H1 => ∃ ρ1 h1 sw1, RelH X.K cm ρ1 h1 H1 ∧ RelS X.K ρ1 H1 sw1 σ1 ∧ SrcR X.K ρ1 H1 src.1 J ∧ OutS X.K cm E ρ1 H1 (sFor src.1 (noG g) m i n sw1 h1) D, ⟨_, ρ0, h0, sw, rh0, rs.mono l0, rj, OutS.le l0 o0⟩, fun i n σ1 H1 z => ?_⟩
  obtain ⟨ρ1, h1, sw1, rh1, rs1, rj1, o1⟩ := z
  cases n with
  | zero => exact o1.elim
  | succ n =>
    unfold sFor at o1
    cases he : src.1.item i h1 with
    | none => rw [he] at o1; exact o1.elim
    | some y =>
      rw [he] at o1
      cases y with
      | none => exact .inl ⟨src_stop rh1 rj1 he, o1 ρ1 H1 σ1 .refl rh1 rs1⟩
      | some x =>
        obtain ⟨go, yl⟩ := src_go rh1 rj1 he
        refine .inr ⟨go, fun σ3 H3 => ∃ ρ3 h3 sw3, RelH X.K cm ρ3 h3 H3 ∧ RelS X.K ρ3 H3 sw3 σ3 ∧ SrcR X.K ρ3 H3 src.1 J ∧ OutS X.K cm E ρ3 H3 (sFor src.1 (noG g) m (i + 1) n sw3 h3) D, fun σ3 H3 z => ⟨n, Nat.lt_succ_self n, z⟩, fun v H' y => ?_⟩
        obtain ⟨ly, rhy, rv⟩ := yl v H' y
        have step : ∃ s2 h2, g x sw1 h1 = .ok s2 h2 ∧ OutS X.K cm E ρ1 H1 (bnd (m s2) (fun f => match f with
            | .nx s => sFor src.1 (noG g) m (i + 1) n s
            | .ct s => sFor src.1 (noG g) m (i + 1) n s
            | .bk s => rtn (.nx s)
            | .rt w => rtn (.rt w)) h2) D := by
          unfold bnd noG at o1
          cases e1 : g x sw1 h1 with
          | no => simp only [e1] at o1; exact o1.elim
          | ex c v h' => simp only [e1] at o1; exact o1.elim
          | ok s2 h2 => simp only [e1] at o1; exact ⟨s2, h2, rfl, o1⟩
        obtain ⟨s2, h2, e2, o2⟩ := step
        refine ⟨ρ1, h1, sw1, x, s2, h2, rhy, rs1.mono ly, rv, e2, fun ρ2 H2 σ2 _ l2 rh2 rs2 => ?_⟩
        have ll := ly.trans l2
        refine ⟨ρ2, h2, s2, rh2, rs2, ?_⟩
        have o3 := OutS.le ll o2
        have rj2 := (rj1.mono ly).mono l2
        unfold bnd at o3
        cases e3 : m s2 h2 with
        | no => rw [e3] at o3; exact o3
        | ex c v h' => rw [e3] at o3; exact o3
        | ok f1 h3 =>
          rw [e3] at o3
          cases f1 with
          | nx s => exact fun ρ3 H3 σ3 l3 rh3 rs3 => ⟨ρ3, h3, s, rh3, rs3, rj2.mono l3, OutS.le l3 o3⟩
          | ct s => exact fun ρ3 H3 σ3 l3 rh3 rs3 => ⟨ρ3, h3, s, rh3, rs3, rj2.mono l3, OutS.le l3 o3⟩
          | bk s => exact fun ρ3 H3 σ3 l3 rh3 rs3 => o3 ρ3 H3 σ3 l3 rh3 rs3
          | rt w => exact fun ρ3 H3 v l3 rh3 rv => o3 ρ3 H3 v l3 rh3 rv
/-- a dict that is walked is free again when an exception leaves -/
def lockY (sel : SW → Hw → Option Nat) (b : MS) : MS := fun sw h => match sel sw h with
  | some p => (match h[p]? with
    | some (.dK kvs) => (match b sw (h.set p (.dF kvs)) with
      | .ok f h2 => (match h2[p]? with
        | some (.dF kvs2) => .ok f (h2.set p (.dK kvs2))
        | _ => .no)
      | .ex c v h2 => (match h2[p]? with
        | some (.dF kvs2) => .ex c v (h2.set p (.dK kvs2))
        | _ => .no)
      | .no => .no)
    | _ => .no)
  | none => .no
def free (a : Addr) (od : Obj) (u : HO) (E : XK) : XK := fun cls d H => H a = some (.frz od u) ∧ E cls d (upd H a u)
theorem tak_free {a : Addr} {od : Obj} {u : HO} (hn : ∀ o' u', X.H_0 a ≠ some (.frz o' u')) (tk : Tak X E) : Tak X (free a od u E) := fun v s' q => by
  obtain ⟨b, B, sI, pins, σ, H, cls, d, rfl, I, nb, up, sky, na, os, ag, w⟩ := q
  have neb : b ≠ a := fun z => by
    have w1 := w.1
    rw [← z, na] at w1
    cases w1
  exact tk _ _ ⟨b, B, sI, pins, σ, upd H a u, cls, d, rfl, I.unlock w.1 hn, nb, up, sky, by rw [upd_ne neb]; exact na, os, ag, w.2⟩
theorem ys_lock {sel : SW → Hw → Option Nat} (tk : Tak X E) (hb : ∀ E', Tak X E' → YS X cm E' st m) : YS X cm E st (lockY sel m) := by
  refine ⟨fun pins s σ H D I q => ?_⟩
  obtain ⟨ρ, h, sw, rh, rs, o⟩ := q
  unfold lockY at o
  split at o
  · rename_i p _
    split at o
    · rename_i kvs eo
      have hl : p < ρ.length := by rw [rh.len]; exact (List.getElem?_eq_some_iff.mp eo).1
      have hp : ρ[p]? = some ρ[p] := List.getElem?_eq_getElem hl
      obtain ⟨kv, ea, ek, rl⟩ := rh.obj p _ _ eo hp
      obtain ⟨od, I1⟩ := I.lock ea trivial
      have hn := I.nofrz ea trivial
      have lu : Le X.K ρ H ρ (upd H ρ[p] (.frz od (.dK kv))) := le_mut ea trivial
      have key : ∀ ρ' H' h2 kvs2, h2[p]? = some (.dF kvs2) → Le X.K ρ (upd H ρ[p] (.frz od (.dK kv))) ρ' H' → RelH X.K cm ρ' h2 H' → H' ρ[p] = some (.frz od (.dK kv)) ∧ Le X.K ρ H ρ' (upd H' ρ[p] (.dK kv)) ∧ RelH X.K cm ρ' (h2.set p (.dK kvs2)) (upd H' ρ[p] (.dK kv)) ∧ Le0 X.K ρ' H' ρ' (upd H' ρ[p] (.dK kv)) := fun ρ' H' h2 kvs2 eo2 l' rh' => by
        have ed := l'.fz _ _ _ upd_same
        exact ⟨ed, lock_le ea l', unlock_rel rh' (pre_get l'.pre hp) ed eo2, le_unlock ed⟩
      refine thn ((hb _ (tak_free (od := od) (u := .dK kv) hn tk)).run pins s σ _ ⟨fun σ' H' => H' ρ[p] = some (.frz od (.dK kv)) ∧ D.nx σ' (upd H' ρ[p] (.dK kv)), fun v H' => H' ρ[p] = some (.frz od (.dK kv)) ∧ D.rt v (upd H' ρ[p] (.dK kv)), fun σ' H' => H' ρ[p] = some (.frz od (.dK kv)) ∧ D.bk σ' (upd H' ρ[p] (.dK kv)), fun σ' H' => H' ρ[p] = some (.frz od (.dK kv)) ∧ D.ct σ' (upd H' ρ[p] (.dK kv))⟩ I1
        ⟨ρ, _, sw, RelH.set (o := .dF kvs) rh hp ea trivial ⟨od, kv, upd_same, ek, rl.mono lu⟩, rs.mono lu, ?_⟩) fun f s1 q => ?_
      · cases eb : m sw (h.set p (.dF kvs)) with
        | no => rw [eb] at o; exact o
        | ex c v h2 =>
          rw [eb] at o
          dsimp only at o
          split at o
          · rename_i kvs2 eo2
            intro ρ' H' d v' l' rh' ed' rv
            obtain ⟨a1, a2, a3, a4⟩ := key ρ' H' h2 kvs2 eo2 l' rh'
            have ned : d ≠ ρ[p] := fun z => by
              rw [z, a1] at ed'
              cases ed'
            exact ⟨a1, o ρ' _ d v' a2 a3 (by rw [upd_ne ned]; exact ed') (rv.mono0 a4)⟩
          · exact o.elim
        | ok f h2 =>
          rw [eb] at o
          dsimp only at o
          split at o
          · rename_i kvs2 eo2
            cases f with
            | nx s => exact fun ρ' H' σ' l' rh' rs' => let ⟨a1, a2, a3, a4⟩ := key ρ' H' h2 kvs2 eo2 l' rh'; ⟨a1, o ρ' _ σ' a2 a3 (rs'.mono0 a4)⟩
            | bk s => exact fun ρ' H' σ' l' rh' rs' => let ⟨a1, a2, a3, a4⟩ := key ρ' H' h2 kvs2 eo2 l' rh'; ⟨a1, o ρ' _ σ' a2 a3 (rs'.mono0 a4)⟩
            | ct s => exact fun ρ' H' σ' l' rh' rs' => let ⟨a1, a2, a3, a4⟩ := key ρ' H' h2 kvs2 eo2 l' rh'; ⟨a1, o ρ' _ σ' a2 a3 (rs'.mono0 a4)⟩
            | rt w => exact fun ρ' H' v l' rh' rv => let ⟨a1, a2, a3, a4⟩ := key ρ' H' h2 kvs2 eo2 l' rh'; ⟨a1, o ρ' _ v a2 a3 (rv.mono0 a4)⟩
          · exact o.elim
      · cases f with
        | next => obtain ⟨σ', H', I2, e, z⟩ := q; exact ⟨σ', _, I2.unlock e hn, z⟩
        | brk => obtain ⟨σ', H', I2, e, z⟩ := q; exact ⟨σ', _, I2.unlock e hn, z⟩
        | cont => obtain ⟨σ', H', I2, e, z⟩ := q; exact ⟨σ', _, I2.unlock e hn, z⟩
        | ret v => obtain ⟨x, σ', H', I2, r, e, z⟩ := q; exact ⟨x, σ', _, I2.unlock e hn, r, z⟩
    · exact o.elim
  · exact o.elim
end
end EL
/-! EL26: own operators and items that raise; raise itself. -/
namespace EL
open PySem PySem.Spec L2
open PyProof.Rows hiding St

theorem runY {X : Cx} {k : Nat} {f : Addr} {fd : FuncData} {ps : List Str} {sp : Sp} {A : Around} {pins : List (Addr × Obj)} {σ : St} {H : Hp} {s : Shared} {Q : VK} {us : List Value} {vs : List V} {E : XK} (F : FnOk X.prog X.w X.K X.mg X.base (L2.CX X.prog X.w) k f fd ps sp) (sb : Sub X k A) (hb : Binds X.K fd ps [])
    (tk : Tak X E) (I : Inv X pins σ H s) (r : Vals vs us) (h : sp vs H Q E) : wpAny (model X.prog X.w) A (call (.ref f) us) (EP X pins σ Q) X.xe s := by
  have len := F.len _ _ _ _ h
  have env : Env0 X.prog X.w X.K X.mg X.base A X.stack s H := by
    have z := I.env0
    exact ⟨sb.fr ▸ z.frames, z.mod, z.bs, z.bsz, z.funs, z.frf, z.hok, z.bare⟩
  have all : BindsTo s fd ⟨us, []⟩ (ps.zip us) := by
    have z := hb s us I.kIn (by rw [List.append_nil, ← r.length]; exact len)
    rw [List.append_nil] at z
    exact z
  refine wpAny_call (codeAny_mono (F.run A X.stack s H _ us vs Q E sb.room env all r h) fun back s' z => ?_)
  rcases back with bad | fl
  · exact tak_pass tk pins σ H s bad s' I z
  · cases fl with
    | ret u => exact I.after z
    | _ => exact z.elim
/-- what a class must say of an operator beside another kind of value -/
structure BinF (K : PySem.W.Frag) (C : Addr) (op : Operator) (n : String) : Prop where
  back : ∃ rc, PySem.W.findIn K (.ref C) (dunderR op.info.2) = some rc ∧ (rc = none ∨ ∃ g : Addr, rc = some (.ref g))
  here : ∃ fo, PySem.W.findIn K (.type n) (PySem.dunder op.info.2) = some fo
  over : ∃ ro, PySem.W.findIn K (.type n) (dunderR op.info.2) = some ro
  sub : PySem.W.subIn K (.type n) (.ref C) = some false
end EL
namespace PySem.W
open PySem PySem.Calls PyProof.Rows
/-- an own operator beside an object of a built-in kind -/
theorem own_bin {prog : Program} {w : World} {A : Around} {E : Value → Shared → Prop} {s : Shared} {K : Frag} {x C L f : Addr} {h₀ : Heap} {m : Str → Option Value} {ox : Obj} {od : Option Obj} {T : String} {op : Operator} {b : Value} {fo ro rc : Option Value} {Q : Value → Shared → Prop}
    (F : Fr h₀ L s.heap m) (X₀ : K.In h₀) (I : InstAt s.heap x ox C od) (kind : Looks (model prog w) s.heap (typeOf b) (.type T)) (first : selfFirst K C = true) (mine : findIn K (.ref C) (PySem.dunder op.info.2) = some (some (.ref f))) (fn : isFn K (.ref f) = true)
    (back : findIn K (.ref C) (dunderR op.info.2) = some rc) (plain : rc = none ∨ ∃ g : Addr, rc = some (.ref g)) (its : findIn K (.type T) (PySem.dunder op.info.2) = some fo) (over : findIn K (.type T) (dunderR op.info.2) = some ro) (no : subIn K (.type T) (.ref C) = some false)
    (h : wpAny (model prog w) A (call (.ref f) [.ref x, b]) (CmpBack Q) E s) : wpAny (model prog w) A (binaryOp op (.ref x) b) Q E s := by
  have X := X₀.keeps F.keep
  obtain ⟨cd, rest, hcd, hm⟩ := ksp_first first
  obtain ⟨sym, nm, info⟩ : ∃ sym nm, op.info = (sym, nm) := ⟨_, _, rfl⟩
  rw [info] at mine back its over
  have made := ksp_try X I mine fn h
  obtain ⟨hh, gs, dr, tk, os⟩ := s
  have K1 : Looks (model prog w) hh (typeOf (.ref x)) (.ref C) := I.type
  have K2 := fills_K (M := model prog w) X hcd hm mine
  have K3 := ksp_fillsT (M := model prog w) X its over
  have K4 : Looks (model prog w) hh (isSubtype (.type T) (.ref C)) false := looks_subIn X no
  have K5 := ksp_inPy (M := model prog w) X mine back plain
  have K6 : Looks (model prog w) hh (numberSlotInPython (.type T) nm) false := .of_pure rfl
  have K7 : Looks (model prog w) hh (typeLookup (.type T) (dunderR nm)) ro := looks_findIn X over
  generalize ((fo.isSome && !isSeqSlot fo) || (ro.isSome && !isSeqSlot ro)) = there at K3
  have apart : (Value.ref C == Value.type T) = false := Bool.eq_false_iff.mpr fun z => nomatch beq_iff_eq.mp z
  simp only [binaryOp, info]
  refine wpAny_holding (wpAny_bind ?_)
  unfold binaryOp1
  refine wpAny_bind (K1.at (wpAny_bind (kind.at (wpAny_bind (K2.at ?_)))))
  simp only [apart, if_false, Bool.false_eq_true]
  cases there <;>
    (ksp_lk
     refine wpAny_mono made (fun r s' z => ?_) fun _ _ e => e
     obtain ⟨v, rfl, q⟩ := z
     ksp_lk
     exact q)
end PySem.W
namespace EL
open PySem PySem.Spec L2
open PyProof.Rows hiding St
def rOwnY (K : PySem.W.Frag) (C : Addr) (tys : List String) (sp : Sp) (E : XK) : R2 := fun x y H Q => ∃ a dx fs t, x = .ref a ∧ H a = some (.ins C dx fs) ∧ TyN K C H y t ∧ (t = .ref C ∨ ∃ n ∈ tys, t = .type n) ∧ sp [x, y] H Q E
theorem op_binY {X : Cx} {op : Operator} {k : Nat} {f C : Addr} {fd : FuncData} {ps : List Str} {sp : Sp} {tys : List String} {E : XK} (F : FnOk X.prog X.w X.K X.mg X.base (L2.CX X.prog X.w) k f fd ps sp) (hr : Room k X.A) (hb : Binds X.K fd ps []) (tk : Tak X E)
    (hc : PySem.W.selfFirst X.K C = true) (hs : PySem.W.findIn X.K (.ref C) (PySem.dunder op.info.2) = some (some (.ref f))) (hf : PySem.W.isFn X.K (.ref f) = true) (hn : ∀ n ∈ tys, BinF X.K C op n) : OpR X (binaryOp op) (rOwnY X.K C tys sp E) := by
  intro pins s σ H x y v u Q I rx ry hq
  obtain ⟨a, dx, fs, t, rfl, ea, ty, ht, h⟩ := hq
  cases (show v = Value.ref a from rx)
  obtain ⟨od, J⟩ := inst_of I ea
  obtain ⟨m, hF⟩ := I.fr
  have run : wpAny (model X.prog X.w) X.A (call (.ref f) [.ref a, u]) (PySem.W.CmpBack (EP X pins σ Q)) X.xe s := wpAny_mono (runY F ⟨hr, rfl⟩ hb tk I (.cons rx (.cons ry .nil)) h) (fun r s' q => by
    obtain ⟨z, H', I', rz, q⟩ := q
    exact back_of (rel_ni rz) ⟨z, H', I', rz, q⟩) fun _ _ e => e
  have LT := ty.looks I ry
  rcases ht with rfl | ⟨n, hm, rfl⟩
  · exact PySem.W.binop_K (op := op) hF I.ok.mod.kin J LT hc hs hf run
  · obtain ⟨⟨rc, b1, b2⟩, ⟨fo, b3⟩, ⟨ro, b4⟩, b5⟩ := hn n hm
    exact PySem.W.own_bin hF I.ok.mod.kin J LT hc hs hf b1 b2 b3 b4 b5 run
theorem op_cmpY {X : Cx} {op : CmpOp} {k : Nat} {f C : Addr} {fd : FuncData} {ps : List Str} {sp : Sp} {tys : List String} {E : XK} (ho : compareOp op = richCompare op) (F : FnOk X.prog X.w X.K X.mg X.base (L2.CX X.prog X.w) k f fd ps sp) (hr : Room k X.A) (hb : Binds X.K fd ps []) (tk : Tak X E)
    (hs : PySem.W.findIn X.K (.ref C) (cmpInfo op).2.1 = some (some (.ref f))) (hf : PySem.W.isFn X.K (.ref f) = true) (hn : ∀ n ∈ tys, PySem.W.notFirst X.K C (.type n) = true) : OpR X (compareOp op) (rOwnY X.K C tys sp E) := by
  intro pins s σ H x y v u Q I rx ry hq
  obtain ⟨a, dx, fs, t, rfl, ea, ty, ht, h⟩ := hq
  cases (show v = Value.ref a from rx)
  obtain ⟨od, J⟩ := inst_of I ea
  obtain ⟨m, hF⟩ := I.fr
  have run : wpAny (model X.prog X.w) X.A (call (.ref f) [.ref a, u]) (PySem.W.CmpBack (EP X pins σ Q)) X.xe s := wpAny_mono (runY F ⟨hr, rfl⟩ hb tk I (.cons rx (.cons ry .nil)) h) (fun r s' q => by
    obtain ⟨z, H', I', rz, q⟩ := q
    exact back_of (rel_ni rz) ⟨z, H', I', rz, q⟩) fun _ _ e => e
  rw [ho]
  refine PySem.W.cmp_K (op := op) (tb := t) hr.units0 hF I.ok.mod.kin J (ty.looks I ry) ?_ hs hf run
  rcases ht with rfl | ⟨n, hm, rfl⟩
  · unfold PySem.W.notFirst
    simp
  · exact hn n hm
section
variable {X : Cx} {cm : Cm} {E : XK} {a b : Expr} {ma mb : ME} {pos : Pos} {C : Str} {f : List W → M W} {tys : List String}
theorem yop_of {σ : St} {H : Hp} {Q : VK} (q : yE X.K cm E (mBin (fOwn C tys f) (noX ma) (noX mb)) σ H Q) : tOp (rOwnY X.K (cm C) tys (spY X.K cm f) E) (tE X.K cm ma) (tE X.K cm mb) σ H Q := by
  obtain ⟨ρ, h, sw, rh, rs, o⟩ := q
  obtain ⟨x, h1, e1, o⟩ := nx_out o
  obtain ⟨y, h2, e2, o⟩ := nx_out o
  refine ⟨ρ, h, sw, x, h1, rh, rs, e1, fun ρ1 H1 x' l1 rh1 rx => ⟨ρ1, h1, sw, y, h2, rh1, rs.mono l1, e2, fun ρ2 H2 y' l2 rh2 ry => ?_⟩⟩
  have rx2 := rx.mono l2
  unfold fOwn at o
  split at o
  · rename_i c
    obtain ⟨c1, c2⟩ := Bool.and_eq_true_iff.mp c
    obtain ⟨p, ad, dx, fv, rfl, rfl, hp, ea⟩ := insB_of rh2 rx2 c1
    obtain ⟨t, ty, ht⟩ := tyIn_of rh2 ry c2
    exact ⟨ad, dx, fv, t, rfl, ea, ty, ht, ρ2, h2, _, rh2, .cons rx2 (.cons ry .nil), OutE.le (l1.trans l2) o⟩
  · exact o.elim
theorem ye_bin {op : Operator} (ho : OpR X (binaryOp op) (rOwnY X.K (cm C) tys (spY X.K cm f) E)) (ra : RE X cm a ma) (rb : RE X cm b mb) : YE X cm E (.BinOp a op b pos) (mBin (fOwn C tys f) (noX ma) (noX mb)) :=
  peM (pe_op ho ra rb) fun _ _ _ => yop_of
theorem ye_cmp {op : CmpOp} (ho : OpR X (compareOp op) (rOwnY X.K (cm C) tys (spY X.K cm f) E)) (ra : RE X cm a ma) (rb : RE X cm b mb) (hm : behindInMarks op b = false := by first | exact nomark _ | rfl) : YE X cm E (.Compare a [op] [b] pos) (mBin (fOwn C tys f) (noX ma) (noX mb)) :=
  peM (pe_cmpR ho ra rb hm) fun _ _ _ => yop_of
end
end EL
set_option maxHeartbeats 4000000
/-! EL26b: own error classes over any of five built-in ones, made with one field. -/
namespace EL
open PySem PySem.Spec L2
open PyProof.Rows hiding St

/-- the class is made by a call: its __new__, then the own __init__ -/
def MadeBy (nw : String) (tl : List Value) : Prop := ∀ {prog : Program} {w : World} {A : Around} {R : Result → Shared → Prop} {h : Heap} {g : Array GenState} {d : Drawn} {t : Nat} {os : OsState} {nm q : Str} {C N : Addr} {bs bm : List Value} {sn : List Str} {sub : List Value} {ab : Bool} {col : Option Bool} {dd : Option Addr} {k0 k1 k2 k3 k5 : Option Value} {us : List Value} {fI : Addr},
  (∀ X : String, bm.contains (.type X) = tl.contains (.type X)) → h.get? C = some (excClassObj nm q C N bs bm true sn sub ab col dd k0 k1 k2 k3 k5 nw) → PySem.W.Looks (model prog w) h (typeLookup (.ref C) "__init__") (some (.ref fI)) → (∀ self, PySem.W.Looks (model prog w) h (bindSpecial (.ref fI) self) (.ref fI, [self])) → us.length ≤ sizeLine →
  codeAny (model prog w) (A.under (.builtin "type.__call__" ⟨.ref C :: us, []⟩)) (.call (.ref fI) ⟨.ref (h.objs.size + 1) :: us, []⟩) (PySem.W.InitBack (h.objs.size + 1) R) ⟨(h.push (PySem.W.kdv_tup us)).push (PySem.HandSPX.excO C h.objs.size), g, d, t, os⟩ → codeAny (model prog w) A (.call (.ref C) ⟨us, []⟩) R ⟨h, g, d, t, os⟩
/-- what is known of a family: its built-in class, its __new__, the tail of its mro -/
structure FamI (nw : String) (tl : List Value) : Prop where
  made : MadeBy nw tl
  fs : ∃ B, StoreFacts B tl "object.__setattr__" "object"
theorem famI_V : FamI "ValueError.__new__" [.type "ValueError", .type "Exception", .type "BaseException", .type "object"] := ⟨fun a b c d e f => PySem.HandSPX.call_own F.excBase_ValueError a b c d e f, _, F.store_ValueError⟩
theorem famI_O : FamI "OverflowError.__new__" [.type "OverflowError", .type "ArithmeticError", .type "Exception", .type "BaseException", .type "object"] := ⟨fun a b c d e f => PySem.HandSPX.call_own F.excBase_OverflowError a b c d e f, _, F.store_OverflowError⟩
theorem famI_R : FamI "RuntimeError.__new__" [.type "RuntimeError", .type "Exception", .type "BaseException", .type "object"] := ⟨fun a b c d e f => PySem.HandSPX.call_own F.excBase_RuntimeError a b c d e f, _, F.store_RuntimeError⟩
theorem store_Key : StoreFacts "KeyError" [.type "KeyError", .type "LookupError", .type "Exception", .type "BaseException", .type "object"] "object.__setattr__" "object" :=
  { mro := by kernel_rfl, slot := .of (owner := "object") (n := "__setattr__") (by rw [typeLookup_type, builtinLookup_eq_fast]; kernel_rfl) (by decide +kernel) (by decide +kernel) (by decide +kernel) (by first | exact .inl (by decide +kernel) | exact .inr (by decide +kernel)) (by rw [isSubtype_type]; kernel_rfl),
    entry := F.entry_object_sa, kind := by decide +kernel, split := by decide +kernel, hasOwner := by decide +kernel, args := fun a b c => by unfold argsOk; kernel_rfl, passes := fun self => by kernel_rfl }
section
variable {prog : Program} {w : World} {A : Around} {R : Result → Shared → Prop} {E : Value → Shared → Prop} {h : Heap} {g : Array GenState} {d : Drawn} {t : Nat} {os : OsState} {nm q : Str} {C N : Addr} {bs bm : List Value} {sn : List Str} {sub : List Value} {ab : Bool} {col : Option Bool} {dd : Option Addr} {k0 k1 k2 k3 k5 : Option Value} {us : List Value} {fI : Addr}
/-- LookupError's __new__ of a class that stands over it -/
theorem key_check {M : Model} {Q : Unit → Shared → Prop} (hL : bm.contains (.type "LookupError") = true) (at_ : h.get? C = some (excClassObj nm q C N bs bm true sn sub ab col dd k0 k1 k2 k3 k5 "LookupError.__new__")) (z : Q () ⟨h, g, d, t, os⟩) : wpAny M A (checkBuiltinCall "LookupError.__new__" ⟨.ref C :: us, []⟩) Q E ⟨h, g, d, t, os⟩ := by
  have F := F.excBase_LookupError
  have star := F.noStar
  have has : (Value.ref C :: bm).contains (.type "LookupError") = true := by rw [List.contains_cons, hL, Bool.or_true]
  simp only [checkBuiltinCall, F.newKind, F.newSplit, F.newRow]
  repeat (first | refine wpAny_loadPart_at at_ ?_ | (refine wpAny_isSubtype_exc at_ ?_; rw [has]) | refine wpAny_staticBase_exc at_ ?_ | refine wpAny_madeBy_exc at_ ?_ | simp only [bne_self_eq_false, Bool.false_eq_true, if_false] | wp_step)
  exact z
theorem key_new (hL : bm.contains (.type "LookupError") = true) (hA : bm.contains (.type "AttributeError") = false) (hN : bm.contains (.type "NameError") = false) (at_ : h.get? C = some (excClassObj nm q C N bs bm true sn sub ab col dd k0 k1 k2 k3 k5 "LookupError.__new__")) (few : us.length ≤ sizeLine)
    (z : R (.ok (.ret (.ref (h.objs.size + 1)))) ⟨(h.push (PySem.W.kdv_tup us)).push (PySem.HandSPX.excO C h.objs.size), g, d, t, os⟩) : codeAny (model prog w) A (.builtin "LookupError.__new__" ⟨.ref C :: us, []⟩) R ⟨h, g, d, t, os⟩ := by
  have F := F.excBase_LookupError
  have ends := F.ends
  have has : (Value.ref C :: bm).contains (.type "LookupError") = true := by rw [List.contains_cons, hL, Bool.or_true]
  have noA : (Value.ref C :: bm).contains (.type "AttributeError") = false := by rw [List.contains_cons, hA]; rfl
  have noN : (Value.ref C :: bm).contains (.type "NameError") = false := by rw [List.contains_cons, hN]; rfl
  refine codeAny_builtinAt F.entry ?_
  unfold Builtin.«BaseException.__new__»
  refine PySem.wpAt_bind ?_
  show PySem.wpAt _ _ _ (stack >>= _) _ _ _
  refine PySem.wpAt_bind (PySem.wpAt_stack fun p below => PySem.wpAt_of_wpAny ?_)
  wp_walk
  refine PySem.wpAt_of_wpAny ?_
  rw [F.owner]
  repeat (first | with_reducible refine wpAny_madeHere_exc F.canon at_ ?_ | with_reducible refine wpAny_loadPart_at at_ ?_ | (with_reducible refine wpAny_isSubtype_exc at_ ?_; first | rw [has] | rw [noA] | rw [noN]) | wp_step)
  show R _ _
  rw [Heap.size_push]
  exact z
end
theorem made_K : MadeBy "LookupError.__new__" [.type "KeyError", .type "LookupError", .type "Exception", .type "BaseException", .type "object"] := by
  intro prog w A R h g d t os nm q C N bs bm sn sub ab col dd k0 k1 k2 k3 k5 us fI hT at_ hi hb few hq
  have hL : bm.contains (.type "LookupError") = true := by rw [hT]; decide +kernel
  have hA : bm.contains (.type "AttributeError") = false := by rw [hT]; decide +kernel
  have hN : bm.contains (.type "NameError") = false := by rw [hT]; decide +kernel
  have f1 := tc_lookup
  have f2 := tc_bind (.ref C)
  have ty : (⟨h, g, d, t, os⟩ : Shared).TypeIs (.ref C) "type" := ⟨_, at_, rfl⟩
  refine codeAny_of_tree ?_
  show wpAny _ _ (callAny (.ref C) _) _ _ _
  repeat (any_goals (first | assumption | with_reducible refine wpAny_loadPart_at at_ ?_ | wp_step))
  refine ⟨rfl, codeAny_call_builtin_at (Code.quiet_builtin _ (by decide +kernel)) entry_typeCall (wpAny_check_type_call_sub at_ ?_)⟩
  repeat (first | with_reducible refine wpAny_loadPart_at at_ ?_ | with_reducible refine wpAny_madeBy_exc at_ ?_ | wp_step)
  refine codeAny_call_builtin_code (Code.quiet_builtin _ F.excBase_LookupError.quiet) (key_check hL at_ (key_new hL hA hN at_ few ?_))
  show wpAny _ _ _ _ _ _
  have kk : ∀ b o, h.get? b = some o → ((h.push (PySem.W.kdv_tup us)).push (PySem.HandSPX.excO C h.objs.size)).get? b = some o := fun b o e => Heap.get?_push_of_some _ (Heap.get?_push_of_some _ e)
  have at1 := kk _ _ at_
  have mine : ((h.push (PySem.W.kdv_tup us)).push (PySem.HandSPX.excO C h.objs.size)).get? (h.objs.size + 1) = some ({ cls := .ref C, data := .fields #[.ref h.objs.size, .none, .none, .none, .bool false, .none] } : Obj) := by heap_get
  have self : (Value.ref C :: bm).contains (.ref C) = true := by simp
  have i1 := hi.keeps kk
  have b1 := (hb (.ref (h.objs.size + 1))).keeps kk
  unfold isInstance
  repeat (first | with_reducible refine wpAny_loadPart_at mine ?_ | (refine wpAny_isSubtype_exc at1 ?_; rw [self]) | wp_step)
  show wpAny _ _ (typeLookup (.ref C) _) _ _ _
  refine i1.at (wpAny_holding (wpAny_bind (b1.at (wpAny_bind (wpAny_call (codeAny_mono hq fun r s' z => ?_))))))
  rcases r with e | (v | _ | _ | _) <;> first | exact z | exact z.elim | skip
  obtain ⟨rfl, z⟩ := z
  first
    | exact wpAny_pure (wpAny_pure z)
    | (wp_walk; exact z)
theorem famI_K : FamI "LookupError.__new__" [.type "KeyError", .type "LookupError", .type "Exception", .type "BaseException", .type "object"] := ⟨made_K, _, store_Key⟩
/-- what the written part says of an error class -/
structure OexG (K : PySem.W.Frag) (C : Addr) : Prop where
  cls : ∃ nw tl nm q N bs bm sn sb ab cl dd k0 k1 k2 k3 k5, FamI nw tl ∧ K.lookup C = some (excClassObj nm q C N bs bm true sn sb ab cl dd k0 k1 k2 k3 k5 nw) ∧ PySem.W.excTail tl bm = true
  sa : PySem.W.findIn K (.ref C) "__setattr__" = some (some (.builtin "object.__setattr__"))
  exC : PySem.W.subIn K (.ref C) (.type "BaseException") = some true
  tyC : PySem.W.typeIn K (.ref C) = some (.type "type")
  kC : PySem.W.keepIn K (.ref C) = true
section
variable {X : Cx} {pins : List (Addr × Obj)} {σ : St} {H : Hp} {s : Shared} {a C dx : Addr} {f : Str} {y : V} {u : Value} {Q : Unit → Shared → Prop} {E : Value → Shared → Prop} {A : Around}
/-- the one field of an error is set -/
theorem ost_one (T : OexG X.K C) (I : Inv X pins σ H s) (e : H a = some (exo a C none)) (hno : PySem.W.findIn X.K (.ref C) f = some none) (ry : RelV y u)
    (k : ∀ dx s', H dx = none → dx ≠ a → Inv X pins σ (upd (upd H dx (exd dx [(f, y)])) a (exo a C (some dx))) s' → Q () s') : wpAny (model X.prog X.w) A (setAttr (.ref a) f u) Q E s := by
  obtain ⟨nw, tl, nm, q, N, bs, bm, sn, sb, ab, cl, dd, k0, k1, k2, k3, k5, fam, hC, hbm⟩ := T.cls
  have hcl : ∃ cd, PySem.W.clsIn X.K C = some cd ∧ cd.mro = .ref C :: bm ∧ cd.hasDict = true := ⟨_, by unfold PySem.W.clsIn; rw [hC] <;> rfl, rfl, rfl⟩
  obtain ⟨cd, hcl, hmro, hhd⟩ := hcl
  have ov : PySem.W.excOver X.K C tl = true := by unfold PySem.W.excOver; rw [hcl]; simp [hmro, hbm]
  have tk : PySem.W.takerIn X.K C f = some none := by unfold PySem.W.takerIn; rw [hno]; rfl
  obtain ⟨t1, ho⟩ := exo_at I.hok e
  obtain ⟨hp, g, d, t, os⟩ := s
  refine PySem.W.set_plain I.kIn (ox := { cls := .ref C, dict := none, data := .fields #[.ref t1, .none, .none, .none, .bool false, .none] }) (od := none) ⟨ho, rfl, rfl, trivial⟩ T.sa ?_
  obtain ⟨Bt, fs⟩ := fam.fs
  refine PySem.W.osa_openX (od := none) (s := ⟨hp, g, d, t + 1, os⟩) fs I.kIn ⟨ho, rfl, rfl, trivial⟩ ov tk fun b => ?_
  have lc : PySem.W.Looks (model X.prog X.w) hp (classData C) cd := PySem.W.looks_clsIn I.kIn hcl
  have ne : a ≠ hp.objs.size := Nat.ne_of_lt (Heap.lt_size ho)
  show wpAny _ _ (Builtin.ObjectAttr.storeInOwnDict (.ref a) (.ref C) (.str f t) f u b) _ _ _
  unfold Builtin.ObjectAttr.storeInOwnDict Builtin.ObjectAttr.ownDictForStores
  obtain ⟨nm', bs', mro', ns', qn', hd', sn', sb', ab', col', del'⟩ := cd
  dsimp only at hhd
  subst hhd
  repeat (first | with_reducible refine PySem.HandSPX.store_in_new ?_ ?_ | with_reducible refine wpAny_loadPart_at ho ?_ | with_reducible refine lc.at ?_ | wp_step)
  · exact ⟨_, #[], _, (Heap.get?_update_ne _ _ _ _ ne.symm).trans (Heap.get?_push_at rfl rfl), rfl, fun e he => absurd he (by simp), fun _ => rfl⟩
  · intro h' tk' hn sm
    have at0 : (hp.push { cls := .type "dict", data := .dict #[] }).get? a = some ({ cls := .ref C, dict := none, data := .fields #[.ref t1, .none, .none, .none, .bool false, .none] } : Obj) := Heap.get?_push_of_some _ ho
    have kp : ∀ b o, b ≠ a → hp.get? b = some o → h'.get? b = some o := fun b o hb z => (sm.2 b (Nat.ne_of_lt (Heap.lt_size z))).trans ((Heap.get?_update_ne _ _ _ _ hb).trans (Heap.get?_push_of_some _ z))
    have ax : h'.get? a = some ({ cls := .ref C, dict := some hp.objs.size, data := .fields #[.ref t1, .none, .none, .none, .bool false, .none] } : Obj) := (sm.2 a ne).trans (Heap.get?_update_self _ at0 rfl)
    have hnd : H hp.objs.size = none := I.hok.fresh (Nat.le_refl _)
    have nd : ∀ {b : Addr} {o : Obj}, hp.get? b = some o → b ≠ hp.objs.size := fun z => Nat.ne_of_lt (Heap.lt_size z)
    have na : ∀ {b : Addr}, H b = none → b ≠ a := fun n z => by rw [z, e] at n; cases n
    -- what else stood there stands
    have st : ∀ {b : Addr} {o : HO}, H b = some o → exo a C none ≠ o → upd (upd H hp.objs.size (exd hp.objs.size [(f, y)])) a (exo a C (some hp.objs.size)) b = some o := fun z d => by rw [upd_ne (at_ne e z d), upd_ne (ne_of_none z hnd)]; exact z
    have U : Un X.fs [] H (upd (upd H hp.objs.size (exd hp.objs.size [(f, y)])) a (exo a C (some hp.objs.size))) hp h' :=
      { keep := fun b o z n _ _ => kp b o (na n) z, slot := fun b o z n _ _ => ⟨o.slots, kp b o (na n) z⟩, free := fun b o z n _ => by rw [upd_ne (na n), upd_ne (nd z)]; exact n,
        there := fun b o z _ => (Classical.em (b = a)).elim (fun hb => ⟨_, hb ▸ ax⟩) fun hb => ⟨o, kp b o hb z⟩,
        tups := fun b xs z => st z exo_tup, frzs := fun b o v z => st z exo_frz, tbls := fun b ps z => ⟨#[], by rw [st z exo_tbl]; simp⟩ }
    refine k hp.objs.size _ hnd ne.symm (I.un (t' := tk') U fun b o z => ?_)
    by_cases hb : b = a
    · subst hb; rw [upd_same] at z; cases z; exact exo_ok ax
    rw [upd_ne hb] at z
    by_cases hd : b = hp.objs.size
    · subst hd; rw [upd_same] at z; cases z; exact exd_ok hn (relO_put (fs := []) ry fun g => True.intro)
    rw [upd_ne hd] at z
    exact (I.hok b o z).stay (fun c v hc w => kp c v (hc.elim (fun q => by rw [q]; exact hb) fun q => at_ne e q exo_own) w) (fun c hc => st hc exo_own) (fun c xs hc => st hc exo_tup)
end
/-- self.f = e, the one store of an error's __init__ -/
def tOs1 (K : PySem.W.Frag) (f : Str) (to te : TE) : TS := fun D σ H => te σ H fun y H1 => to σ H1 fun x H2 => ∃ a C : Addr, x = .ref a ∧ OexG K C ∧ PySem.W.findIn K (.ref C) f = some none ∧ H2 a = some (exo a C none) ∧ ∀ dx, H2 dx = none → dx ≠ a → D.nx σ (upd (upd H2 dx (exd dx [(f, y)])) a (exo a C (some dx)))
section
variable {X : Cx} {o e : Expr} {es : List Expr} {to te : TE} {ta : TA} {f : Str} {p p' pos : Pos}
theorem ps_os1 (ho : PE X o to) (he : PE X e te) (hs : swapsWith e (some (.Attribute o f p')) pos.line X.env = pure false := by rfl) : PS X (.Assign [.Attribute o f p'] e pos) (tOs1 X.K f to te) := by
  refine ⟨fun pins s σ H D I w => plainObj_wpAny_Assign_Attribute (thn (he.run pins s σ H _ I w) fun v s1 ⟨y, H1, I1, r1, q1⟩ => thn (ho.run pins s1 σ H1 _ I1 q1) fun u s2 ⟨x, H2, I2, r2, a, C, ex, T, hno, ea, q⟩ => ?_) hs⟩
  subst ex
  obtain rfl : u = Value.ref a := r2
  exact ost_one T I2 ea hno r1 fun dx s' n ne J => ⟨σ, _, J, q dx n ne⟩
theorem pmk_oxg {CX : CXT} {x : Str} {C fI : Addr} {k : Nat} {fd : FuncData} {ps : List Str} {sp : Sp} {ds : List Value} {dvs : List V} (T : OexG X.K C) (iC : PySem.W.findIn X.K (.ref C) "__init__" = some (some (.ref fI))) (tI : PySem.W.typeIn X.K (.ref fI) = some (.type "function"))
    (F1 : FnOk X.prog X.w X.K X.mg X.base CX k fI fd ps sp) (hr : Room (k + 1) X.A) (hb : Binds X.K fd ps ds) (hd : Vals dvs ds) (hx : Passes CX X (fun _ _ _ => False)) (hg : Gl X x) (hm : X.mg x = some (.ref C)) (ha : PA X (e :: es) ta)
    (hdb : (x == ("__debug__" : Str)) = false := by decide) (he : starEach (e :: es) X.env = (false, eval e X.env) :: starEach es X.env := by rfl) (hpl : (backTo pos (starEach es X.env)).any (·.1) = false := by rfl) : PMk X (.Call (.Name x p) (e :: es) [] pos) (tMkO C sp dvs ta) := by
  intro pins s σ H Q I w
  obtain ⟨nw, tl, nm, q, N, bs, bm, sn, sb, ab, cl, dd, k0, k1, k2, k3, k5, fam, hC, hbm⟩ := T.cls
  refine wpAny_Call_Name_kw (ld_glob I hg hm (PySem.W.callWith_K (h₀ := X.base) I.ok.mod.kin T.kC (thn (ha.run pos pins s σ H _ I w) fun us s1 ⟨vs, H1, I1, r1, hz, q1⟩ => ⟨I1.kIn, ?_⟩) he hpl) hdb)
  show wpAny _ _ (call (.ref C) us) _ _ _
  obtain ⟨hp, g, dr, tk, os⟩ := s1
  have up : hp.objs.size ≤ hp.objs.size + 1 := Nat.le_succ _
  have hn : H1 (hp.objs.size + 1) = none := I1.hok.fresh up
  have hq := q1 (hp.objs.size + 1) hn
  have kk : ∀ b o, hp.get? b = some o → ((hp.push (PySem.W.kdv_tup us)).push (PySem.HandSPX.excO C hp.objs.size)).get? b = some o := fun b o z => Heap.get?_push_of_some _ (Heap.get?_push_of_some _ z)
  have gt : ((hp.push (PySem.W.kdv_tup us)).push (PySem.HandSPX.excO C hp.objs.size)).get? (hp.objs.size + 1) = some (PySem.HandSPX.excO C hp.objs.size) := by heap_get
  have I2 := I1.laid (t' := tk) (a := hp.objs.size + 1) (o := exo (hp.objs.size + 1) C none) (h' := (hp.push (PySem.W.kdv_tup us)).push (PySem.HandSPX.excO C hp.objs.size)) kk up (exo_ok gt)
  have r2 : Vals (V.ref (hp.objs.size + 1) :: (vs ++ dvs)) (Value.ref (hp.objs.size + 1) :: (us ++ ds)) := .cons rfl (r1.append hd)
  have hl : (Value.ref (hp.objs.size + 1) :: us ++ ds).length = ps.length := by have z := r2.length; rw [F1.len _ _ _ _ hq] at z; exact z.symm
  have hus : us.length ≤ sizeLine := by rw [← Paired.length r1, sizeLine_eq]; omega
  refine wpAny_call (fam.made (fun Y => PySem.W.excTail_contains Y bm hbm) (I1.kIn _ _ hC) (PySem.W.looks_findIn I1.kIn iC) (fun self => PySem.W.bind_fn I1.kIn self tI) hus
    (codeAny_mono (F1.run _ X.stack _ _ ⟨Value.ref (hp.objs.size + 1) :: us, []⟩ (Value.ref (hp.objs.size + 1) :: (us ++ ds)) _ _ (fun _ _ _ => False) (hr.make C us []) (I2.env0.make C us []) (hb _ (Value.ref (hp.objs.size + 1) :: us) I2.kIn hl) r2 hq) fun r s' z => ?_))
  match r, z with
  | .error er, z => exact hx pins σ _ _ er s' I2 z
  | .ok (.ret u), z =>
    obtain ⟨v, H2, os2, bare2, un2, hok2, rv, ev, d, fs, ea, ed, hd1, q2⟩ := z
    subst ev
    exact ⟨rv, mk_end (raises_own T.exC T.tyC) I1 up kk un2 hok2 os2 bare2 ea ed hd1 q2⟩
  | .ok .next, z => exact False.elim z
  | .ok .brk, z => exact False.elim z
  | .ok .cont, z => exact False.elim z
end
end EL
/-! EL27: items that are put, raise, the errors of the text. -/
namespace EL
open PySem PySem.Spec L2
open PyProof.Rows hiding St

def rSetY (C : Addr) (sp : Sp) (E : XK) : TSet := fun o i v H Q => ∃ a dx fs, o = .ref a ∧ H a = some (.ins C dx fs) ∧ sp [o, i, v] H (fun _ H' => Q H') E
theorem set_Y {X : Cx} {k : Nat} {f C : Addr} {fd : FuncData} {ps : List Str} {sp : Sp} {E : XK} (F : FnOk X.prog X.w X.K X.mg X.base (L2.CX X.prog X.w) k f fd ps sp) (hr : Room k X.A) (hb : Binds X.K fd ps []) (tk : Tak X E)
    (hq : PySem.W.noSeq X.K C = true) (hs : PySem.W.findIn X.K (.ref C) "__setitem__" = some (some (.ref f))) (hf : PySem.W.isFn X.K (.ref f) = true) : PSet X (rSetY C sp E) := by
  intro pins s σ H o i v ov iv u Q I ro ri rv h
  obtain ⟨a, dx, fs, rfl, ea, h⟩ := h
  cases (show ov = Value.ref a from ro)
  obtain ⟨od, J⟩ := inst_of I ea
  obtain ⟨m, hF⟩ := I.fr
  exact PySem.W.ksp_setItem hF I.ok.mod.kin J hq hs hf (wpAny_mono (runY F ⟨hr, rfl⟩ hb tk I (.cons ro (.cons ri (.cons rv .nil))) h) (fun r s' q => let ⟨_, H', I', _, q⟩ := q; ⟨H', I', q⟩) fun _ _ e => e)
def sSetO (C : Str) (f : List W → M W) (mo mi mv : ME) : MS := fun sw => bnd (mv sw) fun v => bnd (mo sw) fun o => bnd (mi sw) fun i h => if insB h o C = true then (match f [o, i, v] h with
  | .ok _ h' => .ok (.nx sw) h'
  | .ex c v h' => .ex c v h'
  | .no => .no) else .no
theorem nxS {α : Type} {m : SW → M α} {f : α → M Fl} {K : PySem.W.Frag} {cm : Cm} {E : XK} {ρ : List Addr} {H : Hp} {D : Ends} {sw : SW} {h : Hw} (o : OutS K cm E ρ H (bnd (noX m sw) f h) D) : ∃ a h1, m sw h = .ok a h1 ∧ OutS K cm E ρ H (f a h1) D := by
  unfold bnd noX at o
  cases e1 : m sw h with
  | no => rw [e1] at o; exact o.elim
  | ex c v h' => rw [e1] at o; exact o.elim
  | ok a h1 => rw [e1] at o; exact ⟨a, h1, rfl, o⟩
section
variable {X : Cx} {cm : Cm} {E : XK} {a b c e o i : Expr} {es : List Expr} {me mo mi : ME} {mr : MA} {pos pos' p : Pos} {C : Str} {f : List W → M W}
theorem ys_setO {k : Nat} {g : Addr} {fd : FuncData} {ps : List Str} (F : FnY X.prog X.w X.K X.mg X.base cm k g fd ps f) (hr : Room k X.A) (hb : Binds X.K fd ps []) (tk : Tak X E)
    (hq : PySem.W.noSeq X.K (cm C) = true) (hs : PySem.W.findIn X.K (.ref (cm C)) "__setitem__" = some (some (.ref g))) (hf : PySem.W.isFn X.K (.ref g) = true) (ho : RE X cm o mo) (hi : RE X cm i mi) (he : RE X cm e me)
    (ha : ∀ v, assign (.Subscript o i p) X.env v = (do
      let ov ← holding [v] (eval o X.env)
      let iv ← holding [v, ov] (eval i X.env)
      standAt p
      holding [v, ov, iv] (setItem ov iv v)
      release [v, ov, iv] []) := by intro _; rfl)
    (h1 : swapsWithSole [.Subscript o i p] e pos.line X.env = pure false := by rfl) (h2 : swappedStores [.Subscript o i p] e X.env = pure none := by rfl)
    (h3 : (assignEach [.Subscript o i p] X.env).map (·.2) = [assign (.Subscript o i p) X.env] := by rfl) : YS X cm E (.Assign [.Subscript o i p] e pos) (sSetO C f (noX mo) (noX mi) (noX me)) := by
  refine psM (ps_asg he (pg_sub ho hi (set_Y F hr hb tk hq hs hf) ha) h1 h2 h3) fun D σ H q => ?_
  obtain ⟨ρ, h, sw, rh, rs, o⟩ := q
  obtain ⟨v, h1, e1, o⟩ := nxS o
  obtain ⟨x, h2, e2, o⟩ := nxS o
  obtain ⟨y, h3, e3, o⟩ := nxS o
  refine ⟨ρ, h, sw, v, h1, rh, rs, e1, fun ρ1 H1 v' l1 rh1 rv => ?_⟩
  refine ⟨ρ1, h1, sw, x, h2, rh1, rs.mono l1, e2, fun ρ2 H2 x' l2 rh2 rx => ?_⟩
  refine ⟨ρ2, h2, sw, y, h3, rh2, (rs.mono l1).mono l2, e3, fun ρ3 H3 y' l3 rh3 ry => ?_⟩
  have ll := l1.trans (l2.trans l3)
  have rx3 := rx.mono l3
  have rv3 := (rv.mono l2).mono l3
  split at o
  · rename_i q
    obtain ⟨p, ad, dx, fv, rfl, rfl, hp, ea⟩ := insB_of rh3 rx3 q
    refine ⟨ad, dx, fv, rfl, ea, ρ3, h3, _, rh3, .cons rx3 (.cons ry (.cons rv3 .nil)), ?_⟩
    cases ef : f [W.ref p, y, v] h3 with
    | no => rw [ef] at o; exact o
    | ex c w h' => rw [ef] at o; exact XOut.le ll o
    | ok w h' => rw [ef] at o; exact fun ρ4 H4 v4 l4 rh4 _ => o ρ4 H4 σ (ll.trans l4) rh4 (rs.mono (ll.trans l4))
  · exact o.elim
end
/-! ### the errors of the text -/
/-- what an error's __init__ does: its one field is set -/
def spErr (K : PySem.W.Frag) (f : Str) : Sp := fun vs H Q _ => ∃ (a C : Addr) (y : V), vs = [.ref a, y] ∧ OexG K C ∧ PySem.W.findIn K (.ref C) f = some none ∧ H a = some (exo a C none) ∧ ∀ dx, H dx = none → dx ≠ a → Q .non (upd (upd H dx (exd dx [(f, y)])) a (exo a C (some dx)))
section
variable {P : Program} {w : World} {K : PySem.W.Frag} {mg : Str → Option Value} {base : Heap}
theorem err_init {q n : Str} {st : Stmt} {fi : Addr} {fd : FuncData} {p1 p2 p3 p4 : Pos} (F : Fun K "__init__" q st fi fd) (S : FnScope ["self", n] ["self", n] (defScope st)) (hb : defBody st = [.Assign [.Attribute (.Name "self" p1) n p2] (.Name n p3) p4]) (hn : n ≠ "self") (hn2 : (n == ("__debug__" : Str)) = false) (hn3 : (n == ("__classdict__" : Str)) = false)
    (v1 : Vis (defScope st) "self") (v2 : Vis (defScope st) n) : FnOk P w K mg base CX0 1 fi fd ["self", n] (spErr K n) := by
  refine F.ok (N := ["self", n]) S (fun vs H Q E h => ?_) (fun cdv A outer s H vs Q E hr h => ?_)
  · obtain ⟨a, C, y, rfl, _⟩ := h
    rfl
  · obtain ⟨a, C, y, rfl, T, nf, ea, k⟩ := h
    rw [hb]
    refine ⟨_, pss_one (ps_os1 (pe_var (i := 0) rfl v1) (pe_var (i := 1) rfl v2 hn2 hn3) (by rfl)), ?_⟩
    exact ⟨y, rfl, .ref a, rfl, a, C, rfl, T, nf, ea, fun dx nd ne => k dx nd ne⟩
end
/-- an error class of the text -/
structure ErrK (P : Program) (w : World) (K : PySem.W.Frag) (mg : Str → Option Value) (base : Heap) (C : Addr) (x : Str) : Prop where
  T : OexG K C
  gl : mg x = some (.ref C)
  nf : PySem.W.findIn K (.ref C) (fieldOf x) = some none
  ini : ∃ fi fd, PySem.W.findIn K (.ref C) "__init__" = some (some (.ref fi)) ∧ PySem.W.typeIn K (.ref fi) = some (.type "function") ∧ FnOk P w K mg base CX0 1 fi fd ["self", fieldOf x] (spErr K (fieldOf x)) ∧ Binds K fd ["self", fieldOf x] []
def sRaise (x : Str) (mr : MA) : MS := fun sw => bnd (mr sw) fun ws h => match ws with
  | [v] => .ex x v h
  | _ => .no
section
variable {X : Cx} {cm : Cm} {E : XK} {e : Expr} {es : List Expr} {mr : MA} {pos pos' p : Pos} {x : Str}
theorem ys_raise (er : ErrK X.prog X.w X.K X.mg X.base (cm x) x) (tk : Tak X E) (hr : Room 2 X.A) (ha : RA X cm (e :: es) mr) (hc : X.calm = true := by rfl) (hg : Gl X x := by rfl) (hdb : (x == ("__debug__" : Str)) = false := by decide)
    (he : starEach (e :: es) X.env = (false, eval e X.env) :: starEach es X.env := by rfl) (hpl : (backTo pos' (starEach es X.env)).any (·.1) = false := by rfl) : YS X cm E (.Raise (some (.Call (.Name x p) (e :: es) [] pos')) none pos) (sRaise x (noX mr)) := by
  obtain ⟨fi, fd, i1, i2, i3, i4⟩ := er.ini
  refine psM (ps_raise hc tk (pmk_oxg er.T i1 i2 i3 hr i4 .nil pass0 hg er.gl ha hdb he hpl)) fun D σ H q => ?_
  obtain ⟨ρ, h, sw, rh, rs, o⟩ := q
  obtain ⟨ws, h1, e1, o⟩ := nxS o
  refine ⟨ρ, h, sw, ws, h1, rh, rs, e1, fun ρ1 H1 vs l1 rh1 rv => ?_⟩
  match ws, rv with
  | [], _ => exact o.elim
  | [v], .cons (v := v') rw' .nil =>
    refine ⟨by show 1 ≤ 1000; decide, fun a na => ⟨a, cm x, v', rfl, er.T, er.nf, upd_same, fun dx nd ne => ?_⟩⟩
    have n1 : H1 dx = none := by rw [upd_ne ne] at nd; exact nd
    refine ⟨rfl, dx, [(fieldOf x, v')], upd_same, by rw [upd_ne ne, upd_same], n1, ?_⟩
    have eh : upd (del (upd (upd (upd H1 a (exo a (cm x) none)) dx (exd dx [(fieldOf x, v')])) a (exo a (cm x) (some dx))) a) dx (.xd [(fieldOf x, v')]) = upd H1 dx (.xd [(fieldOf x, v')]) := by
      funext b
      by_cases hd : b = dx
      · subst hd
        rw [upd_same, upd_same]
      · rw [upd_ne hd, upd_ne hd]
        by_cases ha : b = a
        · subst ha
          rw [del_same, na]
        · rw [del_ne ha, upd_ne ha, upd_ne hd, upd_ne ha]
    rw [eh]
    exact o ρ1 _ dx v' (l1.trans (le_new n1)) (rh1.new n1) upd_same (rw'.mono (le_new n1))
  | _ :: _ :: _, _ => exact o.elim
end
end EL
set_option maxHeartbeats 2000000
/-! EL28: try with several named clauses. -/
namespace EL
open PySem PySem.Spec L2
open PyProof.Rows hiding St

abbrev HT := Addr → Value → Option Addr → TS
/-- the clause's name is gone behind it -/
def clr (i : Nat) (D : Ends) : Ends := ⟨fun σ H => D.nx (σ.set i none) H, D.rt, fun σ H => D.bk (σ.set i none) H, fun σ H => D.ct (σ.set i none) H⟩
def wN (K : PySem.W.Frag) (W : WX) (D : Ends) : List (Value × Nat × HT) → WX
  | [] => W
  | (c, i, t) :: r => fun cls d σ H => ∃ b, PySem.W.exmOne K cls c = some b ∧ (b = true → ∀ a, H a = none → t a cls d (clr i D) (σ.set i (some (.ref a))) H) ∧ (b = false → wN K W D r cls d σ H)
inductive HdN (X : Cx) : List ExceptHandler → List (Value × Nat × HT) → Prop
  | nil : HdN X [] []
  | cons {x n : Str} {c : Value} {i : Nat} {t : HT} {s0 : Stmt} {ss : List Stmt} {p1 p2 : Pos} {hs : List ExceptHandler} {l : List (Value × Nat × HT)} (nm : Names X x c) (nd : X.N.Nodup) (at_ : X.N[i]? = some n) (lc : X.env.kindOf n = some .local)
      (su : ∀ (a : Addr) (ob : Obj) (cls : Value) (d : Option Addr) (pn : List (Addr × Obj)), Zc cls d ob → (∃ fs, ob.data = .fields fs) → PSs (X.suite a ((a, ob) :: pn)) (s0 :: ss) (t a cls d)) (rest : HdN X hs l) :
      HdN X (.ExceptHandler (some (.Name x p1)) (some n) (s0 :: ss) p2 :: hs) ((c, i, t) :: l)
theorem ps_tryN {X : Cx} {body : List Stmt} {h0 : ExceptHandler} {hs : List ExceptHandler} {l : List (Value × Nat × HT)} {pos : Pos} {tb : WX → TS} {Wout : WX} (stk : X.stack = X.env :: X.outer) (fr : X.env.frame = some X.env.locals) (tk : Takes X Wout)
    (hb : ∀ (W : WX) (pn : List (Addr × Obj)) (xe : Value → Shared → Prop), Takes (X.tr pn xe) W → PassesOwn (model X.prog X.w) X.A X.env xe → PSs (X.tr pn xe) body (tb W)) (hh : HdN X (h0 :: hs) l) :
    PS X (.Try body (h0 :: hs) [] [] pos) (fun D σ H => tb (wN X.K Wout D l) D σ H) := by
  refine ⟨fun pins s σ H D I wish => wpAny_Try_except ?_⟩
  have okX := I.ok
  have frs0 : X.A.frames = some (X.env :: X.outer) := okX.frames.trans (congrArg some stk)
  have inner := (hb (wN X.K Wout D l) (X.pn ++ pins) (fun u s₁ => wpAny (model X.prog X.w) X.A (noteFrame u X.env) (fun _ s₂ => wpAny (model X.prog X.w) X.A (setFlight u none) (fun _ s₃ => wpAny (model X.prog X.w) X.A (handleBy u X.env (h0 :: hs)) (SP X pins D) X.xe s₃) X.xe s₂) X.xe s₁)
    (fun u s' caught => ?_) PassesOwn.looking).run [] s σ H D (I.toTry _) wish
  · refine wpAny_mono inner (fun f s1 z => ?_) fun _ _ z => z
    rcases f with _ | _ | _ | u
    · obtain ⟨σ1, H1, I1, q⟩ := z; exact wpAny_execs_nil ⟨σ1, H1, I1.ofTry okX, q⟩
    · obtain ⟨σ1, H1, I1, q⟩ := z; exact ⟨σ1, H1, I1.ofTry okX, q⟩
    · obtain ⟨σ1, H1, I1, q⟩ := z; exact ⟨σ1, H1, I1.ofTry okX, q⟩
    · obtain ⟨v, σ1, H1, I1, r, q⟩ := z; exact ⟨v, σ1, H1, I1.ofTry okX, r, q⟩
  obtain ⟨a, B, sI, pins1, σ1, H1, cls, d, rfl, It, nb, up, sky, na, os, ag, wish1⟩ := caught
  have I1 : Inv X pins σ1 H1 sI := It.ofTry okX
  show wpAny (model X.prog X.w) X.A (noteFrame (.ref a) X.env) _ _ _
  refine Sky.land Zc.steady frs0 fr (stk ▸ sky) fun g3 fly3 up3 => ?_
  have I3 : Inv X pins σ1 H1 { s' with heap := g3 } := I1.landed nb fly3.1 (up.trans up3) os ag
  obtain ⟨ob3, fs3, get3, z3, dat3⟩ := fly3.there
  have off : a ∉ frs (X.env :: X.outer) := fun hm => by
    obtain ⟨_, ob', get', nf⟩ := fly3.2.2.1.mem hm
    rw [get3] at get'
    cases get'
    exact nf _ dat3
  have offL : a ≠ X.env.locals := fun z => off (List.mem_filterMap.mpr ⟨X.env, List.mem_cons_self, by rw [fr, z]⟩)
  have offF : a ∉ X.fs := fun hm => by
    obtain ⟨en, hen, q⟩ := List.mem_filterMap.mp hm
    exact off (List.mem_filterMap.mpr ⟨en, List.mem_cons_of_mem _ hen, q⟩)
  have S3 := I3.suite get3 dat3 na offL offF
  have walk : ∀ {gs : List ExceptHandler} {k : List (Value × Nat × HT)}, HdN X gs k → wN X.K Wout D k cls d σ1 H1 → wpAny (model X.prog X.w) X.A (handleBy (.ref a) X.env gs) (SP X pins D) X.xe { s' with heap := g3 } := by
    intro gs k hk
    induction hk with
    | nil =>
      intro wish2
      refine wpAny_handleBy_nil ?_
      obtain ⟨_, _, _, ob, fs, T, oT, ts, get, _, dat, f1, _⟩ := id fly3
      unfold PySem.passOn
      refine wpAny_bind (wpAny_field get dat f1 ?_)
      rw [if_neg (by simp : ¬ ((Value.ref T == Value.none) = true))]
      have on : wpAny (model X.prog X.w) X.A (setFlight (.ref a) X.env.frame) (fun _ s4 => wpAny (model X.prog X.w) X.A (throw (.ref a) : Sem Flow) (SP X pins D) X.xe s4) X.xe { s' with heap := g3 } := by
        rw [fr]
        exact HandSPX.setFlight_upZ fly3 fun g4 held4 up4 => wpAny_throw (tk _ _ ⟨a, B, sI, pins, σ1, H1, cls, d, rfl, I1, nb, (up.trans up3).trans up4, .inr (.inr (stk ▸ held4)), na, os, ag, wish2⟩)
      first
        | exact wpAny_bind (wpAny_pure (wpAny_bind on))
        | exact wpAny_bind on
    | @cons x n c i t s0 ss p1 p2 gs2 k2 nm nd at_ lc su rest ih =>
      intro wish2
      obtain ⟨b, eb, yes, no⟩ := wish2
      refine wpAny_handleBy_cons (codeAny_handlers_test ?_) (fun z => nomatch z)
      have kind : PySem.W.Looks (model X.prog X.w) g3 (typeOf (.ref a)) cls := fun A' Q' E' s2 k2 q => wpAny_typeOf_ref (k2 _ _ get3) (z3.1.symm ▸ q)
      have meets := PySem.W.exm_one (M := model X.prog X.w) I3.kIn kind eb
      have names : ∀ {Q' : Value → Shared → Prop} {E' : Value → Shared → Prop}, Q' c { s' with heap := g3 } → wpAny (model X.prog X.w) (X.A.mark (some (.ref a))) (eval (.Name x p1) X.env) Q' E' { s' with heap := g3 } := fun {Q' E'} q => by
        obtain ⟨gl, dbg, own | ⟨free, built, nn⟩⟩ := nm
        · exact ld_glob (X := X.suite a ((a, ob3) :: (X.pn ++ pins))) S3 gl own q dbg
        · exact ld_blt (X := X.suite a ((a, ob3) :: (X.pn ++ pins))) S3 gl free built q nn dbg
      refine names (meets.here ?_)
      cases b with
      | false => exact ih (no rfl)
      | true =>
        refine codeAny_handlers_suite_as (HandSPX.lands_againZ fly3 fun g4 fly4 up4 => ?_)
        have I4 : Inv X pins σ1 H1 { s' with heap := g4 } := I1.landed nb fly4.1 ((up.trans up3).trans up4) os ag
        obtain ⟨ob4, fs4, get4, z4, dat4⟩ := fly4.there
        refine store_ok (X := X.suite a ((a, ob4) :: (X.pn ++ pins))) (v := .ref a) (I4.suite get4 dat4 na offL offF) nd at_ (.inl lc) rfl (fun s5 S5 => ?_) (.inr lc)
        refine wpAny_mono ((su a ob4 cls d (X.pn ++ pins) z4 ⟨_, dat4⟩).run [] s5 _ H1 _ S5 (yes rfl a na)) (fun f s6 z => ?_) fun _ _ z => z.elim
        have gone : ∀ {σ6 : St} {H6 : Hp} {Q' : Shared → Prop}, Inv (X.suite a ((a, ob4) :: (X.pn ++ pins))) [] σ6 H6 s6 → (∀ s7, Inv X pins (σ6.set i none) H6 s7 → Q' s7) → wpAny (model X.prog X.w) X.A (do bindName X.env n .none; unbindBehindTheSuite X.env n p2) (fun _ s7 => Q' s7) X.xe s6 := fun S6 q => gone_ok (S6.unsuite okX) nd at_ lc q
        rcases f with _ | _ | _ | u
        · obtain ⟨σ6, H6, S6, q6⟩ := z; exact gone S6 fun s7 I7 => ⟨_, _, I7, q6⟩
        · obtain ⟨σ6, H6, S6, q6⟩ := z; exact gone S6 fun s7 I7 => ⟨_, _, I7, q6⟩
        · obtain ⟨σ6, H6, S6, q6⟩ := z; exact gone S6 fun s7 I7 => ⟨_, _, I7, q6⟩
        · obtain ⟨v6, σ6, H6, S6, r6, q6⟩ := z; exact gone S6 fun s7 I7 => ⟨_, _, _, I7, r6, q6⟩
  exact walk hh wish1
end EL
set_option maxHeartbeats 2000000
/-! EL29: try, with clauses that name the exception and return something of what it holds. -/
namespace EL
open PySem PySem.Spec L2
open PyProof.Rows hiding St

abbrev HM := W → M W
def tH (K : PySem.W.Frag) (cm : Cm) (L i : Nat) (a : Addr) (c : Str) (dd : Addr) (m : HM) : TE := fun σ H Q => ∃ ρ h v v' w h', RelH K cm ρ h H ∧ H dd = some (.xd [(fieldOf c, v')]) ∧ Rel K ρ H v v' ∧ (σ.length = L → σ[i]? = some (some (.ref a))) ∧ m v h = .ok w h' ∧ KE K cm ρ H w h' Q
def tHA (K : PySem.W.Frag) (cm : Cm) (L i : Nat) (a : Addr) (c : Str) (dd : Addr) (m : W → M (List W)) : TA := fun σ H Q => ∃ ρ h v v' ws h', RelH K cm ρ h H ∧ H dd = some (.xd [(fieldOf c, v')]) ∧ Rel K ρ H v v' ∧ (σ.length = L → σ[i]? = some (some (.ref a))) ∧ m v h = .ok ws h' ∧ ∀ ρ' H' vs, Le K ρ H ρ' H' → RelH K cm ρ' h' H' → Rels K ρ' H' ws vs → Q vs H'
/-- the exception that the suite holds: of the class c, its dict at dd -/
def HExp (X : Cx) (cm : Cm) (c : Str) (P : Cx → Addr → Obj → Addr → Prop) : Prop := ∀ (a : Addr) (oe : Obj) (dd : Addr) (pn : List (Addr × Obj)), Zc (.ref (cm c)) (some dd) oe → (∃ vs, oe.data = .fields vs) → P (X.suite a ((a, oe) :: pn)) a oe dd
abbrev HE (X : Cx) (cm : Cm) (i : Nat) (c : Str) (e : Expr) (m : HM) : Prop := HExp X cm c fun X' a _ dd => PE X' e (tH X'.K cm X'.N.length i a c dd m)
abbrev HA (X : Cx) (cm : Cm) (i : Nat) (c : Str) (es : List Expr) (m : W → M (List W)) : Prop := HExp X cm c fun X' a _ dd => PA X' es (tHA X'.K cm X'.N.length i a c dd m)
theorem pe_varL {X : Cx} {i : Nat} {x : Str} {pos : Pos} (hN : X.N[i]? = some x) (hv : Vis X.env.scope x) (hd : (x == ("__debug__" : Str)) = false) (hcd : (x == ("__classdict__" : Str)) = false) :
    PE X (.Name x pos) (fun σ H Q => σ.length = X.N.length → ∃ v, σ[i]? = some (some v) ∧ Q v H) :=
  ⟨fun pins s σ H Q I q => (pe_var (i := i) hN hv hd hcd).run pins s σ H Q I (q I.len)⟩
section
variable {X : Cx} {cm : Cm} {i : Nat} {c n f x : Str} {e t : Expr} {es : List Expr} {ma : ME} {m : HM} {mr : W → M (List W)} {m0 : M W} {pos p p1 p2 : Pos}
theorem he_of (r : ∀ (a : Addr) (pn : List (Addr × Obj)), RE (X.suite a pn) cm e ma) (hm : ∀ n, ma (List.replicate n none) = m0) : HE X cm i c e (fun _ => m0) := fun a oe dd pn _ _ =>
  peM (r a ((a, oe) :: pn)) fun σ H Q q => by
    obtain ⟨ρ, h, v, v', w, h', rh, ex, rv, es, e, k⟩ := q
    exact ⟨ρ, h, List.replicate σ.length none, w, h', rh, ⟨List.length_replicate, fun j w' z => by simp [List.getElem?_replicate] at z⟩, by rw [hm]; exact e, k⟩
theorem he_fld (T : XfC X.K (cm c)) (hno : PySem.W.findIn X.K (.ref (cm c)) f = some none) (hf : fieldOf c = f := by rfl) (hN : X.N[i]? = some n := by rfl) (hv : Vis X.env.scope n := by first | exact Or.inl rfl | exact Or.inr (Or.inl rfl) | exact Or.inr (Or.inr rfl))
    (hd : (n == ("__debug__" : Str)) = false := by decide) (hcd : (n == ("__classdict__" : Str)) = false := by decide) (hb : attributeBase (.Name n p1) f X.env (eval (.Name n p1) X.env) = eval (.Name n p1) X.env := by rfl) :
    HE X cm i c (.Attribute (.Name n p1) f pos) (fun v => rtn v) := fun a oe dd pn hz hfs =>
  peM (pe_xf T hno hz hfs (pe_varL (X := X.suite a ((a, oe) :: pn)) (i := i) hN hv hd hcd) hb) fun σ H Q q => by
    obtain ⟨ρ, h, v, v', w, h', rh, ex, rv, es, e, k⟩ := q
    cases e
    intro hl
    refine ⟨.ref a, es hl, rfl, rfl, dd, _, v', rfl, ex, ?_, k ρ H v' .refl rh rv⟩
    rw [hf]
    simp
def rIsEd (K : PySem.W.Frag) (D a dd : Addr) : List V → Hp → VK → Prop := fun xs H Q => ∃ (c : V) (cv : Value) (b : Bool) (fs : List (Str × V)), xs = [.ref a, c] ∧ (∀ u, RelV c u → u = cv) ∧ PySem.W.kitOne K (.ref D) cv = some b ∧ H dd = some (.xd fs) ∧ Q (.bl b) H
theorem call_isEd {a D dd : Addr} {oe : Obj} {pn : List (Addr × Obj)} (C : ExcC X.K D) (hz : Zc (.ref D) (some dd) oe) (hf : ∃ vs, oe.data = .fields vs) : CallR (X.suite a ((a, oe) :: pn)) (.builtin "isinstance") (rIsEd X.K D a dd) := by
  intro pins s σ H xs us Q I r h
  obtain ⟨c, cv, b, fs, rfl, hcv, e, ea, q⟩ := h
  cases r with
  | cons rx rr =>
    cases rr with
    | cons rt rr =>
      cases rr
      cases rx
      have ec := hcv _ rt
      subst ec
      obtain ⟨hget, _⟩ := I.pin (a, oe) (List.mem_append.mpr (.inl List.mem_cons_self))
      obtain ⟨vs, hd⟩ := hf
      have hx : ObjOk X.prog X.w H s.heap dd (.xd fs) := I.hok dd _ ea
      obtain ⟨mA, hns, hr⟩ := hx
      obtain ⟨od, ho, hl⟩ := lookIn_ns hns
      have J : PySem.W.InstAt s.heap a oe D (some od) := ⟨hget, hz.1, by unfold PySem.W.notCls; rw [hd] <;> rfl, by rw [hz.2]; exact ho⟩
      have hcl : (PySem.W.clsIn X.K D).isSome = true := by
        obtain ⟨cdD, hcD, _⟩ := PySem.W.any_some C.hd
        rw [hcD] <;> rfl
      exact PySem.W.kia_one (PySem.W.kitx_exc hcl C.hg C.hk C.hs C.ha C.hn C.ht C.hm) I.kIn J e (fun z => nomatch z) fun tk => ⟨.bl b, H, I.kept (t' := tk) fun _ _ z => z, rfl, q⟩
theorem he_isi {tv : V} {cv : Value} {b : Bool} (C : ExcC X.K (cm c)) (hm : X.mg "isinstance" = none) (ht : ∀ (a : Addr) (pn : List (Addr × Obj)), PE (X.suite a pn) t (tC tv)) (hcv : ∀ u, RelV tv u → u = cv) (hk : PySem.W.kitOne X.K (.ref (cm c)) cv = some b) (hN : X.N[i]? = some n := by rfl) (hv : Vis X.env.scope n := by first | exact Or.inl rfl | exact Or.inr (Or.inl rfl) | exact Or.inr (Or.inr rfl))
    (hd : (n == ("__debug__" : Str)) = false := by decide) (hcd : (n == ("__classdict__" : Str)) = false := by decide) (hg : Gl X "isinstance" := by rfl)
    (hs1 : starEach (.Name n p1 :: [t]) X.env = (false, eval (.Name n p1) X.env) :: starEach [t] X.env := by rfl) (hs2 : starEach (t :: []) X.env = (false, eval t X.env) :: starEach [] X.env := by rfl) (hpl : (backTo pos (starEach [t] X.env)).any (·.1) = false := by rfl) :
    HE X cm i c (.Call (.Name "isinstance" p) [.Name n p1, t] [] pos) (fun _ => rtn (.bl b)) := fun a oe dd pn hz hfs =>
  peM (pe_callB (call_isEd C hz hfs) hg hm (by decide +kernel) (pa_cons (pe_varL (X := X.suite a ((a, oe) :: pn)) (i := i) hN hv hd hcd) (pa_cons (ht a _) pa_nil hs2) hs1) (by decide) (by decide) hs1 hpl) fun σ H Q q => by
    obtain ⟨ρ, h, v, v', w, h', rh, ex, rv, es, e, k⟩ := q
    cases e
    intro hl
    exact ⟨.ref a, es hl, tv, cv, b, _, rfl, hcv, hk, ex, k ρ H _ .refl rh (.bl b)⟩
theorem ha_nil : HA X cm i c [] (fun _ => rtn []) := fun a oe dd pn _ _ => paM pa_nil fun σ H Q q => by
  obtain ⟨ρ, h, v, v', w, h', rh, ex, rv, es, e, k⟩ := q
  cases e
  exact k ρ H [] .refl rh .nil
theorem ha_cons (he : HE X cm i c e m) (ha : HA X cm i c es mr) (hs : starEach (e :: es) X.env = (false, eval e X.env) :: starEach es X.env := by rfl) : HA X cm i c (e :: es) (fun v => bnd (m v) fun y => bnd (mr v) fun ys => rtn (y :: ys)) := fun a oe dd pn hz hf =>
  paM (pa_cons (he a oe dd pn hz hf) (ha a oe dd pn hz hf) hs) fun σ H Q q => by
    obtain ⟨ρ, h, v, v', w, h', rh, ex, rv, es, e, k⟩ := q
    obtain ⟨y, h1, e1, e2⟩ := bnd_ok e
    obtain ⟨ys, h2, e3, e4⟩ := bnd_ok e2
    cases e4
    exact ⟨ρ, h, v, v', y, h1, rh, ex, rv, es, e1, fun ρ1 H1 x' l1 rh1 rx => ⟨ρ1, h1, v, v', ys, h', rh1, l1.xd _ _ ex, rv.mono l1, es, e3, fun ρ2 H2 y' l2 rh2 ry => k ρ2 H2 _ (l1.trans l2) rh2 (.cons (rx.mono l2) ry)⟩⟩
def hLst (mr : W → M (List W)) : HM := fun v => bnd (mr v) fun ws h => if ws.length ≤ lim then .ok (.ref h.length) (h ++ [.lst ws]) else .no
theorem he_lst (ha : HA X cm i c es mr) : HE X cm i c (.List es pos) (hLst mr) := fun a oe dd pn hz hf =>
  peM (pe_lst (ha a oe dd pn hz hf)) fun σ H Q q => by
    obtain ⟨ρ, h, v, v', w, h', rh, ex, rv, es, e, k⟩ := q
    obtain ⟨x, h1, e1, e2⟩ := bnd_ok e
    refine ⟨ρ, h, v, v', x, h1, rh, ex, rv, es, e1, fun ρ1 H1 x' l1 rh1 rx => ?_⟩
    split at e2
    · cases e2
      exact ⟨by rw [← rx.length, ← lim_eq]; assumption, fun p hp => new_lst rh1 rx hp fun ρ2 H2 v l2 => k ρ2 H2 v (l1.trans l2)⟩
    · cases e2
theorem he_callB {id : String} {r : List V → Hp → VK → Prop} {g : List W → M W} (hc : ∀ (a : Addr) (pn : List (Addr × Obj)), CallR (X.suite a pn) (.builtin id) r) (cw : CallW X.K cm r g) (hm : X.mg x = none) (ha : HA X cm i c (e :: es) mr) (hv : bootBuiltins x = some (.builtin id) := by decide +kernel) (hg : Gl X x := by rfl) (hn : x ≠ "__name__" := by decide) (hdb : (x == ("__debug__" : Str)) = false := by decide)
    (he : starEach (e :: es) X.env = (false, eval e X.env) :: starEach es X.env := by rfl) (hpl : (backTo pos (starEach es X.env)).any (·.1) = false := by rfl) : HE X cm i c (.Call (.Name x p) (e :: es) [] pos) (fun v => bnd (mr v) g) := fun a oe dd pn hz hf =>
  peM (pe_callB (hc a _) hg hm hv (ha a oe dd pn hz hf) hn hdb he hpl) fun σ H Q q => by
    obtain ⟨ρ, h, v, v', w, h', rh, ex, rv, es, e, k⟩ := q
    obtain ⟨ws, h1, e1, e2⟩ := bnd_ok e
    exact ⟨ρ, h, v, v', ws, h1, rh, ex, rv, es, e1, fun ρ1 H1 vs l1 rh1 rx => cw ρ1 h1 H1 ws vs w h' Q rh1 rx e2 fun ρ2 H2 v l2 => k ρ2 H2 v (l1.trans l2)⟩
end
/-! ### the clauses -/
abbrev HL := List (Str × List Str × HM)
def goH : HL → Str → W → M Fl
  | [], c, v => fun h => .ex c v h
  | (c0, no, m) :: r, c, v => fun h => if (c == c0) = true then (match m v h with
    | .ok w h' => .ok (.rt w) h'
    | _ => .no) else if no.contains c = true then goH r c v h else .no
def sTryY (b : MS) (l : HL) : MS := fun sw h => match b sw h with
  | .ok f h' => .ok f h'
  | .ex c v h' => goH l c v h'
  | .no => .no
def tHS (K : PySem.W.Frag) (cm : Cm) (L i : Nat) (c : Str) (m : HM) : HT := fun a cls d D σ H => ∃ dd, cls = .ref (cm c) ∧ d = some dd ∧ tH K cm L i a c dd m σ H D.rt
inductive HdY (X : Cx) (cm : Cm) : List ExceptHandler → HL → List (Value × Nat × HT) → Prop
  | nil : HdY X cm [] [] []
  | cons {x n c : Str} {no : List Str} {m : HM} {cv : Value} {i : Nat} {e : Expr} {p1 p2 p3 : Pos} {hs : List ExceptHandler} {l : HL} {lw : List (Value × Nat × HT)} (nm : Names X x cv) (yes : PySem.W.exmOne X.K (.ref (cm c)) cv = some true) (nos : ∀ q ∈ no, PySem.W.exmOne X.K (.ref (cm q)) cv = some false)
      (nd : X.N.Nodup) (at_ : X.N[i]? = some n) (lc : X.env.kindOf n = some .local) (he : HE X cm i c e m) (rest : HdY X cm hs l lw) :
      HdY X cm (.ExceptHandler (some (.Name x p1)) (some n) [.Return (some e) p3] p2 :: hs) ((c, no, m) :: l) ((cv, i, tHS X.K cm X.N.length i c m) :: lw)
section
variable {X : Cx} {cm : Cm} {E : XK} {hs : List ExceptHandler} {l : HL} {lw : List (Value × Nat × HT)}
theorem HdY.hdN (k : HdY X cm hs l lw) : HdN X hs lw := by
  induction k with
  | nil => exact .nil
  | cons nm yes nos nd at_ lc he rest ih =>
    refine .cons nm nd at_ lc (fun a ob cls d pn hz hf => ?_) ih
    refine pss_one ⟨fun pins s σ H D I q => ?_⟩
    obtain ⟨dd, rfl, rfl, q⟩ := q
    exact (ps_ret (he a ob dd pn hz hf)).run pins s σ H D I q
theorem HdY.go (k : HdY X cm hs l lw) {D : Ends} {ρ : List Addr} {h : Hw} {H : Hp} {c : Str} {v : W} {v' : V} {dd : Addr} {σ : St} (rh : RelH X.K cm ρ h H) (ex : H dd = some (.xd [(fieldOf c, v')])) (rv : Rel X.K ρ H v v') :
    OutS X.K cm E ρ H (goH l c v h) D → wN X.K (fun cls d _ H => E cls d H) D lw (.ref (cm c)) (some dd) σ H := by
  induction k with
  | nil => exact fun o => o ρ H dd v' .refl rh ex rv
  | @cons x n c0 no m cv i e p1 p2 p3 hs l lw nm yes nos nd at_ lc he rest ih =>
    intro o
    unfold goH at o
    by_cases h1 : (c == c0) = true
    · rw [if_pos h1] at o
      have e1 : c = c0 := by simpa using h1
      subst e1
      refine ⟨true, yes, fun _ a na => ?_, (fun z => by cases z)⟩
      refine ⟨dd, rfl, rfl, ρ, h, v, v', ?_⟩
      cases em : m v h with
      | no => rw [em] at o; exact o.elim
      | ex c v h' => rw [em] at o; exact o.elim
      | ok w h' =>
        rw [em] at o
        refine ⟨w, h', rh, ex, rv, fun hl => ?_, rfl, o⟩
        rw [List.getElem?_set, if_pos rfl, if_pos]
        have := (List.getElem?_eq_some_iff.mp at_).1
        rw [List.length_set] at hl
        omega
    · rw [if_neg h1] at o
      split at o
      · rename_i h2
        exact ⟨false, nos c (by simpa using h2), (fun z => by cases z), fun _ => ih o⟩
      · exact o.elim
theorem ys_try {body : List Stmt} {h0 : ExceptHandler} {m : MS} {pos : Pos} (stk : X.stack = X.env :: X.outer := by rfl) (fr : X.env.frame = some X.env.locals := by rfl) (tk : Tak X E)
    (hb : ∀ (E' : XK) (pn : List (Addr × Obj)) (xe : Value → Shared → Prop), Tak (X.tr pn xe) E' → PassesOwn (model X.prog X.w) X.A X.env xe → YSs (X.tr pn xe) cm E' body m) (hh : HdY X cm (h0 :: hs) l lw) :
    YS X cm E (.Try body (h0 :: hs) [] [] pos) (sTryY m l) := by
  refine psM (ps_tryN (Wout := fun cls d _ H => E cls d H) (tb := fun W => yS X.K cm (fun cls d H => ∀ σ, W cls d σ H) m) stk fr tk (fun W pn xe tw po => hb _ pn xe (tw.imp fun c d σ H q => q σ) po) hh.hdN) fun D σ H q => ?_
  obtain ⟨ρ, h, sw, rh, rs, o⟩ := q
  refine ⟨ρ, h, sw, rh, rs, ?_⟩
  unfold sTryY at o
  cases e1 : m sw h with
  | no => rw [e1] at o; exact o
  | ok f h' => rw [e1] at o; exact o
  | ex c v h' =>
    rw [e1] at o
    exact fun ρ' H' d v' ll rh' ex rv σ' => hh.go rh' ex rv (OutS.le ll o)
end
end EL
set_option maxHeartbeats 2000000
/-! EL30: sets of texts, isinstance of one of two, any, extend, stars in displays, displays of dicts, lists times ints. -/
namespace EL
open PySem PySem.Spec L2
open PyProof.Rows hiding St

/-! ### sets of texts -/
def bSet0 : ME := fun _ => alloc (.st [])
def stOf (h : Hw) (x : W) : Option (Nat × List Str) := match x with
  | .ref p => match h[p]? with
    | some (.st ks) => some (p, ks)
    | _ => none
  | _ => none
def fInS (neg : Bool) (x y : W) : M W := fun h => match x, stOf h y with
  | .str s, some (_, ks) => .ok (.bl (neg != ks.contains s)) h
  | _, _ => .no
def mSAdd (mo me : ME) : ME := fun sw => bnd (mo sw) fun x h0 => match stOf h0 x with
  | some _ => bnd (me sw) (fun y h => match y, stOf h x with
    | .str s, some (p, ks) => if ks.length + 2 < 4096 then .ok .non (h.set p (.st (s :: ks))) else .no
    | _, _ => .no) h0
  | none => .no
theorem stOf_of {K : PySem.W.Frag} {cm : Cm} {ρ : List Addr} {h : Hw} {H : Hp} {x : W} {v : V} {p : Nat} {ks : List Str} (rh : RelH K cm ρ h H) (r : Rel K ρ H x v) (e : stOf h x = some (p, ks)) :
    x = .ref p ∧ h[p]? = some (.st ks) ∧ ∃ a n, v = .ref a ∧ ρ[p]? = some a ∧ n ≤ ks.length ∧ H a = some (SetK cm.P cm.w a (inSt ks) n) := by
  unfold stOf at e
  split at e
  · rename_i q
    split at e
    · rename_i ks' hk
      cases e
      cases r with
      | ref hp =>
        obtain ⟨n, ln, ea⟩ := rh.obj _ _ _ hk hp
        exact ⟨rfl, hk, _, n, rfl, hp, ln, ea⟩
    · cases e
  · cases e
theorem inSt_cons (s : Str) (ks : List Str) : (fun j : Key => inSt ks j || decide (j = .inr s)) = inSt (s :: ks) := by
  funext j
  cases j with
  | inl i => simp [inSt]
  | inr x =>
    by_cases h : x = s
    · subst h; simp [inSt]
    · have hn : ¬ (Sum.inr x : Key) = .inr s := fun z => h (by cases z; rfl)
      simp [inSt, hn, h]
section
variable {X : Cx} {cm : Cm} {a b e : Expr} {ma mb me : ME} {pos apos cpos p : Pos} {x : Str}
theorem re_set0 (eP : cm.P = X.prog) (eW : cm.w = X.w) (hm : X.mg "set" = none) (hg : Gl X "set" := by rfl) : RE X cm (.Call (.Name "set" p) [] [] pos) bSet0 := by
  obtain ⟨cf, cP, cw⟩ := cm
  dsimp only at eP eW
  subst eP eW
  refine peM (pe_callTy0 cr_set0K hg hm (by decide +kernel) (by decide) (by decide)) fun σ H Q q => ?_
  obtain ⟨ρ, h, sw, w, h', rh, rs, e, k⟩ := q
  cases e
  refine ⟨rfl, fun p hp => ?_⟩
  have l := (le_new (K := X.K) (ρ := ρ) (o := SetK X.prog X.w p (fun _ => false) 0) hp).trans (le_app p)
  refine k (ρ ++ [p]) _ _ l (rh.push hp ⟨0, Nat.le_refl _, ?_⟩) (.ref (push_at rh))
  rw [upd_same]
  congr 2
  funext j
  cases j <;> simp [inSt]
theorem wInS (eP : cm.P = X.prog) (eW : cm.w = X.w) (neg : Bool) : OpW X.K cm (rSInK X.prog X.w neg) (fInS neg) := by
  intro ρ h H x y x' y' z h' Q rh rx ry e k
  obtain ⟨cf, cP, cw⟩ := cm
  dsimp only at eP eW
  subst eP eW
  unfold fInS at e
  split at e
  · rename_i s p ks hs
    cases e
    obtain ⟨_, _, a, n, rfl, _, _, ea⟩ := stOf_of rh ry hs
    cases rx
    refine ⟨.inr s, a, _, n, rfl, rfl, ea, ?_⟩
    have : (if neg = true then !inSt ks (.inr s) else inSt ks (.inr s)) = (neg != ks.contains s) := by
      cases neg <;> simp [inSt]
    rw [this]
    exact k.at rh (.bl _)
  · cases e
theorem re_sadd (eP : cm.P = X.prog) (eW : cm.w = X.w) (ho : RE X cm a ma) (he : RE X cm e me)
    (hbase : attributeBase a "add" X.env (eval a X.env) = eval a X.env := by rfl)
    (hfew : ((backTo cpos (starEach [e] X.env)).all (fun x => !x.1) && (backToKw cpos (keywordEach [] X.env)).all (fun x => x.1.isSome)
      && decide (([e] : List Expr).length + ([] : List Keyword).length + (if ([] : List Keyword).isEmpty then 0 else 1) < 30)) = true := by rfl)
    (hline : (apos.endLine == cpos.line) = true := by rfl) (hs : starEach [e] X.env = (false, eval e X.env) :: starEach [] X.env := by rfl) (hplain : (backTo cpos (starEach [] X.env)).any (·.1) = false := by rfl) :
    RE X cm (.Call (.Attribute a "add" apos) [e] [] cpos) (mSAdd ma me) := by
  obtain ⟨cf, cP, cw⟩ := cm
  dsimp only at eP eW
  subst eP eW
  refine peM (pe_saddK ho (pa_cons he pa_nil hs) hbase hfew hline hs hplain) fun σ H Q q => ?_
  obtain ⟨ρ, h, sw, w, h', rh, rs, e, k⟩ := q
  obtain ⟨x, h1, e1, e2⟩ := bnd_ok e
  refine ⟨ρ, h, sw, x, h1, rh, rs, e1, fun ρ1 H1 x' l1 rh1 rx => ?_⟩
  split at e2
  · rename_i q hq
    obtain ⟨q1, q2⟩ := q
    obtain ⟨ex, _, a0, n, rfl, hp0, _, ea⟩ := stOf_of rh1 rx hq
    obtain ⟨y, h2, e3, e4⟩ := bnd_ok e2
    refine ⟨⟨a0, _, n, rfl, ea⟩, ρ1, h1, sw, y, h2, rh1, rs.mono l1, e3, fun ρ2 H2 y' l2 rh2 ry => ?_⟩
    split at e4
    · rename_i s p2 ks hs2
      split at e4
      · rename_i hlt
        cases e4
        obtain ⟨ex2, hk2, a2, n2, ev2, hp2, ln2, ea2⟩ := stOf_of rh2 (rx.mono l2) hs2
        cases ev2
        cases ry
        refine ⟨a0, .inr s, _, n2, rfl, rfl, ea2, by show n2 + 1 < 4096; omega, ?_⟩
        rw [inSt_cons]
        have lu : Le X.K ρ2 H2 ρ2 (upd H2 a0 (SetK X.prog X.w a0 (inSt (s :: ks)) (if inSt ks (.inr s) = true then n2 else n2 + 1))) := le_mut ea2 trivial
        refine k ρ2 _ .non (l1.trans (l2.trans lu)) (rh2.set hp2 ea2 trivial ⟨_, ?_, upd_same⟩) .non
        rw [List.length_cons]
        split <;> omega
      · cases e4
    · cases e4
  · cases e2

/-! ### isinstance(x, (S, T)) -/
def mIsi2 (S T : String) (a : ME) : ME := fun sw => bnd (a sw) fun x h => match tyName h x with
  | some n => match kitB n S, kitB n T with
    | some b, some c => .ok (.bl (b || c)) h
    | _, _ => .no
  | none => .no
theorem re_isi2 {S T : String} {y : Str} {p2 p3 tp : Pos} {x1} (hm : X.mg "isinstance" = none) (hS : X.mg x = none) (hT : X.mg y = none) (ha : RE X cm a ma) (hv : bootBuiltins x = some (.type S) := by decide +kernel) (hv2 : bootBuiltins y = some (.type T) := by decide +kernel) (hg : Gl X "isinstance" := by rfl) (hg2 : Gl X x := by rfl) (hg3 : Gl X y := by rfl)
    (hn : x ≠ "__name__" := by decide) (hd : (x == ("__debug__" : Str)) = false := by decide) (hn2 : y ≠ "__name__" := by decide) (hd2 : (y == ("__debug__" : Str)) = false := by decide)
    (hs1 : starEach (a :: [.Tuple [.Name x p2, .Name y p3] x1 tp]) X.env = (false, eval a X.env) :: starEach [.Tuple [.Name x p2, .Name y p3] x1 tp] X.env := by rfl)
    (hs2 : starEach (.Tuple [.Name x p2, .Name y p3] x1 tp :: []) X.env = (false, eval (.Tuple [.Name x p2, .Name y p3] x1 tp) X.env) :: starEach [] X.env := by rfl)
    (hs3 : starEach (.Name x p2 :: [.Name y p3]) X.env = (false, eval (.Name x p2) X.env) :: starEach [.Name y p3] X.env := by rfl) (hs4 : starEach (.Name y p3 :: []) X.env = (false, eval (.Name y p3) X.env) :: starEach [] X.env := by rfl)
    (hpl : (backTo pos (starEach [.Tuple [.Name x p2, .Name y p3] x1 tp] X.env)).any (·.1) = false := by rfl) :
    RE X cm (.Call (.Name "isinstance" p) [a, .Tuple [.Name x p2, .Name y p3] x1 tp] [] pos) (mIsi2 S T ma) := by
  refine peM (pe_callB call_isiT hg hm (by decide +kernel) (pa_cons ha (pa_cons (pe_tup (pa_cons (pe_bltn (v := .ty S) hg2 hS hv rfl hn hd) (pa_cons (pe_bltn (v := .ty T) hg3 hT hv2 rfl hn2 hd2) pa_nil hs4) hs3)) pa_nil hs2) hs1) (by decide) (by decide) hs1 hpl) fun σ H Q q => ?_
  obtain ⟨ρ, h, sw, w, h', rh, rs, e, k⟩ := q
  obtain ⟨y', h1, e1, e2⟩ := bnd_ok e
  refine ⟨ρ, h, sw, y', h1, rh, rs, e1, fun ρ1 H1 v l1 rh1 rx => ?_⟩
  refine ⟨by show 2 ≤ sizeLine; rw [sizeLine_eq]; omega, fun tq hq => ?_⟩
  have l2 : Le X.K ρ1 H1 ρ1 (upd H1 tq (.tup [.ty S, .ty T])) := le_new hq
  split at e2
  · rename_i n hn'
    split at e2
    · rename_i bb cc hb hc
      cases e2
      refine ⟨v, tq, [.ty S, .ty T], .type n, [.type S, .type T], bb || cc, rfl, upd_same, .cons (.ty S) (.cons (.ty T) .nil), tyX_of (rh1.new hq) (rx.mono l2) hn', ?_, k ρ1 _ _ (l1.trans l2) (rh1.new hq) (.bl _)⟩
      refine kitAny_cons (kit_ty hb) (fun hz => ?_) (fun hz => by rw [hz, Bool.true_or])
      rw [hz, Bool.false_or]
      exact kitAny_cons (kit_ty hc) (fun h2 => by rw [h2]; rfl) (fun h2 => h2)
    · cases e2
  · cases e2

/-! ### any -/
def bAny : List W → M W
  | [x] => fun h => match items h x with
    | some xs => (match wBls xs with
      | some ns => .ok (.bl (ns.any id)) h
      | none => .no)
    | none => .no
  | _ => bad
theorem wAny : CallW X.K cm (rAny X.K) bAny := by
  intro ρ h H ws vs z h' Q rh r e k
  cases ws with
  | nil => cases e
  | cons x t =>
    cases t with
    | cons _ _ => cases e
    | nil =>
      obtain ⟨v, rfl, rx⟩ := one_of r
      have e' : (match items h x with
        | some xs => (match wBls xs with
          | some ns => EL.R.ok (W.bl (ns.any id)) h
          | none => EL.R.no)
        | none => EL.R.no) = .ok z h' := e
      split at e'
      · rename_i xs hi
        split at e'
        · rename_i ns hn
          cases e'
          obtain ⟨a, us, rfl, hq, rl⟩ := items_of rh rx hi
          have q := wBls_of hn
          subst q
          rw [Rels.of_bls rl] at hq
          exact ⟨a, ns, rfl, hq, k.at rh (.bl _)⟩
        · cases e'
      · cases e'

/-! ### xs.extend(ys), both made here -/
def lsOf (h : Hw) (x : W) : Option (Nat × List W) := match x with
  | .ref p => match h[p]? with
    | some (.lst ks) => some (p, ks)
    | _ => none
  | _ => none
theorem lsOf_of {K : PySem.W.Frag} {cm : Cm} {ρ : List Addr} {h : Hw} {H : Hp} {x : W} {v : V} {p : Nat} {ks : List W} (rh : RelH K cm ρ h H) (r : Rel K ρ H x v) (e : lsOf h x = some (p, ks)) :
    x = .ref p ∧ h[p]? = some (.lst ks) ∧ ∃ a vs, v = .ref a ∧ ρ[p]? = some a ∧ H a = some (.lst vs) ∧ Rels K ρ H ks vs := by
  unfold lsOf at e
  split at e
  · rename_i q
    split at e
    · rename_i ks' hk
      cases e
      cases r with
      | ref hp =>
        obtain ⟨vs, ea, rl⟩ := rh.lst hp hk
        exact ⟨rfl, hk, _, vs, rfl, hp, ea, rl⟩
    · cases e
  · cases e
def mExt (mo me : ME) : ME := fun sw => bnd (mo sw) fun x h0 => match lsOf h0 x with
  | some _ => bnd (me sw) (fun y h => match lsOf h x, lsOf h y with
    | some (p, xs), some (_, ys) => if xs.length + ys.length ≤ lim then .ok .non (h.set p (.lst (xs ++ ys))) else .no
    | _, _ => .no) h0
  | none => .no
theorem re_extend (ho : RE X cm a ma) (he : RE X cm e me)
    (hbase : attributeBase a "extend" X.env (eval a X.env) = eval a X.env := by rfl)
    (hfew : ((backTo cpos (starEach [e] X.env)).all (fun x => !x.1) && (backToKw cpos (keywordEach [] X.env)).all (fun x => x.1.isSome)
      && decide (([e] : List Expr).length + ([] : List Keyword).length + (if ([] : List Keyword).isEmpty then 0 else 1) < 30)) = true := by rfl)
    (hline : (apos.endLine == cpos.line) = true := by rfl) (hs : starEach [e] X.env = (false, eval e X.env) :: starEach [] X.env := by rfl) (hplain : (backTo cpos (starEach [] X.env)).any (·.1) = false := by rfl) :
    RE X cm (.Call (.Attribute a "extend" apos) [e] [] cpos) (mExt ma me) := by
  refine peM (pe_bm PySem.F.plainAttrs_list PySem.F.slot_list_extend PySem.F.type_list_extend mt_extend ho (pa_cons he pa_nil hs) hbase hfew hline hs hplain) fun σ H Q q => ?_
  obtain ⟨ρ, h, sw, w, h', rh, rs, e, k⟩ := q
  obtain ⟨x, h1, e1, e2⟩ := bnd_ok e
  refine ⟨ρ, h, sw, x, h1, rh, rs, e1, fun ρ1 H1 x' l1 rh1 rx => ?_⟩
  split at e2
  · rename_i q hq
    obtain ⟨q1, q2⟩ := q
    obtain ⟨ex, _, a0, vs0, rfl, _, ea0, _⟩ := lsOf_of rh1 rx hq
    obtain ⟨y, h2, e3, e4⟩ := bnd_ok e2
    refine ⟨.inl ⟨rfl, vs0, .of ea0⟩, ρ1, h1, sw, y, h2, rh1, rs.mono l1, e3, fun ρ2 H2 y' l2 rh2 ry => ?_⟩
    split at e4
    · rename_i p2 xs _ ys hx2 hy2
      split at e4
      · rename_i hlt
        cases e4
        obtain ⟨_, _, a2, vs2, ev2, hp2, ea2, rl2⟩ := lsOf_of rh2 (rx.mono l2) hx2
        cases ev2
        obtain ⟨_, _, b2, us2, rfl, _, eb2, rl3⟩ := lsOf_of rh2 ry hy2
        have lu : Le X.K ρ2 H2 ρ2 (upd H2 a0 (.lst (vs2 ++ us2))) := le_mut ea2 trivial
        exact ⟨a0, b2, vs2, us2, rfl, rfl, ea2, eb2, by rw [← rl2.length, ← rl3.length, ← lim_eq]; exact hlt, k ρ2 _ .non (l1.trans (l2.trans lu)) (rh2.set hp2 ea2 trivial ⟨_, upd_same, (rl2.append rl3).mono lu⟩) .non⟩
      · cases e4
    · cases e4
  · cases e2

/-! ### stars in displays -/
def itemsT (h : Hw) (x : W) : Option (List W) := match items h x with
  | some xs => some xs
  | none => tupOf x
theorem itemsT_of {K : PySem.W.Frag} {cm : Cm} {ρ : List Addr} {h : Hw} {H : Hp} {x : W} {v : V} {xs : List W} (rh : RelH K cm ρ h H) (r : Rel K ρ H x v) (e : itemsT h x = some xs) :
    ∃ a vs, v = .ref a ∧ (SqT K H a vs ∨ SqL K H a vs) ∧ Rels K ρ H xs vs := by
  unfold itemsT at e
  split at e
  · rename_i ys hi
    cases e
    obtain ⟨a, us, rfl, hq, rl⟩ := items_of rh r hi
    exact ⟨a, us, rfl, .inr hq, rl⟩
  · obtain ⟨a, us, rfl, hq, rl⟩ := tupOf_of r e
    exact ⟨a, us, rfl, .inl hq, rl⟩
def aStar (a : ME) (r : MA) : MA := fun sw => bnd (a sw) fun x h => match itemsT h x with
  | some xs => bnd (r sw) (fun ys => rtn (xs ++ ys)) h
  | none => .no
theorem ra_star {es : List Expr} {mr : MA} {sp : Pos} (ha : RE X cm a ma) (hr : RA X cm es mr) (hs : starEach (.Starred a sp :: es) X.env = (true, eval a X.env) :: starEach es X.env := by rfl) : RA X cm (.Starred a sp :: es) (aStar ma mr) := by
  refine paM (StX.pa_star ha hr hs) fun σ H Q q => ?_
  obtain ⟨ρ, h, sw, w, h', rh, rs, e, k⟩ := q
  obtain ⟨x, h1, e1, e2⟩ := bnd_ok e
  refine ⟨ρ, h, sw, x, h1, rh, rs, e1, fun ρ1 H1 x' l1 rh1 rx => ?_⟩
  split at e2
  · rename_i xs hi
    obtain ⟨a0, us, rfl, hq, rl⟩ := itemsT_of rh1 rx hi
    obtain ⟨ys, h2, e3, e4⟩ := bnd_ok e2
    cases e4
    exact ⟨a0, us, rfl, hq, ρ1, h1, sw, ys, h', rh1, rs.mono l1, e3, fun ρ2 H2 y' l2 rh2 ry => k ρ2 H2 _ (l1.trans l2) rh2 ((rl.mono l2).append ry)⟩
  · cases e2

/-! ### {k: v, ..} -/
def pairsM : List (ME × ME) → SW → M (List (W × W))
  | [], _ => rtn []
  | (mk, mv) :: r, sw => bnd (mk sw) fun x => bnd (mv sw) fun y => bnd (pairsM r sw) fun ps => rtn ((x, y) :: ps)
abbrev RPs (K : PySem.W.Frag) (ρ : List Addr) (H : Hp) : List (W × W) → List (V × V) → Prop := Paired fun w v => Rel K ρ H w.1 v.1 ∧ Rel K ρ H w.2 v.2
theorem pairs_t {K : PySem.W.Frag} {cm : Cm} {σ : St} {sw : SW} : ∀ {l : List (ME × ME)} {ρ : List Addr} {h h' : Hw} {H : Hp} {ps : List (W × W)} {Q : List (V × V) → Hp → Prop}, RelH K cm ρ h H → RelS K ρ H sw σ → pairsM l sw h = .ok ps h' →
    (∀ ρ' H' vps, Le K ρ H ρ' H' → RelH K cm ρ' h' H' → RPs K ρ' H' ps vps → Q vps H') → tPairs (l.map fun q => (tE K cm q.1, tE K cm q.2)) σ H Q := by
  intro l
  induction l with
  | nil =>
    intro ρ h h' H ps Q rh rs e k
    cases e
    exact k ρ H [] .refl rh .nil
  | cons q r ih =>
    intro ρ h h' H ps Q rh rs e k
    obtain ⟨mk, mv⟩ := q
    obtain ⟨x, h1, e1, e2⟩ := bnd_ok e
    obtain ⟨y, h2, e3, e4⟩ := bnd_ok e2
    obtain ⟨qs, h3, e5, e6⟩ := bnd_ok e4
    cases e6
    refine ⟨ρ, h, sw, x, h1, rh, rs, e1, fun ρ1 H1 x' l1 rh1 rx => ?_⟩
    refine ⟨ρ1, h1, sw, y, h2, rh1, rs.mono l1, e3, fun ρ2 H2 y' l2 rh2 ry => ?_⟩
    refine ih rh2 (rs.mono (l1.trans l2)) e5 fun ρ3 H3 vps l3 rh3 rp => ?_
    exact k ρ3 H3 _ (l1.trans (l2.trans l3)) rh3 (.cons ⟨rx.mono (l2.trans l3), ry.mono l3⟩ rp)
def keyPs (ps : List (W × W)) : Option (List (Key × W)) := mapO (fun p => (keyW p.1).map fun k => (k, p.2)) ps
theorem keyPs_of {K : PySem.W.Frag} {ρ : List Addr} {H : Hp} : ∀ {ps : List (W × W)} {vps : List (V × V)} {kvs : List (Key × W)}, RPs K ρ H ps vps → keyPs ps = some kvs → ∃ kv : List (Key × V), vps = kv.map (fun q => (kV q.1, q.2)) ∧ KVs K ρ H kvs kv
  | _, _, _, .nil, e => by cases e; exact ⟨[], rfl, .nil⟩
  | p :: ps, v :: vps, kvs, .cons r t, e => by
    unfold keyPs mapO at e
    split at e
    · rename_i y ys e1 e2
      cases e
      obtain ⟨kv, ev, rk⟩ := keyPs_of t e2
      cases q : keyW p.1 with
      | none => rw [q] at e1; cases e1
      | some k0 =>
        rw [q] at e1
        cases e1
        obtain ⟨v1, v2⟩ := v
        have ek := keyW_of r.1 q
        refine ⟨(k0, v2) :: kv, ?_, .cons r.2 rk⟩
        rw [List.map_cons, ← ev]
        dsimp only at ek
        rw [ek]
    · cases e
def mDispN (l : List (ME × ME)) : ME := fun sw => bnd (alloc (.dK [])) fun d => bnd (pairsM l sw) fun ps h => match dMut h d, keyPs ps with
  | some (p, []), some kvs => if kvs.length ≤ 15 then .ok d (h.set p (.dK (mergeKW [] kvs))) else .no
  | _, _ => .no
theorem re_dispN {l : List (ME × ME)} {keys : List (Option Expr)} {values : List Expr} (hp : PPs X pos keys values (l.map fun q => (tE X.K cm q.1, tE X.K cm q.2))) (hall : keys.all (·.isSome) = true := by rfl) (hl : keys.length = values.length := by rfl) (h0 : keys ≠ [] := by exact List.cons_ne_nil _ _) (h15 : keys.length ≤ 15 := by decide) :
    RE X cm (.Dict keys values pos) (mDispN l) := by
  refine peM (pe_disp hp hall hl h0 h15) fun σ H Q q => ?_
  obtain ⟨ρ, h, sw, w, h', rh, rs, e, kq⟩ := q
  obtain ⟨d, h1, e1, e2⟩ := bnd_ok e
  obtain ⟨ps, h2, e3, e4⟩ := bnd_ok e2
  cases e1
  intro p hp
  have l1 : Le X.K ρ H (ρ ++ [p]) (upd H p (.dK [])) := (le_new hp).trans (le_app p)
  have rh1 : RelH X.K cm (ρ ++ [p]) (h ++ [.dK []]) (upd H p (.dK [])) := rh.push hp ⟨[], upd_same, rfl, .nil⟩
  refine pairs_t rh1 (rs.mono l1) e3 fun ρ3 H3 vps l3 rh3 rp => ?_
  have hpp : ρ3[h.length]? = some p := pre_get l3.pre (push_at rh)
  split at e4
  · rename_i p' kvs hd hk
    obtain ⟨ad, kv0, ex, hp', ev, ea, rk⟩ := dMut_of rh3 (.ref hpp) hd
    cases ex
    cases ev
    cases rk
    split at e4
    · rename_i hlt
      cases e4
      obtain ⟨kv, ev, rk⟩ := keyPs_of rp hk
      refine ⟨ea, kv, ev, by rw [← rk.length]; exact hlt, ?_⟩
      have lu : Le X.K ρ3 H3 ρ3 (upd H3 p (.dK (mergeK [] kv))) := le_mut ea trivial
      exact kq ρ3 _ _ (l1.trans (l3.trans lu)) (rh3.set hpp ea trivial (relO_dK (KVs.merge (rk.mono lu) .nil))) (.ref hpp)
    · cases e4
  · cases e4

/-! ### xs * k -/
def fRep (x y : W) : M W := fun h => match lsOf h x, y with
  | some (_, xs), .int k => if -(2 ^ 63) ≤ k ∧ k < 2 ^ 63 ∧ xs.length * k.toNat ≤ lim then .ok (.ref h.length) (h ++ [.lst (List.replicate k.toNat xs).flatten]) else .no
  | _, _ => .no
theorem rels_rep {K : PySem.W.Frag} {ρ : List Addr} {H : Hp} {ws : List W} {vs : List V} (r : Rels K ρ H ws vs) : ∀ n, Rels K ρ H (List.replicate n ws).flatten (List.replicate n vs).flatten
  | 0 => .nil
  | n + 1 => by
    rw [List.replicate_succ, List.replicate_succ, List.flatten_cons, List.flatten_cons]
    exact r.append (rels_rep r n)
theorem wRep : OpW X.K cm rRep fRep := by
  intro ρ h H x y x' y' z h' Q rh rx ry e k
  unfold fRep at e
  split at e
  · rename_i p xs kk hs
    split at e
    · rename_i hc
      cases e
      obtain ⟨_, _, a, vs, rfl, _, ea, rl⟩ := lsOf_of rh rx hs
      cases ry
      exact ⟨a, kk, vs, rfl, rfl, ea, hc.1, hc.2.1, by rw [← rl.length, ← lim_eq]; exact hc.2.2, fun p hp => new_lst rh (rels_rep rl _) hp k⟩
    · cases e
  · cases e
end
end EL
set_option maxHeartbeats 2000000
/-! EL31: what the written part must say of the errors. -/
namespace EL
open PySem PySem.Spec L2
open PyProof.Rows hiding St

theorem oexG_of {K : PySem.W.Frag} {C : Addr} {nm : Str} {nw : String} {tl : List Value} {q N bs bm sn sub ab col dd k0 k1 k2 k3 k5} (fam : FamI nw tl) (ho : K.lookup C = some (excClassObj nm q C N bs bm true sn sub ab col dd k0 k1 k2 k3 k5 nw)) (ht : PySem.W.excTail tl bm = true) (sa : PySem.W.findIn K (.ref C) "__setattr__" = some (some (.builtin "object.__setattr__"))) (exC : PySem.W.subIn K (.ref C) (.type "BaseException") = some true) (tyC : PySem.W.typeIn K (.ref C) = some (.type "type")) (kC : PySem.W.keepIn K (.ref C) = true) : OexG K C :=
  ⟨⟨nw, tl, nm, q, N, bs, bm, sn, sub, ab, col, dd, k0, k1, k2, k3, k5, fam, ho, ht⟩, sa, exC, tyC, kC⟩
/-- an error class, as a clause and isinstance see it -/
structure HxC (K : PySem.W.Frag) (mg : Str → Option Value) (C : Addr) (x f : Str) : Prop where
  xf : XfC K C
  ec : ExcC K C
  nf : PySem.W.findIn K (.ref C) f = some none
  gl : mg x = some (.ref C)
theorem hx_mk {K : PySem.W.Frag} {mg : Str → Option Value} {C : Addr} {x f : Str} (gl : mg x = some (.ref C)) (ga : PySem.W.findIn K (.ref C) "__getattribute__" = some (some (.builtin "BaseException.__getattribute__"))) (gg : PySem.W.findIn K (.ref C) "__getattr__" = some none) (exC : PySem.W.subIn K (.ref C) (.type "BaseException") = some true) (hd : PySem.W.hasDictIn K C = true)
    (ha : PySem.W.findIn K (.ref C) "__class__" = some (some (.builtin "object.__class__"))) (hn : PySem.W.specialIn K (.builtin "object.__class__") "__get__" = some (some (.builtin "getset_descriptor.__get__"))) (ht : PySem.W.takesIn K (.builtin "object.__class__") = some true) (hm : PySem.W.mroIn K C (.type "object") = some true) (nf : PySem.W.findIn K (.ref C) f = some none) : HxC K mg C x f :=
  ⟨⟨ga, gg, exC, hd⟩, ⟨ga, gg, exC, hd, ha, hn, ht, hm⟩, nf, gl⟩
theorem err_mk {P : Program} {w : World} {K : PySem.W.Frag} {mg : Str → Option Value} {base : Heap} {C : Addr} {x q n : Str} {st : Stmt} {fi : Addr} {fd : FuncData} {p1 p2 p3 p4 : Pos} (T : OexG K C) (gl : mg x = some (.ref C)) (hf : fieldOf x = n) (nf : PySem.W.findIn K (.ref C) n = some none)
    (i1 : PySem.W.findIn K (.ref C) "__init__" = some (some (.ref fi))) (i2 : PySem.W.typeIn K (.ref fi) = some (.type "function")) (F : Fun K "__init__" q st fi fd) (b : Binds K fd ["self", n] []) (S : FnScope ["self", n] ["self", n] (defScope st)) (hb : defBody st = [.Assign [.Attribute (.Name "self" p1) n p2] (.Name n p3) p4]) (hn : n ≠ "self") (hn2 : (n == ("__debug__" : Str)) = false) (hn3 : (n == ("__classdict__" : Str)) = false)
    (v1 : Vis (defScope st) "self") (v2 : Vis (defScope st) n) : ErrK P w K mg base C x := by
  subst hf
  exact ⟨T, gl, nf, fi, fd, i1, i2, err_init F S hb hn hn2 hn3 v1 v2, b⟩
section
variable {X : Cx} {cm : Cm} {i : Nat} {c n f x y : Str} {p p1 p2 pos : Pos} {b : Bool}
theorem he_isiC {C : Addr} (C0 : HxC X.K X.mg (cm c) y f) (hm : X.mg "isinstance" = none) (hx : X.mg x = some (.ref C)) (hk : PySem.W.kitOne X.K (.ref (cm c)) (.ref C) = some b) (hN : X.N[i]? = some n := by rfl) (hv : Vis X.env.scope n := by first | exact Or.inl rfl | exact Or.inr (Or.inl rfl) | exact Or.inr (Or.inr rfl))
    (hd : (n == ("__debug__" : Str)) = false := by decide) (hcd : (n == ("__classdict__" : Str)) = false := by decide) (hg : Gl X "isinstance" := by rfl) (hgx : Gl X x := by rfl) (hdx : (x == ("__debug__" : Str)) = false := by decide)
    (hs1 : starEach (.Name n p1 :: [.Name x p2]) X.env = (false, eval (.Name n p1) X.env) :: starEach [.Name x p2] X.env := by rfl) (hs2 : starEach (.Name x p2 :: []) X.env = (false, eval (.Name x p2) X.env) :: starEach [] X.env := by rfl) (hpl : (backTo pos (starEach [.Name x p2] X.env)).any (·.1) = false := by rfl) :
    HE X cm i c (.Call (.Name "isinstance" p) [.Name n p1, .Name x p2] [] pos) (fun _ => rtn (.bl b)) :=
  he_isi C0.ec hm (fun a pn => pe_glob (X := X.suite a pn) (v := .ref C) hgx hx rfl hdx) (fun _ h => h) hk hN hv hd hcd hg hs1 hs2 hpl
theorem he_isiB {T : String} (C0 : HxC X.K X.mg (cm c) y f) (hm : X.mg "isinstance" = none) (hx : X.mg x = none) (hk : PySem.W.kitOne X.K (.ref (cm c)) (.type T) = some b) (hT : bootBuiltins x = some (.type T) := by decide +kernel) (hN : X.N[i]? = some n := by rfl) (hv : Vis X.env.scope n := by first | exact Or.inl rfl | exact Or.inr (Or.inl rfl) | exact Or.inr (Or.inr rfl))
    (hd : (n == ("__debug__" : Str)) = false := by decide) (hcd : (n == ("__classdict__" : Str)) = false := by decide) (hg : Gl X "isinstance" := by rfl) (hgx : Gl X x := by rfl) (hnx : x ≠ "__name__" := by decide) (hdx : (x == ("__debug__" : Str)) = false := by decide)
    (hs1 : starEach (.Name n p1 :: [.Name x p2]) X.env = (false, eval (.Name n p1) X.env) :: starEach [.Name x p2] X.env := by rfl) (hs2 : starEach (.Name x p2 :: []) X.env = (false, eval (.Name x p2) X.env) :: starEach [] X.env := by rfl) (hpl : (backTo pos (starEach [.Name x p2] X.env)).any (·.1) = false := by rfl) :
    HE X cm i c (.Call (.Name "isinstance" p) [.Name n p1, .Name x p2] [] pos) (fun _ => rtn (.bl b)) :=
  he_isi C0.ec hm (fun a pn => pe_bltn (X := X.suite a pn) (v := .ty T) hgx hx hT rfl hnx hdx) (fun _ h => h) hk hN hv hd hcd hg hs1 hs2 hpl
theorem he_own (C0 : HxC X.K X.mg (cm c) y f) (hf : fieldOf c = f := by rfl) (hN : X.N[i]? = some n := by rfl) (hv : Vis X.env.scope n := by first | exact Or.inl rfl | exact Or.inr (Or.inl rfl) | exact Or.inr (Or.inr rfl))
    (hd : (n == ("__debug__" : Str)) = false := by decide) (hcd : (n == ("__classdict__" : Str)) = false := by decide) (hb : attributeBase (.Name n p1) f X.env (eval (.Name n p1) X.env) = eval (.Name n p1) X.env := by rfl) :
    HE X cm i c (.Attribute (.Name n p1) f pos) (fun v => rtn v) := he_fld C0.xf C0.nf hf hN hv hd hcd hb
end
end EL
/-! EL32: what the readings of EL23 to EL30 give; what may raise. -/
namespace EL
open PySem PySem.Spec L2
open PyProof.Rows hiding St

/-- it ends so, or raises so -/
def Out {α : Type} (m : M α) (h : Hw) (P : α → Hw → Prop) (PX : Str → W → Hw → Prop) : Prop := (∃ a h', m h = .ok a h' ∧ P a h') ∨ ∃ c v h', m h = .ex c v h' ∧ PX c v h'
section
variable {α β : Type} {m : M α} {f : α → M β} {h : Hw} {P P' : α → Hw → Prop} {PX : Str → W → Hw → Prop}
theorem Out.imp (o : Out m h P PX) (k : ∀ a h', P a h' → P' a h') : Out m h P' PX := by
  rcases o with ⟨a, h', e, p⟩ | q
  · exact .inl ⟨a, h', e, k a h' p⟩
  · exact .inr q
theorem out_ok (o : Ok m h P) : Out m h P PX := .inl o
theorem Out.ok (o : Out m h P fun _ _ _ => False) : Ok m h P := by
  rcases o with q | ⟨_, _, _, _, q⟩
  · exact q
  · exact q.elim
theorem out_bnd {P : β → Hw → Prop} (o : Out m h (fun a h1 => Out (f a) h1 P PX) PX) : Out (bnd m f) h P PX := by
  rcases o with ⟨a, h1, e, o⟩ | ⟨c, v, h1, e, p⟩
  · rcases o with ⟨b, h2, e2, p⟩ | ⟨c, v, h2, e2, p⟩
    · exact .inl ⟨b, h2, by unfold bnd; rw [e]; exact e2, p⟩
    · exact .inr ⟨c, v, h2, by unfold bnd; rw [e]; exact e2, p⟩
  · exact .inr ⟨c, v, h1, by unfold bnd; rw [e], p⟩
theorem ok_noX {m : SW → M α} {sw : SW} (o : Ok (m sw) h P) : Ok (noX m sw) h P := by
  obtain ⟨a, h', e, p⟩ := o
  exact ⟨a, h', by unfold noX; rw [e], p⟩
theorem ok_noG {g : MG} {w : W} {sw : SW} {P : SW → Hw → Prop} (o : Ok (g w sw) h P) : Ok (noG g w sw) h P := by
  obtain ⟨a, h', e, p⟩ := o
  exact ⟨a, h', by unfold noG; rw [e], p⟩
end
section
variable {sw : SW} {h : Hw} {P : W → Hw → Prop} {PF : Fl → Hw → Prop} {PX : Str → W → Hw → Prop} {t : MT} {s s' : MS} {a : ME} {mr : MA}
theorem out_sSeq (o : Out (s sw) h (fun f h1 => match f with
    | .nx s1 => Out (s' s1) h1 PF PX
    | f => PF f h1) PX) : Out (sSeq s s' sw) h PF PX := out_bnd (o.imp fun f _ o => by
  cases f with
  | nx s1 => exact o
  | rt w => exact out_ok (ok_rtn o)
  | bk s1 => exact out_ok (ok_rtn o)
  | ct s1 => exact out_ok (ok_rtn o))
theorem out_sIf (o : Out (t sw) h (fun x h1 => (x = true → Out (s sw) h1 PF PX) ∧ (x = false → Out (s' sw) h1 PF PX)) PX) : Out (sIf t s s' sw) h PF PX := out_bnd (o.imp fun x _ o => by
  cases x with
  | true => rw [if_pos rfl]; exact o.1 rfl
  | false => rw [if_neg Bool.false_ne_true]; exact o.2 rfl)
theorem out_raise {x : Str} (o : Ok (mr sw) h fun ws h1 => ∃ v, ws = [v] ∧ PX x v h1) : Out (sRaise x mr sw) h PF PX := by
  obtain ⟨ws, h1, e, v, rfl, p⟩ := o
  exact .inr ⟨x, v, h1, by unfold sRaise bnd; rw [e], p⟩
theorem out_sExp (o : Out (a sw) h (fun x h1 => PF (.nx sw) h1) PX) : Out (sExp a sw) h PF PX := out_bnd (o.imp fun _ _ p => out_ok (ok_rtn p))
theorem out_call {f : List W → M W} (o : Ok (mr sw) h fun ws h1 => Out (f ws) h1 P PX) : Out (mCall f mr sw) h P PX := out_bnd (out_ok o)
theorem out_make {C : Str} {fn : List W → M W} {dws : List W} (q : Ok (mr sw) h fun xs h1 => Out (fn (.ref h1.length :: (xs ++ dws))) (h1 ++ [.ins C []]) (fun u h2 => u = .non ∧ P (.ref h1.length) h2) PX) : Out (mMake C fn dws mr sw) h P PX :=
  out_bnd (out_ok (q.imp fun xs h1 q => out_bnd (.inl ⟨.ref h1.length, h1 ++ [.ins C []], rfl, out_bnd (q.imp fun u h2 q => by
    obtain ⟨rfl, q⟩ := q
    exact out_ok (ok_rtn q))⟩)))
theorem out_mFn' {n N : Nat} {m : MS} {ws : List W} {s0 : SW} (e : ws.length = n) (e2 : ws.map some ++ List.replicate (N - n) none = s0) (o : Out (m s0) h (fun f h1 => match f with
    | .rt w => P w h1
    | .nx _ => P .non h1
    | _ => False) PX) : Out (mFn n N m ws) h P PX := by
  subst e2
  unfold mFn
  rw [if_pos e]
  exact out_bnd (o.imp fun f h1 o => by
    cases f with
    | rt w => exact out_ok (ok_rtn o)
    | nx s => exact out_ok (ok_rtn o)
    | bk s => exact o.elim
    | ct s => exact o.elim)
theorem out_sForI {mi : MI} {g : MG} {b : MS} (o : Ok (mi sw) h fun src h1 => Out (sFor src.1 g b 0 (src.2 + 1) sw) h1 PF PX) : Out (sForI mi g b sw) h PF PX := out_bnd (out_ok o)
theorem out_sFor {src : Src} {g : MG} {b : MS} (Inv : Nat → SW → Hw → Prop) {n : Nat} (N : Nat) (hN : n ≤ N) (h0 : Inv 0 sw h)
    (hs : ∀ i sw h, i < n → Inv i sw h → ∃ x, src.item i h = some (some x) ∧ Ok (g x sw) h fun s h1 => Out (b s) h1 (fun f h2 => ∃ s, f = .nx s ∧ Inv (i + 1) s h2) PX)
    (he : ∀ sw h, Inv n sw h → src.item n h = some none ∧ PF (.nx sw) h) : Out (sFor src g b 0 (N + 1) sw) h PF PX := by
  have go : ∀ (k i : Nat) (sw : SW) (h : Hw), i + k = n → Inv i sw h → ∀ m, n < i + m → Out (sFor src g b i m sw) h PF PX := by
    intro k
    induction k with
    | zero =>
      intro i sw h e p m hm
      have ei : i = n := by omega
      subst ei
      cases m with
      | zero => omega
      | succ m =>
        obtain ⟨e1, q⟩ := he sw h p
        exact .inl ⟨.nx sw, h, by unfold sFor; rw [e1], q⟩
    | succ k ih =>
      intro i sw h e p m hm
      cases m with
      | zero => omega
      | succ m =>
        obtain ⟨x, e1, o⟩ := hs i sw h (by omega) p
        have o' : Out (bnd (g x sw) fun s => bnd (b s) fun f => match f with
            | .nx s => sFor src g b (i + 1) m s
            | .ct s => sFor src g b (i + 1) m s
            | .bk s => rtn (.nx s)
            | .rt w => rtn (.rt w)) h PF PX := out_bnd (out_ok (o.imp fun s h1 o => out_bnd (o.imp fun f h2 o => by
          obtain ⟨s, rfl, o⟩ := o
          exact ih (i + 1) s h2 (by omega) o m (by omega))))
        rcases o' with ⟨f, h2, e2, q⟩ | ⟨c, v, h2, e2, q⟩
        · exact .inl ⟨f, h2, by unfold sFor; rw [e1]; exact e2, q⟩
        · exact .inr ⟨c, v, h2, by unfold sFor; rw [e1]; exact e2, q⟩
  exact go n 0 sw h (by omega) h0 (N + 1) (by omega)
theorem ok_sTryY {l : HL} (o : Out (s sw) h PF fun c v h' => Ok (goH l c v) h' PF) : Ok (sTryY s l sw) h PF := by
  rcases o with ⟨f, h', e, p⟩ | ⟨c, v, h', e, f, h2, e2, p⟩
  · exact ⟨f, h', by unfold sTryY; rw [e], p⟩
  · exact ⟨f, h2, by unfold sTryY; rw [e]; exact e2, p⟩
theorem ok_goH {c : Str} {v : W} {no : List Str} {m : HM} {r : HL} (o : Ok (m v) h fun w h' => PF (.rt w) h') : Ok (goH ((c, no, m) :: r) c v) h PF := by
  obtain ⟨w, h', e, p⟩ := o
  refine ⟨.rt w, h', ?_, p⟩
  unfold goH
  rw [if_pos (by simp), e]
theorem ok_hLst {mr : W → M (List W)} {v : W} (o : Ok (mr v) h fun ws h1 => ws.length ≤ lim ∧ P (.ref h1.length) (h1 ++ [.lst ws])) : Ok (hLst mr v) h P := ok_bnd (o.imp fun ws h1 o => ⟨_, _, by show (if ws.length ≤ lim then _ else _) = _; rw [if_pos o.1], o.2⟩)
end
/-! ### the heap only grows -/
abbrev Pre (h h' : Hw) : Prop := h <+: h'
theorem Pre.get {h h' : Hw} (p : h <+: h') {i : Nat} {o : O} (e : h[i]? = some o) : h'[i]? = some o := by
  obtain ⟨g, rfl⟩ := p
  exact get_app e
theorem Pre.set {h h' : Hw} (p : h <+: h') {i : Nat} (hi : h.length ≤ i) (o : O) : h <+: h'.set i o := by
  obtain ⟨g, rfl⟩ := p
  rw [List.set_append_right _ _ hi]
  exact List.prefix_append _ _
theorem Pre.app {h h' : Hw} (p : h <+: h') (g : Hw) : h <+: h' ++ g := p.trans (List.prefix_append _ _)
theorem Pre.len {h h' : Hw} (p : h <+: h') : h.length ≤ h'.length := p.length_le
section
variable {sw : SW} {h : Hw} {P : W → Hw → Prop} {PF : Fl → Hw → Prop} {a b e o : ME} {mr : MA}
theorem ok_set0 (p : P (.ref h.length) (h ++ [.st []])) : Ok (bSet0 sw) h P := ⟨_, _, rfl, p⟩
theorem stOf_at {p : Nat} {ks : List Str} (e : h[p]? = some (.st ks)) : stOf h (.ref p) = some (p, ks) := by
  unfold stOf
  simp only [e]
theorem ok_inS {neg : Bool} {s : Str} {p : Nat} {ks : List Str} (e : h[p]? = some (.st ks)) (q : P (.bl (neg != ks.contains s)) h) : Ok (fInS neg (.str s) (.ref p)) h P := ⟨_, h, by
  unfold fInS
  rw [stOf_at e], q⟩
theorem ok_sAdd (q : Ok (o sw) h fun x h1 => ∃ p ks0, x = .ref p ∧ h1[p]? = some (.st ks0) ∧ Ok (e sw) h1 fun y h2 => ∃ s ks, y = .str s ∧ h2[p]? = some (.st ks) ∧ ks.length + 2 < 4096 ∧ P .non (h2.set p (.st (s :: ks)))) : Ok (mSAdd o e sw) h P := ok_bnd (q.imp fun x h1 q => by
  obtain ⟨p, ks0, rfl, e1, q⟩ := q
  obtain ⟨y, h2, ey, s, ks, rfl, e2, l, q⟩ := q
  refine ⟨.non, _, ?_, q⟩
  simp only [stOf_at e1]
  unfold bnd
  simp only [ey, stOf_at e2, if_pos l])
theorem ok_isi2 {S T : String} (q : Ok (a sw) h fun x h1 => ∃ n k l, tyName h1 x = some n ∧ kitB n S = some k ∧ kitB n T = some l ∧ P (.bl (k || l)) h1) : Ok (mIsi2 S T a sw) h P := ok_bnd (q.imp fun x h1 q => by
  obtain ⟨n, k, l, e1, e2, e3, p⟩ := q
  exact ⟨_, h1, by simp only [e1, e2, e3], p⟩)
theorem ok_anyL {q : Nat} {ns : List Bool} (el : h[q]? = some (.lst (ns.map W.bl))) (p : P (.bl (ns.any id)) h) : Ok (bAny [.ref q]) h P := by
  refine ⟨_, h, ?_, p⟩
  show (match (match h[q]? with
    | some (.lst xs) => some xs
    | _ => none) with
    | some xs => (match wBls xs with
      | some ns => EL.R.ok (W.bl (ns.any id)) h
      | none => EL.R.no)
    | none => EL.R.no) = _
  rw [el]
  simp only [wBls_map]
theorem lsOf_at {p : Nat} {ks : List W} (e : h[p]? = some (.lst ks)) : lsOf h (.ref p) = some (p, ks) := by
  unfold lsOf
  simp only [e]
theorem ok_ext (q : Ok (o sw) h fun x h1 => ∃ p xs0, x = .ref p ∧ h1[p]? = some (.lst xs0) ∧ Ok (e sw) h1 fun y h2 => ∃ r xs ys, y = .ref r ∧ h2[p]? = some (.lst xs) ∧ h2[r]? = some (.lst ys) ∧ xs.length + ys.length ≤ lim ∧ P .non (h2.set p (.lst (xs ++ ys)))) : Ok (mExt o e sw) h P := ok_bnd (q.imp fun x h1 q => by
  obtain ⟨p, xs0, rfl, e1, q⟩ := q
  obtain ⟨y, h2, ey, r, xs, ys, rfl, e2, e3, l, q⟩ := q
  refine ⟨.non, _, ?_, q⟩
  simp only [lsOf_at e1]
  unfold bnd
  simp only [ey, lsOf_at e2, lsOf_at e3, if_pos l])
theorem ok_app (q : Ok (o sw) h fun x h1 => ∃ p xs0, x = .ref p ∧ h1[p]? = some (.lst xs0) ∧ Ok (e sw) h1 fun y h2 => ∃ xs, h2[p]? = some (.lst xs) ∧ xs.length < lim ∧ P .non (h2.set p (.lst (xs ++ [y])))) : Ok (mApp o e sw) h P := ok_bnd (q.imp fun x h1 q => by
  obtain ⟨p, xs0, rfl, e1, q⟩ := q
  refine ok_bnd ⟨(), h1, by unfold chkL; simp only [e1], ok_bnd (q.imp fun y h2 q => ?_)⟩
  obtain ⟨xs, e2, l, q⟩ := q
  exact ⟨.non, _, by unfold fApp; simp only [e2, if_pos l], q⟩)
theorem ok_aStar {PL : List W → Hw → Prop} (q : Ok (a sw) h fun x h1 => ∃ xs, itemsT h1 x = some xs ∧ Ok (mr sw) h1 fun ys h2 => PL (xs ++ ys) h2) : Ok (aStar a mr sw) h PL := ok_bnd (q.imp fun x h1 q => by
  obtain ⟨xs, e, q⟩ := q
  obtain ⟨ys, h2, e2, p⟩ := q
  refine ⟨xs ++ ys, h2, ?_, p⟩
  simp only [e]
  unfold bnd
  rw [e2]
  rfl)
theorem ok_rep {p : Nat} {xs : List W} {k : Int} (e : h[p]? = some (.lst xs)) (l : -(2 ^ 63) ≤ k ∧ k < 2 ^ 63 ∧ xs.length * k.toNat ≤ lim) (q : P (.ref h.length) (h ++ [.lst (List.replicate k.toNat xs).flatten])) : Ok (fRep (.ref p) (.int k)) h P := ⟨_, _, by
  unfold fRep
  rw [lsOf_at e]
  simp only [if_pos l], q⟩
theorem ok_pairs0 {PP : List (W × W) → Hw → Prop} (p : PP [] h) : Ok (pairsM [] sw) h PP := ok_rtn p
theorem ok_pairs {mk mv : ME} {r : List (ME × ME)} {PP : List (W × W) → Hw → Prop} (q : Ok (mk sw) h fun x h1 => Ok (mv sw) h1 fun y h2 => Ok (pairsM r sw) h2 fun ps h3 => PP ((x, y) :: ps) h3) : Ok (pairsM ((mk, mv) :: r) sw) h PP :=
  ok_bnd (q.imp fun _ _ q => ok_bnd (q.imp fun _ _ q => ok_bnd (q.imp fun _ _ q => ok_rtn q)))
theorem ok_dispN {l : List (ME × ME)} (q : Ok (pairsM l sw) (h ++ [.dK []]) fun ps h2 => h2[h.length]? = some (.dK []) ∧ ∃ kvs, keyPs ps = some kvs ∧ kvs.length ≤ 15 ∧ P (.ref h.length) (h2.set h.length (.dK (mergeKW [] kvs)))) : Ok (mDispN l sw) h P := ok_bnd ⟨.ref h.length, h ++ [.dK []], rfl, ok_bnd (q.imp fun ps h2 q => by
  obtain ⟨e, kvs, e2, l, p⟩ := q
  have e3 : dMut h2 (.ref h.length) = some (h.length, []) := by unfold dMut; simp only [e]
  exact ⟨.ref h.length, _, by simp only [e3, e2, if_pos l], p⟩)⟩
theorem ok_iEnuT {PI : Src × Nat → Hw → Prop} (o : Ok (a sw) h fun x h1 => ∃ xs, x = .tup xs ∧ PI (.enuT xs, xs.length) h1) : Ok (iEnu a sw) h PI := ok_bnd (o.imp fun x h1 o => by
  obtain ⟨xs, rfl, q⟩ := o
  exact ⟨_, h1, rfl, q⟩)
end
end EL
/-! EL33: == and in, on ints, truths, lists of texts and of ints. -/
namespace EL
open PySem PySem.Spec L2
open PyProof.Rows hiding St
theorem mapO_str (h : Hw) (n : Nat) : ∀ xs : List Str, mapO (toD h n) (xs.map W.str) = some (xs.map PyData.str)
  | [] => rfl
  | x :: r => by
    rw [List.map_cons]
    unfold mapO
    rw [mapO_str h n r]
    cases n <;> rfl
theorem mapO_int (h : Hw) (n : Nat) : ∀ xs : List Int, mapO (toD h n) (xs.map W.int) = some (xs.map PyData.int)
  | [] => rfl
  | x :: r => by
    rw [List.map_cons]
    unfold mapO
    rw [mapO_int h n r]
    cases n <;> rfl
theorem toD_strs {h : Hw} {p : Nat} {xs : List Str} (e : h[p]? = some (.lst (xs.map W.str))) : toD h 8 (.ref p) = some (.list (xs.map PyData.str)) := by
  show (match h[p]? with
    | some (.lst xs) => (mapO (toD h 7) xs).map PyData.list
    | _ => none) = _
  rw [e]
  simp only [mapO_str]
  rfl
theorem toD_ints {h : Hw} {p : Nat} {xs : List Int} (e : h[p]? = some (.lst (xs.map W.int))) : toD h 8 (.ref p) = some (.list (xs.map PyData.int)) := by
  show (match h[p]? with
    | some (.lst xs) => (mapO (toD h 7) xs).map PyData.list
    | _ => none) = _
  rw [e]
  simp only [mapO_int]
  rfl
theorem lay_strs : ∀ xs : List Str, (∀ x ∈ xs, PyData.strOk x = true) → PyData.canLayAll0 (xs.map PyData.str) = true ∧ PyData.depthAll (xs.map PyData.str) = 0
  | [], _ => ⟨rfl, rfl⟩
  | x :: r, hx => by
    obtain ⟨a, b⟩ := lay_strs r fun y hy => hx y (List.mem_cons_of_mem _ hy)
    rw [List.map_cons]
    refine ⟨?_, ?_⟩
    · unfold PyData.canLayAll0
      rw [a, Bool.and_true]
      unfold PyData.canLay0
      exact hx x (List.mem_cons_self ..)
    · unfold PyData.depthAll
      rw [b]
      rfl
theorem lay_ints : ∀ xs : List Int, PyData.canLayAll0 (xs.map PyData.int) = true ∧ PyData.depthAll (xs.map PyData.int) = 0
  | [] => ⟨rfl, rfl⟩
  | x :: r => by
    obtain ⟨a, b⟩ := lay_ints r
    rw [List.map_cons]
    refine ⟨?_, ?_⟩
    · unfold PyData.canLayAll0
      rw [a, Bool.and_true]
      unfold PyData.canLay0
      rfl
    · unfold PyData.depthAll
      rw [b]
      rfl
theorem shaped_list {ds : List PyData} (h : PyData.canLayAll0 ds = true ∧ PyData.depthAll ds = 0) : SeqAt.shaped (.list ds) = true := by
  unfold SeqAt.shaped
  have e1 : PyData.canLay0 (.list ds) = true := by
    unfold PyData.canLay0
    exact h.1
  have e2 : PyData.depth (.list ds) = 1 := by
    unfold PyData.depth
    rw [h.2]
  rw [e1, e2]
  rfl
theorem eqv_list {ds : List PyData} (h : PyData.canLayAll0 ds = true ∧ PyData.depthAll ds = 0) : PyData.eqv (.list ds) (.list ds) = true := PySem.SeqAt.eqv_refl (.list ds) (by
  unfold PyData.canLay0
  exact h.1)
theorem eq_strs {neg : Bool} {h : Hw} {p q : Nat} {xs : List Str} {P : W → Hw → Prop} (hx : ∀ x ∈ xs, PyData.strOk x = true) (e1 : h[p]? = some (.lst (xs.map W.str))) (e2 : h[q]? = some (.lst (xs.map W.str))) (k : P (.bl (neg != true)) h) : Ok (fEq neg (.ref p) (.ref q)) h P :=
  ok_eq (toD_strs e1) (toD_strs e2) (by rw [shaped_list (lay_strs xs hx)]; rfl) (by rw [eqv_list (lay_strs xs hx)]; exact k)
theorem eq_ints {neg : Bool} {h : Hw} {p q : Nat} {xs : List Int} {P : W → Hw → Prop} (e1 : h[p]? = some (.lst (xs.map W.int))) (e2 : h[q]? = some (.lst (xs.map W.int))) (k : P (.bl (neg != true)) h) : Ok (fEq neg (.ref p) (.ref q)) h P :=
  ok_eq (toD_ints e1) (toD_ints e2) (by rw [shaped_list (lay_ints xs)]; rfl) (by rw [eqv_list (lay_ints xs)]; exact k)
theorem eq_int {neg : Bool} {h : Hw} {i j : Int} {P : W → Hw → Prop} (k : P (.bl (neg != decide (i = j))) h) : Ok (fEq neg (.int i) (.int j)) h P :=
  ok_eq rfl rfl rfl (by
    have e : PyData.eqv (.int i) (.int j) = decide (i = j) := by
      by_cases z : i = j
      · subst z
        rw [decide_eq_true rfl]
        exact PySem.SeqAt.eqv_refl _ rfl
      · rw [decide_eq_false z]
        unfold PyData.eqv
        simpa using z
    rw [e]
    exact k)
theorem eq_bool {neg : Bool} {h : Hw} {i j : Bool} {P : W → Hw → Prop} (k : P (.bl (neg != (i == j))) h) : Ok (fEq neg (.bl i) (.bl j)) h P := by
  refine ok_eq rfl rfl rfl ?_
  have e : PyData.eqv (.bool i) (.bool j) = (i == j) := by cases i <;> cases j <;> decide +kernel
  rw [e]
  exact k
theorem isw_ok {x : Str} (h : isw x = true) : PyData.strOk x = true := by
  unfold isw at h
  rw [Bool.and_eq_true] at h
  unfold PyData.strOk
  rw [← Array.all_toList]
  refine List.all_eq_true.mpr fun c hc => ?_
  have q := List.all_eq_true.mp h.2 c hc
  rw [Bool.and_eq_true] at q
  have := of_decide_eq_true q.2
  exact decide_eq_true (by omega)
theorem in_words {neg : Bool} {h : Hw} {p : Nat} {xs : List Str} {x : Str} {P : W → Hw → Prop} (e : h[p]? = some (.lst (xs.map W.str))) (hw : ∀ y ∈ x :: xs, isw y = true) (k : P (.bl (neg != decide (x ∈ xs))) h) : Ok (fIn neg (.str x) (.ref p)) h P := by
  refine ⟨.bl (neg != decide (x ∈ xs)), h, ?_, k⟩
  have es : (SeqAt.shaped (.str x) && SeqAt.shaped (.list (xs.map PyData.str))) = true := by
    rw [shaped_list (lay_strs xs fun y hy => isw_ok (hw y (List.mem_cons_of_mem _ hy)))]
    unfold SeqAt.shaped
    have e1 : PyData.canLay0 (.str x) = true := by
      unfold PyData.canLay0
      exact isw_ok (hw x (List.mem_cons_self ..))
    rw [e1]
    rfl
  have ea : (xs.map PyData.str).any (fun z => PyData.eqv z (.str x)) = decide (x ∈ xs) := by
    by_cases hm : x ∈ xs
    · rw [decide_eq_true hm, List.any_eq_true]
      exact ⟨.str x, List.mem_map.mpr ⟨x, hm, rfl⟩, PySem.SeqAt.eqv_refl _ (by unfold PyData.canLay0; exact isw_ok (hw x (List.mem_cons_self ..)))⟩
    · rw [decide_eq_false hm, List.any_eq_false]
      intro d hd
      obtain ⟨y, hy, rfl⟩ := List.mem_map.mp hd
      unfold PyData.eqv
      intro z
      have : y = x := by simpa using z
      exact hm (this ▸ hy)
  show (match toD h 8 (.str x), toD h 8 (.ref p) with
    | some d, some (.list ds) => if (SeqAt.shaped d && SeqAt.shaped (.list ds)) = true then EL.R.ok (W.bl (neg != ds.any fun z => PyData.eqv z d)) h else EL.R.no
    | _, _ => EL.R.no) = _
  rw [toD_strs e, show toD h 8 (.str x) = some (.str x) from rfl]
  simp only [es, if_true, ea]
/-- a list of whole numbers, truths and None, equal to itself as written twice -/
theorem eq_flat {neg : Bool} {h : Hw} {p q : Nat} {ws : List W} {ds : List PyData} {P : W → Hw → Prop} (e1 : h[p]? = some (.lst ws)) (e2 : h[q]? = some (.lst ws)) (ed : ∀ h, mapO (toD h 7) ws = some ds) (hl : PyData.canLayAll0 ds = true ∧ PyData.depthAll ds = 0) (k : P (.bl (neg != true)) h) : Ok (fEq neg (.ref p) (.ref q)) h P := by
  have t : ∀ r, h[r]? = some (.lst ws) → toD h 8 (.ref r) = some (.list ds) := fun r e => by
    show (match h[r]? with
      | some (.lst xs) => (mapO (toD h 7) xs).map PyData.list
      | _ => none) = _
    rw [e]
    simp only [ed]
    rfl
  exact ok_eq (t p e1) (t q e2) (by rw [shaped_list hl]; rfl) (by rw [eqv_list hl]; exact k)
end EL
set_option maxHeartbeats 2000000
/-! EL34: xs[::-1], index of texts and tuples, own instances called. -/
namespace EL
open PySem PySem.Spec L2
open PyProof.Rows hiding St

theorem range_rev (n : Nat) : ((List.range n).map fun k : Nat => (((n : Int) - 1) + -1 * (k : Int)).toNat) = (List.range n).reverse := by
  refine List.ext_getElem (by simp) fun i h1 h2 => ?_
  simp at h1
  rw [List.getElem_map, List.getElem_range, List.getElem_reverse, List.getElem_range]
  simp
  omega
theorem slicePick_rev (its : List Value) : slicePick its.toArray none none (some (-1)) = its.reverse.toArray := by
  have hb : sliceBounds none none (some (-1)) its.toArray.size = ((its.toArray.size : Int) - 1, -1, -1) := by
    simp [sliceBounds]
  unfold slicePick
  rw [hb]
  simp only
  congr 1
  have hn : its.toArray.size = its.length := List.size_toArray ..
  rw [hn]
  have hr : sliceRange ((its.length : Int) - 1) (-1) (-1) = (List.range its.length).reverse := by
    rw [← range_rev]
    unfold sliceRange
    have : (if (-1 : Int) > 0 then (if ((its.length : Int) - 1) < -1 then (-1 - ((its.length : Int) - 1) + -1 - 1) / -1 else 0) else (if ((its.length : Int) - 1) > -1 then (((its.length : Int) - 1) - -1 - -1 - 1) / (- -1) else 0)) = (its.length : Int) := by
      rw [if_neg (by decide)]
      split
      · rw [show (- -1 : Int) = 1 by decide, Int.ediv_one]
        omega
      · omega
    simp only [this]
    rfl
  rw [hr, List.filterMap_reverse]
  congr 1
  have := pick_run its.toArray 0 its.length
  simpa using this
def tRev (K : PySem.W.Frag) (te ts : TE) : TE := fun σ H Q => te σ H fun x H1 => ts σ H1 fun y H2 => y = .int (-1) ∧ ∃ a xs, x = .ref a ∧ SqL K H2 a xs ∧ ∀ p, H2 p = none → Q (.ref p) (upd H2 p (.lst xs.reverse))
theorem Vals.rev : ∀ {xs : List V} {us : List Value}, Vals xs us → Vals xs.reverse us.reverse
  | _, _, .nil => .nil
  | _, _, .cons r t => by
    rw [List.reverse_cons, List.reverse_cons]
    exact (Vals.rev t).append (.cons r .nil)
theorem pe_rev {X : Cx} {e st : Expr} {te ts : TE} {p2 pos : Pos} (he : PE X e te) (hs : PE X st ts) : PE X (.Subscript e (.Slice none none (some st) p2) pos) (tRev X.K te ts) := by
  refine ⟨fun pins s σ H Q I h => ?_⟩
  refine Subscript_ (thn (he.run pins s σ H _ I h) fun v s1 ⟨x, H1, I1, r1, q1⟩ => ?_)
  refine wpAny_Slice ?_
  rw [evalPart_none]
  refine wpAny_pure ?_
  refine wpAny_pure ?_
  rw [evalPart_some]
  refine thn (hs.run pins s1 σ H1 _ I1 q1) fun vs s3 ⟨y, H2, I2, r2, q2⟩ => ?_
  obtain ⟨rfl, a, xs, rfl, hx, q3⟩ := q2
  obtain ⟨tk, rfl⟩ := r2
  cases r1
  have I4 : Inv X pins σ H2 { s3 with heap := s3.heap.push { cls := .type "slice", data := .fields #[.none, .none, .int (-1) tk] } } := I2.kept (t' := s3.toks) fun b ob q => Heap.get?_push_of_some _ q
  obtain ⟨its, r, ht, hz⟩ := I4.list hx
  have hlen := r.length
  refine tail_any (ops := [.ref a, .ref s3.heap.objs.size]) ht.isList.typeIs PySem.F.slot_list_getitem.lookup ?_ (by with_unfolding_all rfl)
  refine wpAny_getItem_list_slice ht.isList (Heap.IsSliceOf.new ..) .none .none (.int (-1) tk) (by decide) ?_ (by rw [List.size_toArray]; omega)
  rw [slicePick_rev]
  refine ⟨.ref _, _, I4.laid (t' := s3.toks) (o := .lst xs.reverse) (fun b ob q => Heap.get?_push_of_some _ q) (Nat.le_refl _) ?_, rfl, q3 _ (I4.hok.fresh (Nat.le_refl _))⟩
  exact ⟨by rw [List.length_reverse]; exact hz, _, 0, Vals.rev r, Heap.get?_push_size _ rfl⟩
theorem Rels.rev {K : PySem.W.Frag} {ρ : List Addr} {H : Hp} : ∀ {ws : List W} {vs : List V}, Rels K ρ H ws vs → Rels K ρ H ws.reverse vs.reverse
  | _, _, .nil => .nil
  | _, _, .cons r t => by
    rw [List.reverse_cons, List.reverse_cons]
    exact (Rels.rev t).append (.cons r .nil)
def mRev (a s : ME) : ME := fun sw => bnd (a sw) fun x => bnd (s sw) fun y h => match y, items h x with
  | .int i, some xs => if i = -1 then alloc (.lst xs.reverse) h else .no
  | _, _ => .no
theorem re_rev {X : Cx} {cm : Cm} {e st : Expr} {ma ms : ME} {p2 pos : Pos} (ha : RE X cm e ma) (hs : RE X cm st ms) : RE X cm (.Subscript e (.Slice none none (some st) p2) pos) (mRev ma ms) := by
  refine peM (pe_rev ha hs) fun σ H Q q => ?_
  obtain ⟨ρ, h, sw, w, h', rh, rs, e, k⟩ := q
  obtain ⟨x, h1, e1, e2⟩ := bnd_ok e
  obtain ⟨y, h2, e3, e4⟩ := bnd_ok e2
  refine ⟨ρ, h, sw, x, h1, rh, rs, e1, fun ρ1 H1 x' l1 rh1 rx => ?_⟩
  refine ⟨ρ1, h1, sw, y, h2, rh1, rs.mono l1, e3, fun ρ2 H2 y' l2 rh2 ry => ?_⟩
  split at e4
  · rename_i i xs hi
    split at e4
    · rename_i hi1
      cases e4
      subst hi1
      cases ry
      obtain ⟨a, us, rfl, hq, rl⟩ := items_of rh2 (rx.mono l2) hi
      exact ⟨rfl, a, us, rfl, hq, fun p hp => new_lst rh2 (Rels.rev rl) hp fun ρ3 H3 v l3 => k ρ3 H3 v (l1.trans (l2.trans l3))⟩
    · cases e4
  · cases e4
/-- x.index(y), texts -/
def mSIdx (a b : ME) : ME := fun sw => bnd (a sw) fun x => match x with
  | .str u => bnd (b sw) fun y h => match y with
    | .str v => (match Builtin.Str.occurrences u v 0 u.length 1 with
      | i :: _ => .ok (.int (i : Nat)) h
      | [] => .no)
    | _ => .no
  | _ => bad
theorem re_sindex {X : Cx} {cm : Cm} {a b : Expr} {ma mb : ME} {apos cpos : Pos} (ha : RE X cm a ma) (hb : RE X cm b mb)
    (hbase : attributeBase a "index" X.env (eval a X.env) = eval a X.env := by rfl)
    (hfew : ((backTo cpos (starEach [b] X.env)).all (fun x => !x.1) && (backToKw cpos (keywordEach [] X.env)).all (fun x => x.1.isSome)
      && decide (([b] : List Expr).length + ([] : List Keyword).length + (if ([] : List Keyword).isEmpty then 0 else 1) < 30)) = true := by rfl)
    (hline : (apos.endLine == cpos.line) = true := by rfl) (hs : starEach [b] X.env = (false, eval b X.env) :: starEach [] X.env := by rfl) (hplain : (backTo cpos (starEach [] X.env)).any (·.1) = false := by rfl) :
    RE X cm (.Call (.Attribute a "index" apos) [b] [] cpos) (mSIdx ma mb) := by
  refine peM (pe_bm PySem.F.plainAttrs_str PySem.F.slot_str_index PySem.F.type_str_index L2.mt_sindex ha (pa_cons hb pa_nil hs) hbase hfew hline hs hplain) fun σ H Q q => ?_
  obtain ⟨ρ, h, sw, w, h', rh, rs, e, k⟩ := q
  obtain ⟨x, h1, e1, e2⟩ := bnd_ok e
  refine ⟨ρ, h, sw, x, h1, rh, rs, e1, fun ρ1 H1 x' l1 rh1 rx => ?_⟩
  split at e2
  · rename_i u
    obtain ⟨y, h2, e3, e4⟩ := bnd_ok e2
    cases rx
    refine ⟨?_, ρ1, h1, sw, y, h2, rh1, rs.mono l1, e3, fun ρ2 H2 y' l2 rh2 ry => ?_⟩
    · rfl
    split at e4
    · rename_i v
      split at e4
      · rename_i i r ho
        cases e4
        cases ry
        exact ⟨u, v, i, r, rfl, rfl, ho, k ρ2 H2 _ (l1.trans l2) rh2 (.int _)⟩
      · cases e4
    · cases e4
  · cases e2
end EL
set_option maxHeartbeats 2000000
/-! EL35: an own instance called. -/
namespace EL
open PySem PySem.Spec L2
open PyProof.Rows hiding St
theorem fnR_of {P : Program} {w : World} {K : PySem.W.Frag} {mg : Str → Option Value} {base : Heap} {CX : CXT} {k : Nat} {f : Addr} {fd : FuncData} {ps : List Str} {sp : Sp} (F : FnOk P w K mg base CX k f fd ps sp) (hb : Binds K fd ps []) : FnR P w K mg base CX k f sp := fun A outer s H us vs Q E hr he hv q => by
  have len := F.len _ _ _ _ q
  have kin : K.In s.heap := he.mod.kin.keeps fun b o e => (he.bs b o e).1
  have all : BindsTo s fd ⟨us, []⟩ (ps.zip us) := by
    have z := hb s us kin (by rw [List.append_nil, ← hv.length]; exact len)
    rw [List.append_nil] at z
    exact z
  exact F.run A outer s H _ us vs Q E hr he all hv q
def mCallO (C : Str) (m : List W → M W) (mo : ME) (mr : MA) : ME := fun sw => bnd (mo sw) fun x => bnd (mr sw) fun ws h => if insB h x C = true then m (x :: ws) h else .no
theorem re_callO {X : Cx} {cm : Cm} {C : Str} {g : Addr} {fd : FuncData} {ps : List Str} {k : Nat} {m : List W → M W} {fe e : Expr} {es : List Expr} {mo : ME} {mr : MA} {pos : Pos} (c : StX.CallO X.K (cm C) g) (F : FnOk X.prog X.w X.K X.mg X.base CX0 k g fd ps (spM X.K cm m)) (hr : Room k X.A) (hb : Binds X.K fd ps []) (hf : RE X cm fe mo) (ha : RA X cm (e :: es) mr)
    (ht : eval (.Call fe (e :: es) [] pos) X.env = (do callWith pos (← eval fe X.env) [] (backTo pos (starEach (e :: es) X.env)) (backToKw pos (keywordEach [] X.env))) := by rfl)
    (he : starEach (e :: es) X.env = (false, eval e X.env) :: starEach es X.env := by rfl) (hpl : (backTo pos (starEach es X.env)).any (·.1) = false := by rfl) : RE X cm (.Call fe (e :: es) [] pos) (mCallO C m mo mr) := by
  refine peM (StX.pe_callO (E := fun _ _ _ => False) hf c (fnR_of F hb) hr pass0 ha ht he hpl) fun σ H Q q => ?_
  obtain ⟨ρ, h, sw, w, h', rh, rs, e, k⟩ := q
  obtain ⟨x, h1, e1, e2⟩ := bnd_ok e
  obtain ⟨ws, h2, e3, e4⟩ := bnd_ok e2
  refine ⟨ρ, h, sw, x, h1, rh, rs, e1, fun ρ1 H1 x' l1 rh1 rx => ?_⟩
  split at e4
  · rename_i hi
    cases x with
    | ref p =>
      cases rx with
      | @ref _ a hp =>
        refine ⟨a, rfl, ρ1, h1, sw, ws, h2, rh1, rs.mono l1, e3, fun ρ2 H2 vs l2 rh2 rv => ?_⟩
        obtain ⟨p', ad, dx, fv, ex, ev, hp', ea⟩ := insB_of rh2 (.ref (pre_get l2.pre hp)) hi
        cases ex
        cases ev
        exact ⟨.inr ⟨dx, fv, ea⟩, ρ2, h2, _, w, h', rh2, .cons (.ref (pre_get l2.pre hp)) rv, e4, fun ρ3 H3 v l3 => k ρ3 H3 v (l1.trans (l2.trans l3))⟩
    | _ => exact absurd hi (by unfold insB; simp)
  · cases e4
end EL
set_option maxHeartbeats 2000000
/-! EL36: a tuple of texts that the module names; tuple.index. -/
namespace EL
open PySem PySem.Spec L2
open PyProof.Rows hiding St
theorem re_gtup {X : Cx} {cm : Cm} {x : Str} {a : Addr} {xs : List Str} {dd : Option Addr} {its : Array Value} {n : Nat} {sl : Array (Option Value)} {pos : Pos} (hm : X.mg x = some (.ref a)) (hk : X.K.lookup a = some ⟨.type "tuple", dd, .seq its n, sl⟩) (hv : Vals (xs.map V.str) its.toList) (hz : its.size ≤ sizeLine) (hg : Gl X x := by rfl) (hd : (x == ("__debug__" : Str)) = false := by decide) :
    RE X cm (.Name x pos) (mC (.tup (xs.map W.str))) :=
  re_tC (pe_glob (v := .ref a) hg hm rfl hd) fun ρ H => .tup (.inr ⟨_, its, n, hk, rfl, rfl, hz, hv⟩) (Rels.strs xs)
end EL
set_option maxHeartbeats 2000000
/-! EL37: repr of lists and tuples, where the guards are known. -/
namespace EL
open PySem PySem.Spec L2
open PyProof.Rows hiding St
def rReprD (K : PySem.W.Frag) : List V → Hp → VK → Prop := fun xs H Q => ∃ (a : Addr) (d : PyData), xs = [.ref a] ∧ Dp K H (.ref a) d ∧ d.showable = true ∧ d.depth ≤ 20 ∧ d.hasDict = false ∧ d.shown.length ≤ sizeLine ∧ Q (.str d.shown) H
theorem oReprD {X : Cx} (gd : X.A.guards = some []) (hu : X.A.units + 65 < cLine) : CallR X (.builtin "repr") (rReprD X.K) := by
  intro pins s σ H xs us Q I r h
  obtain ⟨a, d, rfl, dp, hs, dl, nd, sz, q⟩ := h
  obtain ⟨u, rfl, ru⟩ := Vals.one r
  obtain rfl : u = Value.ref a := ru
  obtain ⟨as, rd⟩ := Dp.reads I d (.ref a) (.ref a) dp rfl
  exact PySem.repr_of_reads' rd hs (fun z => by rw [nd] at z; cases z) gd (by omega) (fun _ _ e => e) (fun h' t tk hk => ⟨.str d.shown, H, I.kept (t' := tk) hk, ⟨_, rfl⟩, q⟩) sz
def bReprD : List W → M W
  | [.ref p] => fun h => match toD h 8 (.ref p) with
    | some d => if d.showable = true ∧ d.depth ≤ 20 ∧ d.hasDict = false ∧ d.shown.length ≤ lim then .ok (.str d.shown) h else .no
    | none => .no
  | [.tup xs] => fun h => match toD h 8 (.tup xs) with
    | some d => if d.showable = true ∧ d.depth ≤ 20 ∧ d.hasDict = false ∧ d.shown.length ≤ lim then .ok (.str d.shown) h else .no
    | none => .no
  | ws => bRepr ws
theorem wReprD {X : Cx} {cm : Cm} : CallW X.K cm (fun xs H Q => rRepr xs H Q ∨ rReprD X.K xs H Q) bReprD := by
  intro ρ h H ws vs z h' Q rh r e k
  have data : ∀ {w : W} {v : V}, ws = [w] → vs = [v] → Rel X.K ρ H w v → (∃ a, v = .ref a) → (match toD h 8 w with
    | some d => if d.showable = true ∧ d.depth ≤ 20 ∧ d.hasDict = false ∧ d.shown.length ≤ lim then EL.R.ok (W.str d.shown) h else EL.R.no
    | none => EL.R.no) = .ok z h' → rReprD X.K vs H Q := fun {w v} _ ev rw' ea e' => by
    obtain ⟨a, rfl⟩ := ea
    subst ev
    split at e'
    · rename_i d hd
      split at e'
      · rename_i hc
        cases e'
        exact ⟨a, d, rfl, toD_dp rh 8 w _ d rw' hd, hc.1, hc.2.1, hc.2.2.1, by rw [← lim_eq]; exact hc.2.2.2, k.at rh (.str _)⟩
      · cases e'
    · cases e'
  unfold bReprD at e
  split at e
  · obtain ⟨v, rfl, rv⟩ := one_of r
    cases rv with
    | @ref p a hp => exact .inr (data rfl rfl (.ref hp) ⟨a, rfl⟩ e)
  · obtain ⟨v, rfl, rv⟩ := one_of r
    cases rv with
    | @tup ws' vs' a hq rl => exact .inr (data rfl rfl (.tup hq rl) ⟨a, rfl⟩ e)
  · exact .inl (wRepr ρ h H _ vs z h' Q rh r e k)
end EL
set_option maxHeartbeats 2000000
/-! EL38: defs that are called where no guard is up. -/
namespace EL
open PySem PySem.Spec L2
open PyProof.Rows hiding St
structure FnG (P : Program) (w : World) (K : PySem.W.Frag) (mg : Str → Option Value) (base : Heap) (CX : CXT) (k : Nat) (f : Addr) (fd : FuncData) (ps : List Str) (sp : Sp) : Prop where
  len : ∀ vs H Q E, sp vs H Q E → vs.length = ps.length
  run : ∀ (A : Around) (outer : List Env) (s : Shared) (H : Hp) (args : Args) (us : List Value) (vs : List V) (Q : VK) (E : XK), Room k A → A.guards = some [] → Env0 P w K mg base A outer s H → BindsTo s fd args (ps.zip us) → Vals vs us → sp vs H Q E →
    codeAny (model P w) A (.call (.ref f) args) (CR CX outer P w H s Q E) s
theorem FnG.of {P : Program} {w : World} {K : PySem.W.Frag} {mg : Str → Option Value} {base : Heap} {CX : CXT} {k : Nat} {f : Addr} {fd : FuncData} {ps : List Str} {sp : Sp} (F : FnOk P w K mg base CX k f fd ps sp) : FnG P w K mg base CX k f fd ps sp :=
  ⟨F.len, fun A outer s H args us vs Q E hr _ he hb hv q => F.run A outer s H args us vs Q E hr he hb hv q⟩
theorem fnG_of {CX : CXT} {P : Program} {w : World} {K : PySem.W.Frag} {mg : Str → Option Value} {base : Heap} {k : Nat} {f : Addr} {x qual : Str} {st : Stmt} {fd : FuncData} {N ps : List Str} {sp : Sp} (F : Fun K x qual st f fd) (S : FnScope N ps (defScope st)) (len : ∀ vs H Q E, sp vs H Q E → vs.length = ps.length)
    (body : ∀ (cdv : Value) (A : Around) (outer : List Env) (s : Shared) (H : Hp) (vs : List V) (Q : VK) (E : XK), Room k (A.deeper (envOfC qual (defScope st) s.heap.objs.size f cdv)) → (A.deeper (envOfC qual (defScope st) s.heap.objs.size f cdv)).guards = some [] → sp vs H Q E →
      ∃ t, PSs (cxOf CX P w K mg base N qual (defScope st) f cdv A outer s H E) (defBody st) t ∧ t { nx := fun _ H' => Q .non H', rt := Q } (start N vs) H) : FnG P w K mg base CX (k + 1) f fd ps sp := by
  obtain ⟨oc, od, kV, doc, pm, an, cdv, ct, osl, rfl, lk, hcd⟩ := F.ex
  refine ⟨len, fun A outer s H args us vs Q E hr gd e0 hb r wish => ?_⟩
  have few := len vs H Q E wish
  have KX : K.In s.heap := e0.mod.kin.keeps fun b o e => (e0.bs b o e).1
  have room : s.heap.NoLimit := e0.mod.nolimit.keeps fun b o e => (e0.bs b o e).1
  have kinds : ∀ y ∈ ps.zip us, (defScope st).names.lookup y.1 = some .local ∨ ((defScope st).names.lookup y.1 = some .cell ∧ ((cellsFrom (s.heap.objs.size + 1) (defScope st).names []).lookup y.1).isSome = true) := fun ⟨n, v⟩ hy =>
    (S.par n (List.of_mem_zip hy).1).elim .inl fun q => .inr ⟨q, PySem.W.cellsFrom_some _ _ _ (.inl q)⟩
  refine codeAny_call_function hr.depth (KX _ _ lk) rfl S.co S.gen rfl (PySem.W.codeRec_of KX hcd) (hb _ _ _ _ ?_)
  refine wpAny_newFunctionEnv_cells S.kind kinds fun env he s1 z => ?_
  subst he
  refine ⟨room.keeps z.toInCall.keep, codeAny_func ?_⟩
  obtain ⟨t, ht, hq⟩ := body cdv A outer s H vs Q E (hr.deeper _) gd wish
  have I : Inv (cxOf CX P w K mg base N qual (defScope st) f cdv A outer s H E) [] (start N vs) H s1 := inv_start S hr.hd e0 few r z
  refine wpAny_mono (ht.run [] s1 (start N vs) H _ I hq) (fun fl s' back => ?_) fun e s' back => back
  rcases fl with _ | _ | _ | u
  · obtain ⟨σ', H', J, q⟩ := back
    exact ⟨V.non, H', J.os, J.bare, J.base, J.hok, rfl, q⟩
  · obtain ⟨_, _, _, q⟩ := back
    exact q.elim
  · obtain ⟨_, _, _, q⟩ := back
    exact q.elim
  · obtain ⟨v, σ', H', J, rv, q⟩ := back
    exact ⟨v, H', J.os, J.bare, J.base, J.hok, rv, q⟩
end EL
set_option maxHeartbeats 2000000
/-! EL39: calls of such defs. -/
namespace EL
open PySem PySem.Spec L2
open PyProof.Rows hiding St
theorem runG {X : Cx} {k : Nat} {f : Addr} {fd : FuncData} {ps : List Str} {sp : Sp} {pins : List (Addr × Obj)} {σ : St} {H : Hp} {s : Shared} {Q : VK} {us : List Value} {vs : List V} {E : XK} (F : FnG X.prog X.w X.K X.mg X.base CX0 k f fd ps sp) (hr : Room k X.A) (gd : X.A.guards = some []) (hb : Binds X.K fd ps [])
    (I : Inv X pins σ H s) (r : Vals vs us) (h : sp vs H Q E) : wpAny (model X.prog X.w) X.A (call (.ref f) us) (EP X pins σ Q) X.xe s := by
  have len := F.len _ _ _ _ h
  have all : BindsTo s fd ⟨us, []⟩ (ps.zip us) := by
    have z := hb s us I.kIn (by rw [List.append_nil, ← r.length]; exact len)
    rw [List.append_nil] at z
    exact z
  refine wpAny_call (codeAny_mono (F.run X.A X.stack s H _ us vs Q E hr gd I.env0 all r h) fun back s' z => ?_)
  rcases back with bad | fl
  · exact pass0 pins σ H s bad s' I z
  · cases fl with
    | ret u => exact I.after z
    | _ => exact z.elim
section
variable {X : Cx} {cm : Cm} {e : Expr} {es : List Expr} {mr : MA} {pos p : Pos} {k : Nat} {f : Addr} {fd : FuncData} {ps : List Str} {x : Str} {m : List W → M W}
theorem re_callG (F : FnG X.prog X.w X.K X.mg X.base CX0 k f fd ps (spM X.K cm m)) (hr : Room k X.A) (gd : X.A.guards = some []) (hm : X.mg x = some (.ref f)) (hk : PySem.W.keepIn X.K (.ref f) = true) (hb : Binds X.K fd ps []) (ha : RA X cm (e :: es) mr) (hg : Gl X x := by rfl)
    (hdb : (x == ("__debug__" : Str)) = false := by decide) (he : starEach (e :: es) X.env = (false, eval e X.env) :: starEach es X.env := by rfl) (hpl : (backTo pos (starEach es X.env)).any (·.1) = false := by rfl) : RE X cm (.Call (.Name x p) (e :: es) [] pos) (mCall m mr) := by
  refine ⟨fun pins s σ H Q I q => ?_⟩
  obtain ⟨ρ, h, sw, w, h', rh, rs, e0, kk⟩ := q
  obtain ⟨ws, h1, e1, e2⟩ := bnd_ok e0
  refine wpAny_Call_Name_kw (ld_glob I hg hm ?_ hdb)
  refine PySem.W.callWith_K (h₀ := X.base) I.ok.mod.kin hk (thn (ha.run pos pins s σ H _ I ⟨ρ, h, sw, ws, h1, rh, rs, e1, fun ρ1 H1 vs l1 rh1 rv => (⟨ρ1, h1, ws, w, h', rh1, rv, e2, fun ρ2 H2 v l2 => kk ρ2 H2 v (l1.trans l2)⟩ : spM X.K cm m vs H1 Q fun _ _ _ => False)⟩) fun us s1 back => ?_) he hpl
  obtain ⟨vs, H1, I1, r, q⟩ := back
  exact ⟨I1.kIn, runG (E := fun _ _ _ => False) F hr gd hb I1 r q⟩
end
theorem efnG {P : Program} {w : World} {K : PySem.W.Frag} {mg : Str → Option Value} {base : Heap} {x qual : Str} {st : Stmt} {f : Addr} {fd : FuncData} {N ps : List Str} {k : Nat} {cm : Cm} {m : MS} (F : Fun K x qual st f fd) (S : FnScope N ps (defScope st))
    (hb : ∀ (cdv : Value) (A : Around) (outer : List Env) (s : Shared) (H : Hp) (E : XK), Room k (A.deeper (envOfC qual (defScope st) s.heap.objs.size f cdv)) → (A.deeper (envOfC qual (defScope st) s.heap.objs.size f cdv)).guards = some [] →
      RSs (cxOf CX0 P w K mg base N qual (defScope st) f cdv A outer s H E).nox cm (defBody st) m) :
    FnG P w K mg base CX0 (k + 1) f fd ps (spM K cm (mFn ps.length N.length m)) := by
  refine fnG_of F S (fun vs H Q E h => ?_) (fun cdv A outer s H vs Q E hr gd h => ?_)
  · obtain ⟨ρ, h, ws, w, h', rh, rs, e, k⟩ := h
    unfold mFn at e
    split at e
    · rw [← rs.length]
      assumption
    · cases e
  · refine ⟨_, PSs.nox (hb cdv A outer s H E hr gd), ?_⟩
    obtain ⟨ρ, h, ws, w, h', rh, rs, e, kk⟩ := h
    unfold mFn at e
    split at e
    · rename_i hl
      obtain ⟨fl, h1, e1, e2⟩ := bnd_ok e
      have q := relS_start (N := N) rs
      rw [hl] at q
      refine ⟨ρ, h, _, fl, h1, rh, q, e1, ?_⟩
      cases fl with
      | rt w' => cases e2; exact kk
      | nx s => cases e2; exact fun ρ' H' σ' l rh' _ => kk ρ' H' .non l rh' .non
      | bk s => cases e2
      | ct s => cases e2
    · cases e
end EL
set_option maxHeartbeats 2000000
/-! EL40: the law's own call, no guard being up. -/
namespace EL
open PySem PySem.Spec L2
open PyProof.Rows hiding St
section
variable {P : Program} {w : World} {K : PySem.W.Frag} {mg mb : Str → Option Value} {CX : CXT} {k : Nat} {fa a : Addr} {fd : FuncData} {x : Str} {sp : Sp} {t : Shared} {vs : List Value} {ns : List Int}
/-- what the law's call must come to -/
def Comes (t : Shared) : Result → Shared → Prop := fun r s' => r = .ok (.ret (.bool true)) ∧ OldK t.heap s'.heap ∧ s'.os = t.os ∧ AllBare s'.gens
theorem core_G (KX : K.In t.heap) (hns : t.heap.Ns mainGlobals mg) (hb : t.heap.Ns builtinsNs mb) (hbb : ∀ x : Str, x ≠ "__name__" → mb x = bootBuiltins x) (hlim : t.heap.NoLimit) (hg : t.gens = #[]) (ha : t.heap.get? a = some { cls := .type "list", data := .seq vs.toArray }) (hr : Room k callerA)
    (F : ∀ base : Heap, K.In base → base.Ns mainGlobals mg → FnG P w K mg base CX k fa fd [x] sp) (hbind : ∀ (s : Shared) (u : Value), BindsTo s fd ⟨[u], []⟩ [(x, u)]) (hCX : ∀ H e s', CX [] H t (fun _ _ _ => False) e s' → False)
    (H : Hp) (hO : Only H) (hok : HOk P w H t.heap) (hA : ∀ b, H b ≠ none → b = a) (hK : H a ≠ none → K.lookup a = none) (wish : sp [.ref a] H (fun v _ => v = .bl true) fun _ _ _ => False) :
    codeAny (model P w) callerA (.call (.ref fa) ⟨[.ref a], []⟩) (Comes t) t := by
  have low : ∀ {b : Addr} {o : Obj}, t.heap.get? b = some o → H b = none → (hidT t.heap H).get? b = some o := fun e n => hidT_get e n
  have dic : ∀ {b : Addr} {o : Obj} {es : Array DictEntry} {ep : Nat}, t.heap.get? b = some o → o.data = .dict es ep → H b = none := fun {b o es ep} e d => by
    by_cases q : H b = none
    · exact q
    · have eb := hA b q
      subst eb
      rw [ha] at e
      cases e
      have d2 : Data.seq vs.toArray _ = Data.dict es ep := d
      cases d2
  have nsp : ∀ {b : Addr} {m : Str → Option Value}, t.heap.Ns b m → (hidT t.heap H).Ns b m := fun {b m} z => by
    obtain ⟨o, es, ep, e, d, r⟩ := z
    exact ⟨o, es, ep, low e (dic e d), d, r⟩
  have kin : K.In (hidT t.heap H) := fun b o e => by
    refine low (KX b o e) ?_
    by_cases q : H b = none
    · exact q
    · have eb := hA b q
      subst eb
      rw [hK q] at e
      cases e
  have lim : (hidT t.heap H).NoLimit := by
    obtain ⟨mc, h1, h2⟩ := hlim
    exact ⟨mc, nsp h1, h2⟩
  have e0 : Env0 P w K mg (hidT t.heap H) callerA [] t H :=
    ⟨rfl, ⟨kin, nsp hns, ⟨mb, nsp hb, hbb⟩, lim⟩, fun b o e => of_hidT e, Nat.le_of_eq (hidT_size _ _), trivial, (fun b z => by cases (show b ∈ ([] : List Addr) from z)), hok, .of_eq hg⟩
  have go := (F _ kin (nsp hns)).run callerA [] t H ⟨[.ref a], []⟩ [.ref a] [.ref a] _ _ hr rfl e0 (hbind t (.ref a)) (.cons rfl .nil) wish
  refine codeAny_mono go fun r s' back => ?_
  rcases r with e | fl
  · exact (hCX H e s' back).elim
  rcases fl with _ | _ | _ | u
  · exact back.elim
  · exact back.elim
  · exact back.elim
  obtain ⟨v, H', os, bare, un, hok', rv, ev⟩ := back
  have ev' : v = .bl true := ev
  subst ev'
  obtain rfl : u = Value.bool true := rv
  refine ⟨rfl, OldK.of_keep fun b o e => ?_, os, bare⟩
  rcases hO b with z | ⟨ob, xs, z⟩
  · exact un.keep b o e z (fun m => by cases (show b ∈ ([] : List Addr) from m)) (fun m => by cases m)
  · obtain ⟨e1, _⟩ := hok b _ z
    obtain ⟨e2, _⟩ := hok' b _ (un.frzs b ob _ z)
    rw [e] at e1
    cases e1
    exact e2
end
end EL
set_option maxHeartbeats 2000000
/-! EL41: the end of a law whose def is FnG. -/
namespace EL
open PySem PySem.Spec L2
open PyProof.Rows hiding St
theorem call_G {P : Program} {w : World} {K : PySem.W.Frag} {mg mb : Str → Option Value} {CX : CXT} {k : Nat} {fa a : Addr} {fd : FuncData} {x : Str} {sp : Sp} {t : Shared} {vs : List Value} {ns : List Int} (KX : K.In t.heap) (hns : t.heap.Ns mainGlobals mg) (hb : t.heap.Ns builtinsNs mb) (hbb : ∀ x : Str, x ≠ "__name__" → mb x = bootBuiltins x) (hlim : t.heap.NoLimit) (hg : t.gens = #[])
    (ha : t.heap.get? a = some { cls := .type "list", data := .seq vs.toArray }) (hi : IntsAre vs ns) (hl : ns.length ≤ sizeLine) (hr : Room k callerA)
    (F : ∀ base : Heap, K.In base → base.Ns mainGlobals mg → FnG P w K mg base CX k fa fd [x] sp) (hbind : ∀ (s : Shared) (u : Value), BindsTo s fd ⟨[u], []⟩ [(x, u)])
    (hsp : ∀ H : Hp, Only H → SqL K H a (ns.map V.int) → sp [.ref a] H (fun v _ => v = .bl true) fun _ _ _ => False) (hCX : ∀ H e s', CX [] H t (fun _ _ _ => False) e s' → False) :
    codeAny (model P w) callerA (.call (.ref fa) ⟨[.ref a], []⟩) (Comes t) t := by
  have rv := vals_ints hi
  have lv := hi.length
  by_cases hk : K.lookup a = none
  · let H : Hp := fun b => if b = a then some (.frz { cls := .type "list", data := .seq vs.toArray } (.lst (ns.map V.int))) else none
    have at_ : H a = some (.frz { cls := .type "list", data := .seq vs.toArray } (.lst (ns.map V.int))) := if_pos rfl
    have off : ∀ b, b ≠ a → H b = none := fun b z => if_neg z
    have only : Only H := fun b => by
      by_cases z : b = a
      · subst z
        exact .inr ⟨_, _, at_⟩
      · exact .inl (off b z)
    refine core_G KX hns hb hbb hlim hg ha hr F hbind hCX H only (fun b u z => ?_) (fun b z => ?_) (fun _ => hk) (hsp H only (.inl (.inr ⟨_, at_⟩)))
    · by_cases y : b = a
      · subst y
        rw [at_] at z
        cases z
        exact ⟨ha, by rw [List.length_map]; exact hl, vs, _, rv, ha⟩
      · rw [off b y] at z
        cases z
    · by_cases y : b = a
      · exact y
      · exact absurd (off b y) z
  · obtain ⟨o, ho⟩ := Option.ne_none_iff_exists'.mp hk
    have e := KX a o ho
    rw [ha] at e
    cases e
    have only : Only fun _ => none := fun _ => .inl rfl
    exact core_G KX hns hb hbb hlim hg ha hr F hbind hCX (fun _ => none) only (fun b u z => by cases (show (none : Option HO) = some u from z)) (fun b z => absurd rfl z) (fun z => absurd rfl z)
      (hsp _ only (.inr ⟨_, vs.toArray, _, ho, rfl, rfl, rfl, by rw [List.size_toArray, lv]; exact hl, by simpa using rv⟩))
end EL
namespace EL
open PySem PySem.Spec L2
open PyProof.Rows hiding St
theorem walkG {l : PySem.W.OpenLaw} {n k : Nat} {q : Program} {loose : List Str} {XP : (Str → Option Value) → Heap → Prop} {YP : World → Heap → Prop} {d : DefRec} {K : Params → PySem.W.Frag} {CX : World → CXT} {sp : World → Sp} {x : Str} (most : l.most = some n) (small : n ≤ sizeLine) (plain : d.params.defaults = []) (room : Room k callerA)
    (written : ∀ (w : World) (h : Heap), YP w h → (K w.params).In h)
    (F : ∀ (w : World) (mg : Str → Option Value) (fa : Addr) (h : Heap), (K w.params).In h → h.Ns mainGlobals mg → mg d.name = some (.ref fa) → ∃ fd : FuncData, (∀ (s : Shared) (u : Value), BindsTo s fd ⟨[u], []⟩ [(x, u)]) ∧
      ∀ base : Heap, (K w.params).In base → base.Ns mainGlobals mg → FnG l.prog w (K w.params) mg base (CX w) k fa fd [x] (sp w))
    (wish : ∀ (w : World) (H : Hp) (a : Addr) (ns : List Int), ns.length ≤ n → Only H → SqL (K w.params) H a (ns.map V.int) → sp w [.ref a] H (fun v _ => v = .bl true) fun _ _ _ => False)
    (calm : ∀ (w : World) (H : Hp) (s : Shared) (e : Value) (s' : Shared), CX w [] H s (fun _ _ _ => False) e s' → False) : PySem.W.WalkO q loose XP YP l.row.toRowW d [] (fun f vs => PySem.call f vs) := by
  refine Att.attach_call most plain fun w s0 s1 mg mb fa o pm cd doc a vs ns G Y ho hd hcd hmg hobj hints hlen hg => ?_
  obtain ⟨fd, hb, hF⟩ := F w mg fa _ (written w _ Y) G.T.g hmg
  exact call_G (written w _ Y) G.T.g G.T.b G.T.builtins G.T.nolimit hg hobj hints (Nat.le_trans hlen small) room hF hb (fun H hO hS => wish w H a ns hlen hO hS) fun H e s' => calm w H s1 e s'
end EL
set_option maxHeartbeats 2000000
/-! EL42: defs that raise or try, where no guard is up. -/
namespace EL
open PySem PySem.Spec L2
open PyProof.Rows hiding St
abbrev FnYG (P : Program) (w : World) (K : PySem.W.Frag) (mg : Str → Option Value) (base : Heap) (cm : Cm) (k : Nat) (f : Addr) (fd : FuncData) (ps : List Str) (m : List W → M W) : Prop := FnG P w K mg base (L2.CX P w) k f fd ps (spY K cm m)
theorem FnG.calm {P : Program} {w : World} {K : PySem.W.Frag} {mg : Str → Option Value} {base : Heap} {cm : Cm} {k : Nat} {f : Addr} {fd : FuncData} {ps : List Str} {m : List W → M W} (F : FnYG P w K mg base cm k f fd ps m) : FnG P w K mg base CX0 k f fd ps (spM K cm m) := by
  have up : ∀ {vs H Q} {E : XK}, spM K cm m vs H Q E → spY K cm m vs H Q fun _ _ _ => False := fun {vs H Q E} q => by
    obtain ⟨ρ, h, ws, w, h', rh, rs, e, k⟩ := q
    refine ⟨ρ, h, ws, rh, rs, ?_⟩
    rw [e]
    exact k
  refine ⟨fun vs H Q E q => F.len vs H Q _ (up q), fun A outer s H args us vs Q E hr gd he hb hv q => ?_⟩
  refine codeAny_mono (F.run A outer s H args us vs Q _ hr gd he hb hv (up q)) fun r s' z => ?_
  cases r with
  | ok fl => cases fl <;> exact z
  | error u =>
    obtain ⟨_, _, _, _, _, _, _, _, _, _, _, _, no⟩ := (show L2.CX P w outer H s (fun _ _ _ => False) u s' from z)
    exact no.elim
theorem efnYG {P : Program} {w : World} {K : PySem.W.Frag} {mg : Str → Option Value} {base : Heap} {x qual : Str} {st : Stmt} {f : Addr} {fd : FuncData} {N ps : List Str} {k : Nat} {cm : Cm} {m : MS} (F : Fun K x qual st f fd) (S : FnScope N ps (defScope st))
    (hb : ∀ (cdv : Value) (A : Around) (outer : List Env) (s : Shared) (H : Hp) (E : XK), Room k (A.deeper (envOfC qual (defScope st) s.heap.objs.size f cdv)) → (A.deeper (envOfC qual (defScope st) s.heap.objs.size f cdv)).guards = some [] → Tak (cxOf (L2.CX P w) P w K mg base N qual (defScope st) f cdv A outer s H E) E →
      YSs (cxOf (L2.CX P w) P w K mg base N qual (defScope st) f cdv A outer s H E) cm E (defBody st) m) :
    FnYG P w K mg base cm (k + 1) f fd ps (mFn ps.length N.length m) := by
  refine fnG_of F S (fun vs H Q E h => ?_) (fun cdv A outer s H vs Q E hr gd h => ?_)
  · obtain ⟨ρ, h, ws, rh, rs, o⟩ := h
    unfold mFn at o
    split at o
    · rw [← rs.length]
      assumption
    · exact o.elim
  · refine ⟨_, hb cdv A outer s H E hr gd (takes_of rfl rfl rfl rfl), ?_⟩
    obtain ⟨ρ, h, ws, rh, rs, o⟩ := h
    unfold mFn at o
    split at o
    · rename_i hl
      refine ⟨ρ, h, ws.map some ++ List.replicate (N.length - ps.length) none, rh, ?_, ?_⟩
      · have q := relS_start (N := N) rs
        rw [hl] at q
        exact q
      · unfold bnd at o
        cases e1 : m (ws.map some ++ List.replicate (N.length - ps.length) none) h with
        | no => rw [e1] at o; exact o
        | ex c v h' => rw [e1] at o; exact o
        | ok fl h1 =>
          rw [e1] at o
          cases fl with
          | rt w => exact o
          | nx s => exact fun ρ' H' σ' l rh' _ => o ρ' H' .non l rh' .non
          | bk s => exact o.elim
          | ct s => exact o.elim
    · exact o.elim
end EL
set_option maxHeartbeats 2000000
/-! EL43: repr of anything where the guards are known; an own __rmul__ behind a plain value. -/
namespace EL
open PySem PySem.Spec L2
open PyProof.Rows hiding St
theorem oReprA {X : Cx} (gd : X.A.guards = some []) (hu : X.A.units + 65 < cLine) : CallR X (.builtin "repr") (fun xs H Q => rRepr xs H Q ∨ rReprD X.K xs H Q) := fun pins s σ H xs us Q I r h => h.elim (oRepr pins s σ H xs us Q I r) (oReprD gd hu pins s σ H xs us Q I r)
end EL
namespace PySem.W
open PySem PySem.Calls PyProof.Rows
theorem fills_non_mul : fillsNumberSlot (.type "NoneType") "mul" = pure false := by
  unfold fillsNumberSlot
  simp only [typeLookup_type, builtinLookup_eq_fast]
  kernel_rfl
/-- the left kind has no such operator, or hands it on -/
structure Hands (prog : Program) (w : World) (s : Shared) (b : Value) (x : Addr) (T : String) : Prop where
  kind : Looks (model prog w) s.heap (typeOf b) (.type T)
  fill : fillsNumberSlot (.type T) "mul" = pure false ∨ (fillsNumberSlot (.type T) "mul" = pure true ∧ ∀ (n : Str), n = PySem.dunder "mul" → ∀ (A : Around) (E : Value → Shared → Prop) (Q : Option Value → Shared → Prop), Q none s → wpAny (model prog w) A (tryMethod b n (.ref x)) Q E s)
section
variable {prog : Program} {w : World}
theorem int_mul_inst (a : Int) (t : Tok) (x C : Addr) (od : Option Addr) : Meets (Builtin.«int.__mul__» ⟨[.int a t, .ref x], []⟩) (fun _ R s => (∃ dx, s.heap.get? x = some (instObj C dx)) ∧ R (.ok (.ret Value.notImplemented)) s) :=
  .of_wp fun prog w A R s h => by
    obtain ⟨hp, g, d, tk, os⟩ := s
    obtain ⟨⟨dx, hl⟩, h⟩ := h
    unfold instObj at hl
    wp_walk
    exact ⟨_, rfl, h⟩
theorem bool_mul_inst (a : Bool) (x C : Addr) : Meets (Builtin.«int.__mul__» ⟨[.bool a, .ref x], []⟩) (fun _ R s => (∃ dx, s.heap.get? x = some (instObj C dx)) ∧ R (.ok (.ret Value.notImplemented)) s) :=
  .of_wp fun prog w A R s h => by
    obtain ⟨hp, g, d, tk, os⟩ := s
    obtain ⟨⟨dx, hl⟩, h⟩ := h
    unfold instObj at hl
    wp_walk
    exact ⟨_, rfl, h⟩
end
theorem hands_int {prog : Program} {w : World} {s : Shared} {x C dx : Addr} (i : Int) (t : Tok) (h : s.heap.get? x = some (instObj C dx)) : Hands prog w s (.int i t) x "int" where
  kind := .of_pure rfl
  fill := .inr ⟨F.fills_int_mul, fun n hn A E Q q => by
    have sl : Slot "int" n "int.__mul__" := by rw [hn]; exact F.slot_int_mul
    have a := F.args_int_mul_2 (.int i t) (.ref x)
    have b := call_meets (prog := prog) (w := w) (A := A) (E := E) (s := s) (Q := fun v s' => v = .notImplemented ∧ Q none s') F.slot_int_mul (typeIs_int s i t) F.entry_int_mul a (int_mul_inst i t x C none)
    refine wpAny_tryMethod_declines (typeIs_int s i t) sl ?_
    apply b
    exact ⟨⟨dx, h⟩, rfl, q⟩⟩
theorem typeIs_bl (s : Shared) (b : Bool) : s.TypeIs (.bool b) "bool" := rfl
theorem hands_bool {prog : Program} {w : World} {s : Shared} {x C dx : Addr} (i : Bool) (h : s.heap.get? x = some (instObj C dx)) : Hands prog w s (.bool i) x "bool" where
  kind := .of_pure rfl
  fill := .inr ⟨F.fills_bool_mul, fun n hn A E Q q => by
    have sl : Slot "bool" n "int.__mul__" := by rw [hn]; exact F.slot_bool_mul
    have a := F.args_int_mul_2 (.bool i) (.ref x)
    have b := call_meets (prog := prog) (w := w) (A := A) (E := E) (s := s) (Q := fun v s' => v = .notImplemented ∧ Q none s') F.slot_bool_mul (typeIs_bl s i) F.entry_int_mul a (bool_mul_inst i x C)
    refine wpAny_tryMethod_declines (typeIs_bl s i) sl ?_
    apply b
    exact ⟨⟨dx, h⟩, rfl, q⟩⟩
theorem hands_non {prog : Program} {w : World} {s : Shared} {x : Addr} : Hands prog w s .none x "NoneType" where
  kind := .of_pure rfl
  fill := .inl fills_non_mul
theorem hands_str {prog : Program} {w : World} {s : Shared} {x : Addr} (y : Str) (t : Tok) : Hands prog w s (.str y t) x "str" where
  kind := .of_pure rfl
  fill := .inl noFill_str_mul
/-- an own __rmul__ behind a plain value -/
theorem own_rmul {prog : Program} {w : World} {A : Around} {E : Value → Shared → Prop} {s : Shared} {K : Frag} {x C L f g : Addr} {h₀ : Heap} {m : Str → Option Value} {ox : Obj} {od : Option Obj} {T : String} {b : Value} {Q : Value → Shared → Prop}
    (F : Fr h₀ L s.heap m) (X₀ : K.In h₀) (I : InstAt s.heap x ox C od) (hand : Hands prog w s b x T) (first : selfFirst K C = true) (own : findIn K (.ref C) (PySem.dunder "mul") = some (some (.ref g))) (mine : findIn K (.ref C) (dunderR "mul") = some (some (.ref f))) (fn : isFn K (.ref f) = true)
    (no : subIn K (.ref C) (.type T) = some false) (h : wpAny (model prog w) A (call (.ref f) [.ref x, b]) (CmpBack Q) E s) : wpAny (model prog w) A (binaryOp .Mult b (.ref x)) Q E s := by
  have X := X₀.keeps F.keep
  obtain ⟨cd, rest, hcd, hm⟩ := ksp_first first
  have made := ksp_try X I mine fn h
  obtain ⟨kind, fill⟩ := hand
  obtain ⟨hh, gs, dr, tk, os⟩ := s
  have K1 : Looks (model prog w) hh (typeOf (.ref x)) (.ref C) := I.type
  have K2 : Looks (model prog w) hh (fillsNumberSlot (.ref C) "mul") true := fills_K (M := model prog w) X hcd hm own
  have K4 : Looks (model prog w) hh (isSubtype (.ref C) (.type T)) false := looks_subIn X no
  have K6 : Looks (model prog w) hh (numberSlotInPython (.type T) "mul") false := .of_pure rfl
  have apart : (Value.type T == Value.ref C) = false := Bool.eq_false_iff.mpr fun z => nomatch beq_iff_eq.mp z
  have info : Operator.info .Mult = ("*", "mul") := rfl
  simp only [binaryOp, info]
  refine wpAny_holding (wpAny_bind ?_)
  unfold binaryOp1
  refine wpAny_bind (kind.at (wpAny_bind (K1.at ?_)))
  rcases fill with fl | ⟨fl, de⟩
  · have K3 : Looks (model prog w) hh (fillsNumberSlot (.type T) "mul") false := .of_pure fl
    refine wpAny_bind (K3.at ?_)
    simp only [apart, if_false, Bool.false_eq_true]
    ksp_lk
    refine wpAny_mono made (fun r s' z => ?_) fun _ _ e => e
    obtain ⟨v, rfl, q⟩ := z
    ksp_lk
    exact q
  · have K3 : Looks (model prog w) hh (fillsNumberSlot (.type T) "mul") true := .of_pure fl
    refine wpAny_bind (K3.at ?_)
    simp only [apart, if_false, Bool.false_eq_true]
    ksp_lk
    refine de _ rfl _ _ _ ?_
    ksp_lk
    refine wpAny_mono made (fun r s' z => ?_) fun _ _ e => e
    obtain ⟨v, rfl, q⟩ := z
    ksp_lk
    exact q
end PySem.W
namespace EL
open PySem PySem.Spec L2
open PyProof.Rows hiding St
def plainW : W → Bool
  | .int _ | .bl _ | .non | .str _ => true
  | _ => false
def plainV (v : V) : Prop := (∃ i, v = .int i) ∨ (∃ b, v = .bl b) ∨ v = .non ∨ ∃ x, v = .str x
/-- y * x, x an instance with an own __rmul__ -/
def fRmul (C : Str) (f : List W → M W) : W → W → M W := fun y x h => if (plainW y && insB h x C) = true then f [x, y] h else .no
def rRmul (C : Addr) (sp : Sp) (E : XK) : R2 := fun y x H Q => plainV y ∧ ∃ a dx fs, x = .ref a ∧ H a = some (.ins C dx fs) ∧ sp [x, y] H Q E
/-- what a class must say of its __rmul__ -/
structure RmF (K : PySem.W.Frag) (C : Addr) : Prop where
  first : PySem.W.selfFirst K C = true
  own : ∃ g : Addr, PySem.W.findIn K (.ref C) (PySem.dunder "mul") = some (some (.ref g))
  i : PySem.W.subIn K (.ref C) (.type "int") = some false
  b : PySem.W.subIn K (.ref C) (.type "bool") = some false
  n : PySem.W.subIn K (.ref C) (.type "NoneType") = some false
  s : PySem.W.subIn K (.ref C) (.type "str") = some false
theorem op_rmulY {X : Cx} {k : Nat} {f C : Addr} {fd : FuncData} {ps : List Str} {sp : Sp} {E : XK} (G0 : FnOk X.prog X.w X.K X.mg X.base (L2.CX X.prog X.w) k f fd ps sp) (hr : Room k X.A) (hb : Binds X.K fd ps []) (tk : Tak X E)
    (R0 : RmF X.K C) (hs : PySem.W.findIn X.K (.ref C) (dunderR "mul") = some (some (.ref f))) (hf : PySem.W.isFn X.K (.ref f) = true) : OpR X (binaryOp .Mult) (rRmul C sp E) := by
  intro pins s σ H y x u v Q I ry rx hq
  obtain ⟨py, a, dx, fs, rfl, ea, h⟩ := hq
  cases (show v = Value.ref a from rx)
  obtain ⟨od, J⟩ := inst_of I ea
  obtain ⟨m, hF⟩ := I.fr
  obtain ⟨g, hg⟩ := R0.own
  have at0 : s.heap.get? a = some (PySem.W.instObj C dx) := (I.hok a _ ea).2.2.2.1
  have run : wpAny (model X.prog X.w) X.A (call (.ref f) [.ref a, u]) (PySem.W.CmpBack (EP X pins σ Q)) X.xe s := wpAny_mono (runY G0 ⟨hr, rfl⟩ hb tk I (.cons rx (.cons ry .nil)) h) (fun r s' q => by
    obtain ⟨z, H', I', rz, q⟩ := q
    exact back_of (rel_ni rz) ⟨z, H', I', rz, q⟩) fun _ _ e => e
  rcases py with ⟨i, rfl⟩ | ⟨i, rfl⟩ | rfl | ⟨i, rfl⟩
  · obtain ⟨t, rfl⟩ := (show ∃ t, u = Value.int i t from ry)
    exact PySem.W.own_rmul hF I.ok.mod.kin J (PySem.W.hands_int i t at0) R0.first hg hs hf R0.i run
  · obtain rfl : u = Value.bool i := ry
    exact PySem.W.own_rmul hF I.ok.mod.kin J (PySem.W.hands_bool i at0) R0.first hg hs hf R0.b run
  · obtain rfl : u = Value.none := ry
    exact PySem.W.own_rmul hF I.ok.mod.kin J PySem.W.hands_non R0.first hg hs hf R0.n run
  · obtain ⟨t, rfl⟩ := (show ∃ t, u = Value.str i t from ry)
    exact PySem.W.own_rmul hF I.ok.mod.kin J (PySem.W.hands_str i t) R0.first hg hs hf R0.s run
section
variable {X : Cx} {cm : Cm} {E : XK} {a b : Expr} {ma mb : ME} {pos : Pos} {C : Str} {f : List W → M W}
theorem plain_of {y : W} {v : V} {K : PySem.W.Frag} {ρ : List Addr} {H : Hp} (r : Rel K ρ H y v) (e : plainW y = true) : plainV v := by
  cases r with
  | non => exact .inr (.inr (.inl rfl))
  | bl b => exact .inr (.inl ⟨b, rfl⟩)
  | int i => exact .inl ⟨i, rfl⟩
  | str x => exact .inr (.inr (.inr ⟨x, rfl⟩))
  | ref _ => cases e
  | tup _ _ => cases e
  | rol _ _ => cases e
theorem ye_rmul (ho : OpR X (binaryOp .Mult) (rRmul (cm C) (spY X.K cm f) E)) (ra : RE X cm a ma) (rb : RE X cm b mb) : YE X cm E (.BinOp a .Mult b pos) (mBin (fRmul C f) (noX ma) (noX mb)) :=
  peM (pe_op ho ra rb) fun σ H Q q => by
    obtain ⟨ρ, h, sw, rh, rs, o⟩ := q
    obtain ⟨y, h1, e1, o⟩ := nx_out o
    obtain ⟨x, h2, e2, o⟩ := nx_out o
    refine ⟨ρ, h, sw, y, h1, rh, rs, e1, fun ρ1 H1 y' l1 rh1 ry => ⟨ρ1, h1, sw, x, h2, rh1, rs.mono l1, e2, fun ρ2 H2 x' l2 rh2 rx => ?_⟩⟩
    have ry2 := ry.mono l2
    unfold fRmul at o
    split at o
    · rename_i c
      obtain ⟨c1, c2⟩ := Bool.and_eq_true_iff.mp c
      obtain ⟨p, ad, dx, fv, rfl, rfl, hp, ea⟩ := insB_of rh2 rx c2
      exact ⟨plain_of ry2 c1, ad, dx, fv, rfl, ea, ρ2, h2, _, rh2, .cons rx (.cons ry2 .nil), OutE.le (l1.trans l2) o⟩
    · exact o.elim
end
theorem FnG.imp {P : Program} {w : World} {K : PySem.W.Frag} {mg : Str → Option Value} {base : Heap} {CX : CXT} {k : Nat} {f : Addr} {fd : FuncData} {ps : List Str} {sp sp' : Sp} (F : FnG P w K mg base CX k f fd ps sp) (i : ∀ vs H Q E, sp' vs H Q E → sp vs H Q E) : FnG P w K mg base CX k f fd ps sp' :=
  ⟨fun vs H Q E h => F.len vs H Q E (i _ _ _ _ h), fun A outer s H args us vs Q E hr gd he hb hv h => F.run A outer s H args us vs Q E hr gd he hb hv (i _ _ _ _ h)⟩
theorem law_impG {P : Program} {w : World} {K : PySem.W.Frag} {mg : Str → Option Value} {base : Heap} {cm : Cm} {k : Nat} {f : Addr} {fd : FuncData} {ps : List Str} {m : List W → M W} (F : FnG P w K mg base CX0 k f fd ps (spM K cm m))
    (T : ∀ ns : List Int, ns.length ≤ 63 → ∃ h', m [.rol (ns.map W.int)] [] = .ok (.bl true) h') : FnG P w K mg base CX0 k f fd ps (spLaw K) := F.imp fun vs H Q E h => by
  obtain ⟨a, ns, rfl, hO, hS, hl, q⟩ := h
  obtain ⟨h', e⟩ := T ns hl
  have hp : SqP K H a (ns.map V.int) := by
    rcases hS with (hS | hS) | hS
    · rcases hO a with z | ⟨o, xs, z⟩
      · rw [z] at hS; cases hS
      · rw [z] at hS; cases hS
    · exact .inl hS
    · exact .inr hS
  refine ⟨[], [], [.rol (ns.map W.int)], .bl true, h', ⟨rfl, .nil, fun i o a e => by simp at e⟩, .cons (.rol hp (.ints ns)) .nil, e, fun ρ' H' v l rh r => ?_⟩
  cases r
  exact q H'
end EL
set_option maxHeartbeats 2000000
/-! EL44: own operators beside other kinds that raise nothing; an own item that raises. -/
namespace EL
open PySem PySem.Spec L2
open PyProof.Rows hiding St
theorem op_binC {X : Cx} {op : Operator} {k : Nat} {f C : Addr} {fd : FuncData} {ps : List Str} {sp : Sp} {tys : List String} (G0 : FnOk X.prog X.w X.K X.mg X.base CX0 k f fd ps sp) (hr : Room k X.A) (hb : Binds X.K fd ps [])
    (hc : PySem.W.selfFirst X.K C = true) (hs : PySem.W.findIn X.K (.ref C) (PySem.dunder op.info.2) = some (some (.ref f))) (hf : PySem.W.isFn X.K (.ref f) = true) (hn : ∀ n ∈ tys, BinF X.K C op n) : OpR X (binaryOp op) (rOwn X.K C tys sp) := by
  intro pins s σ H x y v u Q I rx ry hq
  obtain ⟨a, dx, fs, t, rfl, ea, ty, ht, h⟩ := hq
  cases (show v = Value.ref a from rx)
  obtain ⟨od, J⟩ := inst_of I ea
  obtain ⟨m, hF⟩ := I.fr
  have run : wpAny (model X.prog X.w) X.A (call (.ref f) [.ref a, u]) (PySem.W.CmpBack (EP X pins σ Q)) X.xe s := wpAny_mono (run_own G0 ⟨hr, rfl⟩ hb I (.cons rx (.cons ry .nil)) h) (fun r s' q => by
    obtain ⟨z, H', I', rz, q⟩ := q
    exact back_of (rel_ni rz) ⟨z, H', I', rz, q⟩) fun _ _ e => e
  have LT := ty.looks I ry
  rcases ht with rfl | ⟨n, hm, rfl⟩
  · exact PySem.W.binop_K (op := op) hF I.ok.mod.kin J LT hc hs hf run
  · obtain ⟨⟨rc, b1, b2⟩, ⟨fo, b3⟩, ⟨ro, b4⟩, b5⟩ := hn n hm
    exact PySem.W.own_bin hF I.ok.mod.kin J LT hc hs hf b1 b2 b3 b4 b5 run
theorem op_rmulC {X : Cx} {k : Nat} {f C : Addr} {fd : FuncData} {ps : List Str} {sp : Sp} (G0 : FnOk X.prog X.w X.K X.mg X.base CX0 k f fd ps sp) (hr : Room k X.A) (hb : Binds X.K fd ps [])
    (R0 : RmF X.K C) (hs : PySem.W.findIn X.K (.ref C) (dunderR "mul") = some (some (.ref f))) (hf : PySem.W.isFn X.K (.ref f) = true) : OpR X (binaryOp .Mult) (rRmul C sp fun _ _ _ => False) := by
  intro pins s σ H y x u v Q I ry rx hq
  obtain ⟨py, a, dx, fs, rfl, ea, h⟩ := hq
  cases (show v = Value.ref a from rx)
  obtain ⟨od, J⟩ := inst_of I ea
  obtain ⟨m, hF⟩ := I.fr
  obtain ⟨g, hg⟩ := R0.own
  have at0 : s.heap.get? a = some (PySem.W.instObj C dx) := (I.hok a _ ea).2.2.2.1
  have run : wpAny (model X.prog X.w) X.A (call (.ref f) [.ref a, u]) (PySem.W.CmpBack (EP X pins σ Q)) X.xe s := wpAny_mono (run_own G0 ⟨hr, rfl⟩ hb I (.cons rx (.cons ry .nil)) h) (fun r s' q => by
    obtain ⟨z, H', I', rz, q⟩ := q
    exact back_of (rel_ni rz) ⟨z, H', I', rz, q⟩) fun _ _ e => e
  rcases py with ⟨i, rfl⟩ | ⟨i, rfl⟩ | rfl | ⟨i, rfl⟩
  · obtain ⟨t, rfl⟩ := (show ∃ t, u = Value.int i t from ry)
    exact PySem.W.own_rmul hF I.ok.mod.kin J (PySem.W.hands_int i t at0) R0.first hg hs hf R0.i run
  · obtain rfl : u = Value.bool i := ry
    exact PySem.W.own_rmul hF I.ok.mod.kin J (PySem.W.hands_bool i at0) R0.first hg hs hf R0.b run
  · obtain rfl : u = Value.none := ry
    exact PySem.W.own_rmul hF I.ok.mod.kin J PySem.W.hands_non R0.first hg hs hf R0.n run
  · obtain ⟨t, rfl⟩ := (show ∃ t, u = Value.str i t from ry)
    exact PySem.W.own_rmul hF I.ok.mod.kin J (PySem.W.hands_str i t) R0.first hg hs hf R0.s run
def rIxY (C : Addr) (sp : Sp) (E : XK) : R2 := fun x y H Q => ∃ a dx fs, x = .ref a ∧ H a = some (.ins C dx fs) ∧ sp [x, y] H Q E
theorem ix_ownY {X : Cx} {k : Nat} {f C : Addr} {fd : FuncData} {ps : List Str} {sp : Sp} {E : XK} (G0 : FnOk X.prog X.w X.K X.mg X.base (L2.CX X.prog X.w) k f fd ps sp) (hr : Room (k + 1) X.A) (hb : Binds X.K fd ps []) (tk : Tak X E)
    (hs : PySem.W.findIn X.K (.ref C) "__getitem__" = some (some (.ref f))) (hf : PySem.W.fnIn X.K f = true) (hfn : PySem.W.isFn X.K (.ref f) = true) {slice : Expr} (hsl : ∀ o i, subscripted slice true o i = runValue (.builtin "lifetime.subscript" ⟨[o, i], []⟩)) :
    ∀ (value : Expr) (pins : List (Addr × Obj)) (s : Shared) (σ : St) (H : Hp) (x y : V) (v u : Value) (Q : VK), Inv X pins σ H s → RelV x v → RelV y u → rIxY C sp E x y H Q → wpAny (model X.prog X.w) X.A (subscriptTail value slice v u) (EP X pins σ Q) X.xe s := by
  intro value pins s σ H x y v u Q I rx ry hq
  obtain ⟨a, dx, fs, rfl, ea, h⟩ := hq
  cases (show v = Value.ref a from rx)
  obtain ⟨od, J⟩ := inst_of I ea
  obtain ⟨m, hF⟩ := I.fr
  exact PySem.W.sub_K hF I.ok.mod.kin J hs hf hfn (runY G0 (Sub.in1 ⟨hr, rfl⟩) hb tk I (.cons rx (.cons ry .nil)) h) (hsl _ _)
section
variable {X : Cx} {cm : Cm} {E : XK} {a b : Expr} {ma mb : ME} {pos : Pos} {C : Str} {f : List W → M W}
theorem wRmul : OpW X.K cm (rRmul (cm C) (spM X.K cm f) fun _ _ _ => False) (fRmul C f) := by
  intro ρ h H y x y' x' z h' Q rh ry rx e k
  unfold fRmul at e
  split at e
  · rename_i c
    obtain ⟨c1, c2⟩ := Bool.and_eq_true_iff.mp c
    obtain ⟨p, ad, dx, fv, rfl, rfl, hp, ea⟩ := insB_of rh rx c2
    exact ⟨plain_of ry c1, ad, dx, fv, rfl, ea, own2 rh (.cons rx (.cons ry .nil)) e k⟩
  · cases e
theorem ye_ixO {k : Nat} {g : Addr} {fd : FuncData} {ps : List Str} (G0 : FnY X.prog X.w X.K X.mg X.base cm k g fd ps f) (hr : Room (k + 1) X.A) (hb : Binds X.K fd ps []) (tk : Tak X E)
    (hs : PySem.W.findIn X.K (.ref (cm C)) "__getitem__" = some (some (.ref g))) (hf : PySem.W.fnIn X.K g = true) (hfn : PySem.W.isFn X.K (.ref g) = true) (ra : RE X cm a ma) (rb : RE X cm b mb)
    (hsl : ∀ o i, subscripted b true o i = runValue (.builtin "lifetime.subscript" ⟨[o, i], []⟩) := by exact fun _ _ => rfl) : YE X cm E (.Subscript a b pos) (mBin (fOwnIx C f) (noX ma) (noX mb)) := by
  refine peM (t := tOp (rIxY (cm C) (spY X.K cm f) E) (tE X.K cm ma) (tE X.K cm mb)) ⟨fun pins s σ H Q I q => ?_⟩ fun σ H Q q => ?_
  · exact Subscript_ (binT ra rb I q fun v u s2 x y H2 I2 rx ry q => ix_ownY G0 hr hb tk hs hf hfn hsl a pins s2 σ H2 x y v u Q I2 rx ry q)
  · obtain ⟨ρ, h, sw, rh, rs, o⟩ := q
    obtain ⟨x, h1, e1, o⟩ := nx_out o
    obtain ⟨y, h2, e2, o⟩ := nx_out o
    refine ⟨ρ, h, sw, x, h1, rh, rs, e1, fun ρ1 H1 x' l1 rh1 rx => ⟨ρ1, h1, sw, y, h2, rh1, rs.mono l1, e2, fun ρ2 H2 y' l2 rh2 ry => ?_⟩⟩
    have rx2 := rx.mono l2
    unfold fOwnIx at o
    split at o
    · rename_i c
      obtain ⟨p, ad, dx, fv, rfl, rfl, hp, ea⟩ := insB_of rh2 rx2 c
      exact ⟨ad, dx, fv, rfl, ea, ρ2, h2, _, rh2, .cons rx2 (.cons ry .nil), OutE.le (l1.trans l2) o⟩
    · exact o.elim
end
end EL
set_option maxHeartbeats 4000000
/-! EL45: own error classes made by a call with one keyword. -/
namespace EL
open PySem PySem.Spec L2
open PyProof.Rows hiding St
/-- the class is made by a call with one keyword -/
def MadeByK (nw : String) (tl : List Value) : Prop := ∀ {prog : Program} {w : World} {A : Around} {R : Result → Shared → Prop} {h : Heap} {g : Array GenState} {d : Drawn} {t : Nat} {os : OsState} {nm q : Str} {C N : Addr} {bs bm : List Value} {sn : List Str} {sub : List Value} {ab : Bool} {col : Option Bool} {dd : Option Addr} {k0 k1 k2 k3 k5 : Option Value} {n : Str} {u : Value} {fI : Addr},
  (∀ X : String, bm.contains (.type X) = tl.contains (.type X)) → h.get? C = some (excClassObj nm q C N bs bm true sn sub ab col dd k0 k1 k2 k3 k5 nw) → PySem.W.Looks (model prog w) h (typeLookup (.ref C) "__init__") (some (.ref fI)) → (∀ self, PySem.W.Looks (model prog w) h (bindSpecial (.ref fI) self) (.ref fI, [self])) →
  codeAny (model prog w) (A.under (.builtin "type.__call__" ⟨[.ref C], [(n, u)]⟩)) (.call (.ref fI) ⟨[.ref (h.objs.size + 1)], [(n, u)]⟩) (PySem.W.InitBack (h.objs.size + 1) R) ⟨(h.push (PySem.W.kdv_tup [])).push (PySem.HandSPX.excO C h.objs.size), g, d, t, os⟩ → codeAny (model prog w) A (.call (.ref C) ⟨[], [(n, u)]⟩) R ⟨h, g, d, t, os⟩
section
variable {prog : Program} {w : World} {A : Around} {R : Result → Shared → Prop} {E : Value → Shared → Prop} {h : Heap} {g : Array GenState} {d : Drawn} {t : Nat} {os : OsState} {nm q : Str} {C N : Addr} {bs bm bmB : List Value} {sn : List Str} {sub : List Value} {ab : Bool} {col : Option Bool} {dd : Option Addr} {k0 k1 k2 k3 k5 : Option Value} {n : Str} {u : Value} {fI : Addr} {B nw initId : String}
theorem kw_check (F : ExcBaseFacts B nw initId bmB) {M : Model} {Q : Unit → Shared → Prop} (hL : bm.contains (.type B) = true) (at_ : h.get? C = some (excClassObj nm q C N bs bm true sn sub ab col dd k0 k1 k2 k3 k5 nw)) (z : Q () ⟨h, g, d, t, os⟩) : wpAny M A (checkBuiltinCall nw ⟨[.ref C], [(n, u)]⟩) Q E ⟨h, g, d, t, os⟩ := by
  have star := F.noStar
  have has : (Value.ref C :: bm).contains (.type B) = true := by rw [List.contains_cons, hL, Bool.or_true]
  simp only [checkBuiltinCall, F.newKind, F.newSplit, F.newRow]
  repeat (first | refine wpAny_loadPart_at at_ ?_ | (refine wpAny_isSubtype_exc at_ ?_; rw [has]) | refine wpAny_staticBase_exc at_ ?_ | refine wpAny_madeBy_exc at_ ?_ | simp only [bne_self_eq_false, Bool.false_eq_true, if_false] | wp_step)
  exact z
theorem kw_new (F : ExcBaseFacts B nw initId bmB) (hL : bm.contains (.type B) = true) (hA : bm.contains (.type "AttributeError") = false) (hN : bm.contains (.type "NameError") = false) (at_ : h.get? C = some (excClassObj nm q C N bs bm true sn sub ab col dd k0 k1 k2 k3 k5 nw))
    (z : R (.ok (.ret (.ref (h.objs.size + 1)))) ⟨(h.push (PySem.W.kdv_tup [])).push (PySem.HandSPX.excO C h.objs.size), g, d, t, os⟩) : codeAny (model prog w) A (.builtin nw ⟨[.ref C], [(n, u)]⟩) R ⟨h, g, d, t, os⟩ := by
  have ends := F.ends
  have has : (Value.ref C :: bm).contains (.type B) = true := by rw [List.contains_cons, hL, Bool.or_true]
  have noA : (Value.ref C :: bm).contains (.type "AttributeError") = false := by rw [List.contains_cons, hA]; rfl
  have noN : (Value.ref C :: bm).contains (.type "NameError") = false := by rw [List.contains_cons, hN]; rfl
  refine codeAny_builtinAt F.entry ?_
  unfold Builtin.«BaseException.__new__»
  refine PySem.wpAt_bind ?_
  show PySem.wpAt _ _ _ (stack >>= _) _ _ _
  refine PySem.wpAt_bind (PySem.wpAt_stack fun p below => PySem.wpAt_of_wpAny ?_)
  wp_walk
  refine PySem.wpAt_of_wpAny ?_
  rw [F.owner]
  repeat (first | with_reducible refine wpAny_madeHere_exc F.canon at_ ?_ | with_reducible refine wpAny_loadPart_at at_ ?_ | (with_reducible refine wpAny_isSubtype_exc at_ ?_; first | rw [has] | rw [noA] | rw [noN]) | wp_step)
  show R _ _
  rw [Heap.size_push]
  exact z
end
theorem made_kw {B nw initId : String} {bmB tl : List Value} (F : ExcBaseFacts B nw initId bmB) (tL : tl.contains (.type B) = true) (tA : tl.contains (.type "AttributeError") = false) (tN : tl.contains (.type "NameError") = false) : MadeByK nw tl := by
  intro prog w A R h g d t os nm q C N bs bm sn sub ab col dd k0 k1 k2 k3 k5 n u fI hT at_ hi hb hq
  have hL : bm.contains (.type B) = true := by rw [hT]; exact tL
  have hA : bm.contains (.type "AttributeError") = false := by rw [hT]; exact tA
  have hN : bm.contains (.type "NameError") = false := by rw [hT]; exact tN
  have f1 := tc_lookup
  have f2 := tc_bind (.ref C)
  have ty : (⟨h, g, d, t, os⟩ : Shared).TypeIs (.ref C) "type" := ⟨_, at_, rfl⟩
  refine codeAny_of_tree ?_
  show wpAny _ _ (callAny (.ref C) _) _ _ _
  repeat (any_goals (first | assumption | with_reducible refine wpAny_loadPart_at at_ ?_ | wp_step))
  refine ⟨rfl, codeAny_call_builtin_at (Code.quiet_builtin _ (by decide +kernel)) entry_typeCall ?_⟩
  refine wpAny_check_type_call_sub at_ ?_
  repeat (first | with_reducible refine wpAny_loadPart_at at_ ?_ | with_reducible refine wpAny_madeBy_exc at_ ?_ | wp_step)
  refine codeAny_call_builtin_code (Code.quiet_builtin _ F.quiet) (kw_check F hL at_ (kw_new F hL hA hN at_ ?_))
  show wpAny _ _ _ _ _ _
  have kk : ∀ b o, h.get? b = some o → ((h.push (PySem.W.kdv_tup [])).push (PySem.HandSPX.excO C h.objs.size)).get? b = some o := fun b o e => Heap.get?_push_of_some _ (Heap.get?_push_of_some _ e)
  have at1 := kk _ _ at_
  have mine : ((h.push (PySem.W.kdv_tup [])).push (PySem.HandSPX.excO C h.objs.size)).get? (h.objs.size + 1) = some ({ cls := .ref C, data := .fields #[.ref h.objs.size, .none, .none, .none, .bool false, .none] } : Obj) := by heap_get
  have self : (Value.ref C :: bm).contains (.ref C) = true := by simp
  have i1 := hi.keeps kk
  have b1 := (hb (.ref (h.objs.size + 1))).keeps kk
  unfold isInstance
  repeat (first | with_reducible refine wpAny_loadPart_at mine ?_ | (refine wpAny_isSubtype_exc at1 ?_; rw [self]) | wp_step)
  show wpAny _ _ (typeLookup (.ref C) _) _ _ _
  refine i1.at (wpAny_holding (wpAny_bind (b1.at (wpAny_bind (wpAny_call (codeAny_mono hq fun r s' z => ?_))))))
  rcases r with e | (v | _ | _ | _) <;> first | exact z | exact z.elim | skip
  obtain ⟨rfl, z⟩ := z
  first
    | exact wpAny_pure (wpAny_pure z)
    | (wp_walk; exact z)
theorem famK_V : MadeByK "ValueError.__new__" [.type "ValueError", .type "Exception", .type "BaseException", .type "object"] := made_kw F.excBase_ValueError (by decide +kernel) (by decide +kernel) (by decide +kernel)
theorem famK_O : MadeByK "OverflowError.__new__" [.type "OverflowError", .type "ArithmeticError", .type "Exception", .type "BaseException", .type "object"] := made_kw F.excBase_OverflowError (by decide +kernel) (by decide +kernel) (by decide +kernel)
theorem famK_R : MadeByK "RuntimeError.__new__" [.type "RuntimeError", .type "Exception", .type "BaseException", .type "object"] := made_kw F.excBase_RuntimeError (by decide +kernel) (by decide +kernel) (by decide +kernel)
theorem famK_K : MadeByK "LookupError.__new__" [.type "KeyError", .type "LookupError", .type "Exception", .type "BaseException", .type "object"] := made_kw F.excBase_LookupError (by decide +kernel) (by decide +kernel) (by decide +kernel)
/-- one keyword is bound -/
theorem binds_kw1 {K : PySem.W.Frag} {x q n : Str} {st : Stmt} {f : Addr} {fd : FuncData} (F : Fun K x q st f fd)
    (h : ∀ (kV doc pm : Value) (an : Option Addr) (cdv ct a u : Value), bindArgs (PySem.W.fnOf x q (defArgs st) (defBody st) (defScope st) .none kV doc pm an cdv ct) ⟨[a], [(n, u)]⟩ = pure [(("self" : Str), a), (n, u)]) (s : Shared) (a u : Value) : BindsTo s fd ⟨[a], [(n, u)]⟩ [(("self" : Str), a), (n, u)] := by
  obtain ⟨oc, od, kV, doc, pm, an, cdv, ct, osl, rfl, lk, hcd⟩ := F.ex
  exact .of_eq (h kV doc pm an cdv ct a u)
end EL
set_option maxHeartbeats 4000000
/-! EL46: errors as values: made, read, asked for their class. -/
namespace EL
open PySem PySem.Spec L2
open PyProof.Rows hiding St

section
variable {X : Cx} {o e : Expr} {es : List Expr} {to te : TE} {ta : TA} {f : Str} {p p' pos : Pos}
/-- an error is made and kept -/
theorem mk_keep {pins : List (Addr × Obj)} {σ : St} {H1 H2 : Hp} {hp hp2 h2 : Heap} {g1 g2 : Array GenState} {d1 d2 : Drawn} {t1 t2 : Nat} {os1 os2 : OsState} {a C d : Addr} {fs : List (Str × V)} (I1 : Inv X pins σ H1 ⟨hp, g1, d1, t1, os1⟩)
    (ha : hp.objs.size ≤ a) (k : ∀ b o, hp.get? b = some o → hp2.get? b = some o) (un : Un (frs X.stack) [] (upd H1 a (exo a C none)) H2 hp2 h2) (hok : HOk X.prog X.w H2 h2) (ho : os2 = os1) (hb : AllBare g2)
    (ed : H2 d = some (exd d fs)) (hd1 : H1 d = none) : Inv X pins σ (upd H2 d (.xd fs)) ⟨h2, g2, d2, t2, os2⟩ := by
  obtain ⟨mA, hns, rel⟩ := exd_at hok ed
  have hn : H1 a = none := I1.hok.fresh ha
  have nha : ∀ {b : Addr} {o : Obj}, hp.get? b = some o → b ≠ a := fun {b o} z => Nat.ne_of_lt (Nat.lt_of_lt_of_le (Heap.lt_size z) ha)
  have up : ∀ {b : Addr}, b ≠ a → H1 b = none → upd H1 a (exo a C none) b = none := fun {b} hb n => by rw [upd_ne hb]; exact n
  have nd : ∀ {b : Addr} {o : Obj}, hp.get? b = some o → H1 b = none → b ≠ d := fun {b o} z n e => by
    have y := un.free b o (k b o z) (up (nha z) n) (by simp)
    rw [e, ed] at y
    cases y
  have U : Un (frs X.stack) [] H1 (upd H2 d (.xd fs)) hp h2 := {
    keep := fun b o z n hf hx => un.keep b o (k b o z) (up (nha z) n) hf hx
    slot := fun b o z n hf hx => un.slot b o (k b o z) (up (nha z) n) hf hx
    free := fun b o z n hx => by
      rw [upd_ne (nd z n)]
      exact un.free b o (k b o z) (up (nha z) n) hx
    there := fun b o z hx => un.there b o (k b o z) hx
    tups := fun b xs z => by
      rw [upd_ne (ne_of_none z hd1)]
      exact un.tups b xs (by rw [upd_ne (ne_of_none z hn)]; exact z)
    frzs := fun b o v z => by
      rw [upd_ne (ne_of_none z hd1)]
      exact un.frzs b o v (by rw [upd_ne (ne_of_none z hn)]; exact z)
    tbls := fun b ps z => by
      rw [upd_ne (ne_of_none z hd1)]
      exact un.tbls b ps (by rw [upd_ne (ne_of_none z hn)]; exact z) }
  have hok3 : HOk X.prog X.w (upd H2 d (.xd fs)) h2 := fun b o z => by
    by_cases hbd : b = d
    · subst hbd
      rw [upd_same] at z
      cases z
      exact ⟨mA, hns, rel⟩
    · rw [upd_ne hbd] at z
      exact (hok b o z).stay (fun c v hc y => y)
        (fun c hc => by rw [upd_ne (at_ne ed hc exd_own)]; exact hc) (fun c xs hc => by rw [upd_ne (at_ne ed hc exd_tup)]; exact hc)
  exact I1.call' (ch := []) ho U hok3 hb (fun b z => absurd z (by simp))
/-- the heap with a new error -/
abbrev xvH (H : Hp) (a C dx : Addr) (f : Str) (y : V) : Hp := upd (upd H dx (.xd [(f, y)])) a (exo a C (some dx))
theorem xvH_eq {H : Hp} {a C dx : Addr} {f : Str} {y : V} (ne : dx ≠ a) : upd (upd (upd (upd H a (exo a C none)) dx (exd dx [(f, y)])) a (exo a C (some dx))) dx (.xd [(f, y)]) = xvH H a C dx f y := by
  funext b
  unfold xvH
  by_cases h1 : b = dx
  · subst h1
    rw [upd_same, upd_ne ne, upd_same]
  · rw [upd_ne h1]
    by_cases h2 : b = a
    · subst h2
      rw [upd_same, upd_same]
    · rw [upd_ne h2, upd_ne h1, upd_ne h2, upd_ne h2, upd_ne h1]
def tMkV (C : Addr) (f : Str) (ta : TA) : TE := fun σ H Q => ta σ H fun vs H1 => ∃ y, vs = [y] ∧ ∀ a dx, H1 a = none → H1 dx = none → dx ≠ a → Q (.ref a) (xvH H1 a C dx f y)
theorem pe_mkx {C : Addr} {x : Str} (er : ErrK X.prog X.w X.K X.mg X.base C x) (hr : Room 2 X.A) (ha : PA X (e :: es) ta) (hg : Gl X x := by rfl) (hdb : (x == ("__debug__" : Str)) = false := by decide)
    (he : starEach (e :: es) X.env = (false, eval e X.env) :: starEach es X.env := by rfl) (hpl : (backTo pos (starEach es X.env)).any (·.1) = false := by rfl) : PE X (.Call (.Name x p) (e :: es) [] pos) (tMkV C (fieldOf x) ta) := by
  refine ⟨fun pins s σ H Q I w => ?_⟩
  obtain ⟨fI, fd, iC, tI, F1, hb⟩ := er.ini
  obtain ⟨ds, eds, hb⟩ : ∃ ds, ds = [] ∧ Binds X.K fd ["self", fieldOf x] ds := ⟨[], rfl, hb⟩
  obtain ⟨nw, tl, nm, q, N, bs, bm, sn, sb, ab, cl, dd, k0, k1, k2, k3, k5, fam, hC, hbm⟩ := er.T.cls
  refine wpAny_Call_Name_kw (ld_glob I hg er.gl (PySem.W.callWith_K (h₀ := X.base) I.ok.mod.kin er.T.kC (thn (ha.run pos pins s σ H _ I w) fun us s1 ⟨vs, H1, I1, r1, y, ev, q1⟩ => ⟨I1.kIn, ?_⟩) he hpl) hdb)
  show wpAny _ _ (call (.ref C) us) _ _ _
  obtain ⟨hp, g, dr, tk, os⟩ := s1
  subst ev
  have up : hp.objs.size ≤ hp.objs.size + 1 := Nat.le_succ _
  have hn : H1 (hp.objs.size + 1) = none := I1.hok.fresh up
  have kk : ∀ b o, hp.get? b = some o → ((hp.push (PySem.W.kdv_tup us)).push (PySem.HandSPX.excO C hp.objs.size)).get? b = some o := fun b o z => Heap.get?_push_of_some _ (Heap.get?_push_of_some _ z)
  have gt : ((hp.push (PySem.W.kdv_tup us)).push (PySem.HandSPX.excO C hp.objs.size)).get? (hp.objs.size + 1) = some (PySem.HandSPX.excO C hp.objs.size) := by heap_get
  have I2 := I1.laid (t' := tk) (a := hp.objs.size + 1) (o := exo (hp.objs.size + 1) C none) (h' := (hp.push (PySem.W.kdv_tup us)).push (PySem.HandSPX.excO C hp.objs.size)) kk up (exo_ok gt)
  have r2 : Vals [V.ref (hp.objs.size + 1), y] (Value.ref (hp.objs.size + 1) :: (us ++ ds)) := by rw [eds, List.append_nil]; exact .cons rfl r1
  have hl : (Value.ref (hp.objs.size + 1) :: us ++ ds).length = 2 := by rw [eds, List.append_nil, List.length_cons, ← Paired.length r1]; rfl
  have hus : us.length ≤ sizeLine := by rw [← Paired.length r1, sizeLine_eq, List.length_cons, List.length_nil]; omega
  refine wpAny_call (fam.made (fun Y => PySem.W.excTail_contains Y bm hbm) (I1.kIn _ _ hC) (PySem.W.looks_findIn I1.kIn iC) (fun self => PySem.W.bind_fn I1.kIn self tI) hus
    (codeAny_mono (F1.run _ X.stack _ _ ⟨Value.ref (hp.objs.size + 1) :: us, []⟩ (Value.ref (hp.objs.size + 1) :: (us ++ ds)) _ (fun v H2 => v = .non ∧ ∃ dx, H1 dx = none ∧ dx ≠ hp.objs.size + 1 ∧ H2 = upd (upd (upd H1 (hp.objs.size + 1) (exo (hp.objs.size + 1) C none)) dx (exd dx [(fieldOf x, y)])) (hp.objs.size + 1) (exo (hp.objs.size + 1) C (some dx))) (fun _ _ _ => False) (hr.make C us []) (I2.env0.make C us []) (hb _ (Value.ref (hp.objs.size + 1) :: us) I2.kIn hl) r2
      ⟨_, C, y, rfl, er.T, er.nf, upd_same, fun dx nd ne => ⟨rfl, dx, by rw [upd_ne ne] at nd; exact nd, ne, rfl⟩⟩) fun r s' z => ?_))
  match r, z with
  | .error er', z => exact pass0 pins σ _ _ er' s' I2 z
  | .ok (.ret u), z =>
    obtain ⟨v, H2, os2, bare2, un2, hok2, rv, ev, d, hd1, ne, eH⟩ := z
    subst ev
    have ed : H2 d = some (exd d [(fieldOf x, y)]) := by rw [eH, upd_ne ne, upd_same]
    have J := mk_keep (d2 := s'.drawn) (t2 := s'.toks) I1 up kk un2 hok2 os2 bare2 ed hd1
    rw [eH, xvH_eq ne] at J
    exact ⟨rv, V.ref (hp.objs.size + 1), _, J, rfl, q1 _ d hn hd1 ne⟩
  | .ok .next, z => exact False.elim z
  | .ok .brk, z => exact False.elim z
  | .ok .cont, z => exact False.elim z
/-- an error class of the text, as a call by keyword sees it -/
structure ErrW (P : Program) (w : World) (K : PySem.W.Frag) (mg : Str → Option Value) (base : Heap) (C : Addr) (x : Str) : Prop where
  kw : ∃ nw tl nm q N bs bm sn sb ab cl dd k0 k1 k2 k3 k5, MadeByK nw tl ∧ K.lookup C = some (excClassObj nm q C N bs bm true sn sb ab cl dd k0 k1 k2 k3 k5 nw) ∧ PySem.W.excTail tl bm = true
  ini : ∃ fi fd, PySem.W.findIn K (.ref C) "__init__" = some (some (.ref fi)) ∧ PySem.W.typeIn K (.ref fi) = some (.type "function") ∧ FnOk P w K mg base CX0 1 fi fd ["self", fieldOf x] (spErr K (fieldOf x)) ∧ ∀ (s : Shared) (a u : Value), BindsTo s fd ⟨[a], [(fieldOf x, u)]⟩ [(("self" : Str), a), (fieldOf x, u)]
theorem pe_mkw {C : Addr} {x f : Str} {kpos : Pos} (er : ErrK X.prog X.w X.K X.mg X.base C x) (ew : ErrW X.prog X.w X.K X.mg X.base C x) (hr : Room 2 X.A) (hkw : PK X [⟨some f, e, kpos⟩] ta) (hf : fieldOf x = f := by rfl) (hg : Gl X x := by rfl) (hdb : (x == ("__debug__" : Str)) = false := by decide)
    (hall : (backToKw pos (keywordEach [⟨some f, e, kpos⟩] X.env)).all (·.1.isSome) = true := by rfl) (hks : (backToKw pos (keywordEach [⟨some f, e, kpos⟩] X.env)).filterMap (·.1) = [f] := by rfl)
    (hpl : ((backTo pos (starEach [] X.env)).any (·.1) || (backToKw pos (keywordEach [⟨some f, e, kpos⟩] X.env)).any (·.1.isNone)) = false := by rfl) : PE X (.Call (.Name x p) [] [⟨some f, e, kpos⟩] pos) (tMkV C (fieldOf x) ta) := by
  subst hf
  refine ⟨fun pins s σ H Q I w => ?_⟩
  obtain ⟨fI, fd, iC, tI, F1, hb⟩ := ew.ini
  obtain ⟨nw, tl, nm, q, N, bs, bm, sn, sb, ab, cl, dd, k0, k1, k2, k3, k5, fam, hC, hbm⟩ := ew.kw
  refine wpAny_Call_Name_kw (ld_glob I hg er.gl (PySem.W.callWith_KW0 (h₀ := X.base) I.ok.mod.kin er.T.kC hall (thn (hkw.run pos pins s σ H _ I w) fun us s1 ⟨vs, H1, I1, r1, y, ev, q1⟩ => ⟨I1.kIn, ?_⟩) hpl) hdb)
  rw [hks]
  subst ev
  have hus : ∃ u, us = [u] ∧ L2.RelV y u := by
    cases r1 with
    | cons a b =>
      cases b
      exact ⟨_, rfl, a⟩
  obtain ⟨u, eu, ru⟩ := hus
  rw [eu]
  show wpAny _ _ (call (.ref C) [] [(fieldOf x, u)]) _ _ _
  obtain ⟨hp, g, dr, tk, os⟩ := s1
  have up : hp.objs.size ≤ hp.objs.size + 1 := Nat.le_succ _
  have hn : H1 (hp.objs.size + 1) = none := I1.hok.fresh up
  have kk : ∀ b o, hp.get? b = some o → ((hp.push (PySem.W.kdv_tup [])).push (PySem.HandSPX.excO C hp.objs.size)).get? b = some o := fun b o z => Heap.get?_push_of_some _ (Heap.get?_push_of_some _ z)
  have gt : ((hp.push (PySem.W.kdv_tup [])).push (PySem.HandSPX.excO C hp.objs.size)).get? (hp.objs.size + 1) = some (PySem.HandSPX.excO C hp.objs.size) := by heap_get
  have I2 := I1.laid (t' := tk) (a := hp.objs.size + 1) (o := exo (hp.objs.size + 1) C none) (h' := (hp.push (PySem.W.kdv_tup [])).push (PySem.HandSPX.excO C hp.objs.size)) kk up (exo_ok gt)
  have r2 : Vals [V.ref (hp.objs.size + 1), y] [Value.ref (hp.objs.size + 1), u] := .cons rfl (.cons ru .nil)
  refine wpAny_call (fam (fun Y => PySem.W.excTail_contains Y bm hbm) (I1.kIn _ _ hC) (PySem.W.looks_findIn I1.kIn iC) (fun self => PySem.W.bind_fn I1.kIn self tI)
    (codeAny_mono (F1.run _ X.stack _ _ ⟨[Value.ref (hp.objs.size + 1)], [(fieldOf x, u)]⟩ [Value.ref (hp.objs.size + 1), u] _ (fun v H2 => v = .non ∧ ∃ dx, H1 dx = none ∧ dx ≠ hp.objs.size + 1 ∧ H2 = upd (upd (upd H1 (hp.objs.size + 1) (exo (hp.objs.size + 1) C none)) dx (exd dx [(fieldOf x, y)])) (hp.objs.size + 1) (exo (hp.objs.size + 1) C (some dx))) (fun _ _ _ => False) (hr.make C [] [(fieldOf x, u)]) (I2.env0.make C [] [(fieldOf x, u)]) (hb _ _ _) r2
      ⟨_, C, y, rfl, er.T, er.nf, upd_same, fun dx nd ne => ⟨rfl, dx, by rw [upd_ne ne] at nd; exact nd, ne, rfl⟩⟩) fun r s' z => ?_))
  match r, z with
  | .error er', z => exact pass0 pins σ _ _ er' s' I2 z
  | .ok (.ret u), z =>
    obtain ⟨v, H2, os2, bare2, un2, hok2, rv, ev, d, hd1, ne, eH⟩ := z
    subst ev
    have ed : H2 d = some (exd d [(fieldOf x, y)]) := by rw [eH, upd_ne ne, upd_same]
    have J := mk_keep (d2 := s'.drawn) (t2 := s'.toks) I1 up kk un2 hok2 os2 bare2 ed hd1
    rw [eH, xvH_eq ne] at J
    exact ⟨rv, V.ref (hp.objs.size + 1), _, J, rfl, q1 _ d hn hd1 ne⟩
  | .ok .next, z => exact False.elim z
  | .ok .brk, z => exact False.elim z
  | .ok .cont, z => exact False.elim z
end
/-! ### the plain side -/
def mMkX (C : Str) (mr : MA) : ME := fun sw => bnd (mr sw) fun ws h => match ws with
  | [v] => .ok (.ref h.length) (h ++ [.xc C (fieldOf C) v])
  | _ => .no
theorem mkx_of {K : PySem.W.Frag} {cm : Cm} {C : Str} {mr : MA} {σ : St} {H : Hp} {Q : VK} (q : tE K cm (mMkX C mr) σ H Q) : tMkV (cm C) (fieldOf C) (tA K cm mr) σ H Q := by
  obtain ⟨ρ, h, sw, w, h', rh, rs, e, k⟩ := q
  obtain ⟨ws, h1, e1, e2⟩ := bnd_ok e
  refine ⟨ρ, h, sw, ws, h1, rh, rs, e1, fun ρ1 H1 vs l1 rh1 rv => ?_⟩
  match ws, rv with
  | [], _ => cases e2
  | _ :: _ :: _, _ => cases e2
  | [v], .cons (v := y) r .nil =>
    cases e2
    refine ⟨y, rfl, fun a dx na nd ne => ?_⟩
    have nd' : upd H1 dx (.xd [(fieldOf C, y)]) a = none := by rw [upd_ne (Ne.symm ne)]; exact na
    have l2 : Le K ρ1 H1 ρ1 (xvH H1 a (cm C) dx (fieldOf C) y) := (le_new nd).trans (le_new nd')
    refine k (ρ1 ++ [a]) _ _ (l1.trans (l2.trans (le_app a))) ((rh1.new nd).push nd' ⟨dx, y, upd_same, by rw [upd_ne ne, upd_same], r.mono (l2.trans (le_app a))⟩) (.ref (push_at rh1))
section
variable {X : Cx} {cm : Cm} {a e : Expr} {es : List Expr} {ma me : ME} {mr : MA} {C f x : Str} {p p2 pos kpos : Pos}
theorem re_mkx (er : ErrK X.prog X.w X.K X.mg X.base (cm x) x) (hr : Room 2 X.A) (ha : RA X cm (e :: es) mr) (hg : Gl X x := by rfl) (hdb : (x == ("__debug__" : Str)) = false := by decide)
    (he : starEach (e :: es) X.env = (false, eval e X.env) :: starEach es X.env := by rfl) (hpl : (backTo pos (starEach es X.env)).any (·.1) = false := by rfl) : RE X cm (.Call (.Name x p) (e :: es) [] pos) (mMkX x mr) :=
  peM (pe_mkx er hr ha hg hdb he hpl) fun _ _ _ q => mkx_of q
theorem rk_one (ha : RE X cm e me) : PK X [⟨some f, e, kpos⟩] (tA X.K cm (aCons me aNil)) := by
  refine ⟨fun pos pins s σ H Q I q => (pk_cons ha pk_nil).run pos pins s σ H Q I ?_⟩
  obtain ⟨ρ, h, sw, w, h', rh, rs, e, k⟩ := q
  obtain ⟨x, h1, e1, e2⟩ := bnd_ok e
  obtain ⟨y, h2, e3, e4⟩ := bnd_ok e2
  cases e3
  cases e4
  exact ⟨ρ, h, sw, x, h', rh, rs, e1, fun ρ1 H1 x' l1 rh1 rx => k ρ1 H1 _ l1 rh1 (.cons rx .nil)⟩
theorem re_mkw (er : ErrK X.prog X.w X.K X.mg X.base (cm x) x) (ew : ErrW X.prog X.w X.K X.mg X.base (cm x) x) (hr : Room 2 X.A) (ha : RE X cm e me) (hf : fieldOf x = f := by rfl) (hg : Gl X x := by rfl) (hdb : (x == ("__debug__" : Str)) = false := by decide)
    (hall : (backToKw pos (keywordEach [⟨some f, e, kpos⟩] X.env)).all (·.1.isSome) = true := by rfl) (hks : (backToKw pos (keywordEach [⟨some f, e, kpos⟩] X.env)).filterMap (·.1) = [f] := by rfl)
    (hpl : ((backTo pos (starEach [] X.env)).any (·.1) || (backToKw pos (keywordEach [⟨some f, e, kpos⟩] X.env)).any (·.1.isNone)) = false := by rfl) : RE X cm (.Call (.Name x p) [] [⟨some f, e, kpos⟩] pos) (mMkX x (aCons me aNil)) :=
  peM (pe_mkw er ew hr (rk_one ha) hf hg hdb hall hks hpl) fun _ _ _ q => mkx_of q
/-- which class an error is of -/
def xcB (h : Hw) (x : W) : Option (Str × Str × W) := match x with
  | .ref p => match h[p]? with
    | some (.xc C f w) => some (C, f, w)
    | _ => none
  | _ => none
theorem xcB_of {K : PySem.W.Frag} {ρ : List Addr} {h : Hw} {H : Hp} {x w : W} {v : V} {C f : Str} (rh : RelH K cm ρ h H) (r : Rel K ρ H x v) (e : xcB h x = some (C, f, w)) : ∃ a d y, v = .ref a ∧ H a = some (exo a (cm C) (some d)) ∧ H d = some (.xd [(f, y)]) ∧ Rel K ρ H w y := by
  cases r with
  | @ref p a hp =>
    obtain ⟨o, ho, ro⟩ := rh.at (w := .non) hp
    unfold xcB at e
    dsimp only at e
    rw [ho] at e
    cases o with
    | xc C' f' w' =>
      cases e
      obtain ⟨d, y, e1, e2, q⟩ := ro
      exact ⟨a, d, y, rfl, e1, e2, q⟩
    | _ => cases e
  | _ => cases e
def tXv (K : PySem.W.Frag) (f : Str) (te : TE) : TE := fun σ H Q => te σ H fun x H1 => ∃ a C d fs v, x = .ref a ∧ XfC K C ∧ PySem.W.findIn K (.ref C) f = some none ∧ H1 a = some (exo a C (some d)) ∧ H1 d = some (.xd fs) ∧ fs.lookup f = some v ∧ Q v H1
theorem pe_xv {te : TE} (he : PE X e te) (hb : attributeBase e f X.env (eval e X.env) = eval e X.env := by rfl) : PE X (.Attribute e f pos) (tXv X.K f te) := by
  refine ⟨fun pins s σ H Q I h => ?_⟩
  refine attr_of hb (thn (he.run pins s σ H _ I h) fun u s1 hh => ?_)
  obtain ⟨x, H1, I1, rx, a, C, d, fs, v, ex, T, hno, ea, ed, l, q⟩ := hh
  subst ex
  obtain rfl : u = Value.ref a := rx
  obtain ⟨t1, hoe⟩ := exo_at I1.hok ea
  have hx : ObjOk X.prog X.w H1 s1.heap d (.xd fs) := I1.hok d _ ed
  obtain ⟨mA, hns, hr⟩ := hx
  obtain ⟨od, ho, hl⟩ := lookIn_ns hns
  obtain ⟨u, hu, ru⟩ := RelO.some_of (v := v) (o := mA f) (by rw [← l]; exact hr f)
  have J : PySem.W.InstAt s1.heap a _ C (some od) := ⟨hoe, rfl, rfl, ho⟩
  exact HandSPX.exc_get I1.kIn J T.ga T.gg T.exC (PySem.W.findObj_own T.hdC hno rfl (by rw [hl, hu])) (handed_of ru) ⟨v, H1, I1.tok _, ru, q⟩
/-- an error's field -/
def mFldX (C f : Str) (a : ME) : ME := fun sw => bnd (a sw) fun x h => match xcB h x with
  | some (C', f', w) => if C' = C ∧ f' = f then .ok w h else .no
  | none => .no
theorem re_fldX (hx : HxC X.K X.mg (cm C) C f) (ha : RE X cm a ma) (hb : attributeBase a f X.env (eval a X.env) = eval a X.env := by rfl) : RE X cm (.Attribute a f pos) (mFldX C f ma) := by
  refine peM (pe_xv ha hb) fun σ H Q q => ?_
  obtain ⟨ρ, h, sw, w, h', rh, rs, e, k⟩ := q
  obtain ⟨x, h1, e1, e2⟩ := bnd_ok e
  refine ⟨ρ, h, sw, x, h1, rh, rs, e1, fun ρ1 H1 v l1 rh1 rx => ?_⟩
  split at e2
  · rename_i C' f' w' hq
    split at e2
    · rename_i c
      obtain ⟨rfl, rfl⟩ := c
      cases e2
      obtain ⟨ad, d, y, rfl, ea, ed, rw'⟩ := xcB_of rh1 rx hq
      exact ⟨ad, _, d, _, y, rfl, hx.xf, hx.nf, ea, ed, by simp, k ρ1 H1 _ l1 rh1 rw'⟩
    · cases e2
  · cases e2
/-! isinstance of an error -/
def rIsX (K : PySem.W.Frag) : List V → Hp → VK → Prop := fun xs H Q => ∃ (a D d : Addr) (c : V) (cv : Value) (b : Bool) (fs : List (Str × V)), xs = [.ref a, c] ∧ ExcC K D ∧ (∀ u, RelV c u → u = cv) ∧ PySem.W.kitOne K (.ref D) cv = some b ∧ H a = some (exo a D (some d)) ∧ H d = some (.xd fs) ∧ Q (.bl b) H
theorem call_isX : CallR X (.builtin "isinstance") (rIsX X.K) := by
  intro pins s σ H xs us Q I r h
  obtain ⟨a, D, d, c, cv, b, fs, rfl, C, hcv, e, ea, ed, q⟩ := h
  cases r with
  | cons rx rr =>
    cases rr with
    | cons rt rr =>
      cases rr
      cases rx
      have ec := hcv _ rt
      subst ec
      obtain ⟨t1, hoe⟩ := exo_at I.hok ea
      have hx : ObjOk X.prog X.w H s.heap d (.xd fs) := I.hok d _ ed
      obtain ⟨mA, hns, hr⟩ := hx
      obtain ⟨od, ho, hl⟩ := lookIn_ns hns
      have J : PySem.W.InstAt s.heap a _ D (some od) := ⟨hoe, rfl, rfl, ho⟩
      have hcl : (PySem.W.clsIn X.K D).isSome = true := by
        obtain ⟨cdD, hcD, _⟩ := PySem.W.any_some C.hd
        rw [hcD] <;> rfl
      exact PySem.W.kia_one (PySem.W.kitx_exc hcl C.hg C.hk C.hs C.ha C.hn C.ht C.hm) I.kIn J e (fun z => nomatch z) fun tk => ⟨.bl b, H, I.kept (t' := tk) fun _ _ z => z, rfl, q⟩
/-- isinstance(x, T), x an error of one of these classes -/
def mIsX (tab : List (Str × Bool)) (a : ME) : ME := fun sw => bnd (a sw) fun x h => match xcB h x with
  | some q => match tab.lookup q.1 with
    | some b => .ok (.bl b) h
    | none => .no
  | none => .no
theorem lookup_mem {l : List (Str × Bool)} {c : Str} {b : Bool} (h : l.lookup c = some b) : (c, b) ∈ l := by
  induction l with
  | nil => cases h
  | cons q r ih =>
    obtain ⟨c', b'⟩ := q
    rw [List.lookup_cons] at h
    split at h
    · rename_i z
      cases h
      rw [beq_iff_eq.mp z]
      exact List.mem_cons_self
    · exact List.mem_cons_of_mem _ (ih h)
theorem isX_of {tv : V} {cv : Value} {tab : List (Str × Bool)} {σ : St} {H : Hp} {Q : VK} {K : PySem.W.Frag} (hcv : ∀ u, RelV tv u → u = cv) (ht : ∀ q ∈ tab, ExcC K (cm q.1) ∧ PySem.W.kitOne K (.ref (cm q.1)) cv = some q.2) (q : tE K cm (mIsX tab ma) σ H Q) :
    tE K cm ma σ H fun x H1 => rIsX K [x, tv] H1 Q := by
  obtain ⟨ρ, h, sw, w, h', rh, rs, e, k⟩ := q
  obtain ⟨x, h1, e1, e2⟩ := bnd_ok e
  refine ⟨ρ, h, sw, x, h1, rh, rs, e1, fun ρ1 H1 v l1 rh1 rx => ?_⟩
  split at e2
  · rename_i qq hq
    obtain ⟨C', f', w'⟩ := qq
    split at e2
    · rename_i b hb
      cases e2
      obtain ⟨ad, d, y, rfl, ea, ed, _⟩ := xcB_of rh1 rx hq
      obtain ⟨t1, t2⟩ := ht _ (lookup_mem hb)
      exact ⟨ad, _, d, tv, cv, b, _, rfl, t1, hcv, t2, ea, ed, k ρ1 H1 _ l1 rh1 (.bl _)⟩
    · cases e2
  · cases e2
theorem re_isX {T : Addr} {tab : List (Str × Bool)} (hm : X.mg "isinstance" = none) (hT : X.mg x = some (.ref T)) (ht : ∀ q ∈ tab, ExcC X.K (cm q.1) ∧ PySem.W.kitOne X.K (.ref (cm q.1)) (.ref T) = some q.2) (ha : RE X cm a ma)
    (hg : Gl X "isinstance" := by rfl) (hg2 : Gl X x := by rfl) (hd : (x == ("__debug__" : Str)) = false := by decide)
    (hs1 : starEach (a :: [.Name x p2]) X.env = (false, eval a X.env) :: starEach [.Name x p2] X.env := by rfl) (hs2 : starEach (.Name x p2 :: []) X.env = (false, eval (.Name x p2) X.env) :: starEach [] X.env := by rfl) (hpl : (backTo pos (starEach [.Name x p2] X.env)).any (·.1) = false := by rfl) :
    RE X cm (.Call (.Name "isinstance" p) [a, .Name x p2] [] pos) (mIsX tab ma) :=
  peM (pe_callB call_isX hg hm (by decide +kernel) (pa_cons ha (pa_cons (pe_glob (v := .ref T) hg2 hT rfl hd) pa_nil hs2) hs1) (by decide) (by decide) hs1 hpl) fun σ H Q q => isX_of (tv := .ref T) (cv := .ref T) (fun _ h => h) ht q
theorem re_isXB {T : String} {tab : List (Str × Bool)} (hm : X.mg "isinstance" = none) (hT : X.mg x = none) (ht : ∀ q ∈ tab, ExcC X.K (cm q.1) ∧ PySem.W.kitOne X.K (.ref (cm q.1)) (.type T) = some q.2) (ha : RE X cm a ma) (hv : bootBuiltins x = some (.type T) := by decide +kernel)
    (hg : Gl X "isinstance" := by rfl) (hg2 : Gl X x := by rfl) (hn : x ≠ "__name__" := by decide) (hd : (x == ("__debug__" : Str)) = false := by decide)
    (hs1 : starEach (a :: [.Name x p2]) X.env = (false, eval a X.env) :: starEach [.Name x p2] X.env := by rfl) (hs2 : starEach (.Name x p2 :: []) X.env = (false, eval (.Name x p2) X.env) :: starEach [] X.env := by rfl) (hpl : (backTo pos (starEach [.Name x p2] X.env)).any (·.1) = false := by rfl) :
    RE X cm (.Call (.Name "isinstance" p) [a, .Name x p2] [] pos) (mIsX tab ma) :=
  peM (pe_callB call_isX hg hm (by decide +kernel) (pa_cons ha (pa_cons (pe_bltn (v := .ty T) hg2 hT hv rfl hn hd) pa_nil hs2) hs1) (by decide) (by decide) hs1 hpl) fun σ H Q q => isX_of (tv := .ty T) (cv := .type T) (fun _ h => h) ht q
end
theorem isx_nil {K : PySem.W.Frag} {cm : Cm} {v : Value} : ∀ q ∈ ([] : List (Str × Bool)), ExcC K (cm q.1) ∧ PySem.W.kitOne K (.ref (cm q.1)) v = some q.2 := fun _ h => nomatch h
theorem isx_cons {K : PySem.W.Frag} {cm : Cm} {v : Value} {c : Str} {b : Bool} {l : List (Str × Bool)} (h1 : ExcC K (cm c)) (h2 : PySem.W.kitOne K (.ref (cm c)) v = some b) (h : ∀ q ∈ l, ExcC K (cm q.1) ∧ PySem.W.kitOne K (.ref (cm q.1)) v = some q.2) : ∀ q ∈ (c, b) :: l, ExcC K (cm q.1) ∧ PySem.W.kitOne K (.ref (cm q.1)) v = some q.2 := fun q hq => by
  rcases List.mem_cons.mp hq with rfl | hq
  · exact ⟨h1, h2⟩
  · exact h q hq
/-- what the written part must say for a call by keyword -/
theorem errW_mk {P : Program} {w : World} {K : PySem.W.Frag} {mg : Str → Option Value} {base : Heap} {C : Addr} {x qn n : Str} {st : Stmt} {fi : Addr} {fd : FuncData} {p1 p2 p3 p4 : Pos} {nm q N bs bm sn sub ab col dd k0 k1 k2 k3 k5} {nw : String} {tl : List Value} (fam : MadeByK nw tl)
    (ho : K.lookup C = some (excClassObj nm q C N bs bm true sn sub ab col dd k0 k1 k2 k3 k5 nw)) (ht : PySem.W.excTail tl bm = true) (hf : fieldOf x = n)
    (i1 : PySem.W.findIn K (.ref C) "__init__" = some (some (.ref fi))) (i2 : PySem.W.typeIn K (.ref fi) = some (.type "function")) (F : Fun K "__init__" qn st fi fd) (S : FnScope ["self", n] ["self", n] (defScope st)) (hb : defBody st = [.Assign [.Attribute (.Name "self" p1) n p2] (.Name n p3) p4]) (hn : n ≠ "self") (hn2 : (n == ("__debug__" : Str)) = false) (hn3 : (n == ("__classdict__" : Str)) = false)
    (v1 : Vis (defScope st) "self") (v2 : Vis (defScope st) n)
    (h : ∀ (kV doc pm : Value) (an : Option Addr) (cdv ct a u : Value), bindArgs (PySem.W.fnOf "__init__" qn (defArgs st) (defBody st) (defScope st) .none kV doc pm an cdv ct) ⟨[a], [(n, u)]⟩ = pure [(("self" : Str), a), (n, u)]) : ErrW P w K mg base C x := by
  subst hf
  exact ⟨⟨nw, tl, nm, q, N, bs, bm, sn, sub, ab, col, dd, k0, k1, k2, k3, k5, fam, ho, ht⟩, fi, fd, i1, i2, err_init F S hb hn hn2 hn3 v1 v2, fun s a u => binds_kw1 F h s a u⟩
end EL
namespace ThisLaw
open PySem PySem.Spec L2 EL
open PyProof.Rows hiding St
section
def topS (i : Nat) : Stmt := PySem.Challenge.pw_standinparts_k19_errors.main.body.getD i (.Pass ⟨0, 0, 0, 0⟩)
end
theorem Names_of {X : Cx} {x : Str} {c : Value} (hm : X.mg x = some c) (hg : Gl X x := by rfl) (hd : (x == ("__debug__" : Str)) = false := by decide) : Names X x c := ⟨hg, hd, .inl hm⟩
abbrev s__law_pool : Stmt := topS 16
theorem sc__law_pool : FnScope ["_law_script", "_law_k", "_law_cell", "_law_size", "_law_mixed"] ["_law_script", "_law_k"] (defScope s__law_pool) := ⟨rfl, rfl, rfl, by decide +kernel, rfl, by decide +kernel, by decide +kernel⟩
def m__law_pool : List W → M W := mFn 2 5 (sSeq (sAsg (gNm 2) (mIf (tVal (mBin fLt (mVar 1) (mCall bLen (aCons (mVar 0) aNil)))) (mBin fIx (mVar 0) (mVar 1)) (mBin fAdd (mBin fMul (mC (.int 7)) (mCall bSum (aCons (mSl (mVar 0) oNo (oSo (mC (.int 63)))) aNil))) (mVar 1))))
    (sSeq (sAsg (gNm 3) (mCall bAbs (aCons (mVar 2) aNil)))
    (sSeq (sAsg (gNm 4) (mBin fAdd (mBin fAdd (mBin fAdd (mBin fMod (mCall bInt (aCons (mVar 3) aNil)) (mC (.int 2147483629))) (mBin fMul (mBin fMul (mC (.int 7919)) (mVar 1)) (mVar 1))) (mBin fMul (mC (.int 31)) (mVar 1))) (mC (.int 17))))
    (sSeq (sAsg (gNm 4) (mBin fMod (mCall bInt (aCons (mBin fMul (mVar 4) (mC (.int 48271))) aNil)) (mC (.int 2147483647))))
    (sRet (mLst (aCons (mBin fMul (mVar 3) (mCall bInt (aCons (mBin fGe (mVar 3) (mBin fPow (mC (.int 10)) (mC (.int 18)))) aNil))) (aCons (mBin fMod (mCall bInt (aCons (mBin fMul (mVar 4) (mVar 4)) aNil)) (mC (.int 2147483629))) aNil))))))))
theorem ok__law_pool {P : Program} {w : World} {K : PySem.W.Frag} {mg : Str → Option Value} {base : Heap} {cm : Cm} {f : Addr} {fd : FuncData} (F : Fun K "_law_pool" "_law_pool" s__law_pool f fd) (z_len : mg "len" = none) (z_sum : mg "sum" = none) (z_abs : mg "abs" = none) (z_int : mg "int" = none) :
    FnOk P w K mg base CX0 1 f fd ["_law_script", "_law_k"] (spM K cm m__law_pool) :=
  efn F sc__law_pool fun cdv A outer s H E hr => (rss_cons (rs_asg (vs := [2]) (re_if (rt_cmp oLt wCmp (re_var 1) (re_callB oLen wLen z_len (ra_cons (re_var 0) ra_nil))) (re_ix (re_var 0) (re_var 1)) (re_op oAdd wAdd (re_op oMul wMul (re_int) (re_callB (cr_sum rfl) wSum z_sum (ra_cons (re_sl (re_var 0) ro_no (ro_so (re_int))) ra_nil))) (re_var 1))) (rg_name 2 sc__law_pool.nd))
    (rss_cons (rs_asg (vs := [3]) (re_callB call_abs wAbs z_abs (ra_cons (re_var 2) ra_nil)) (rg_name 3 sc__law_pool.nd))
    (rss_cons (rs_asg (vs := [4]) (re_op oAdd wAdd (re_op oAdd wAdd (re_op oAdd wAdd (re_op op_mod wMod (re_callTy call_int1 wInt1 z_int (ra_cons (re_var 3) ra_nil)) (re_int)) (re_op oMul wMul (re_op oMul wMul (re_int) (re_var 1)) (re_var 1))) (re_op oMul wMul (re_int) (re_var 1))) (re_int)) (rg_name 4 sc__law_pool.nd))
    (rss_cons (rs_asg (vs := [4]) (re_op op_mod wMod (re_callTy call_int1 wInt1 z_int (ra_cons (re_op oMul wMul (re_var 4) (re_int)) ra_nil)) (re_int)) (rg_name 4 sc__law_pool.nd))
    (rss_one (rs_ret (re_lst (ra_cons (re_op oMul wMul (re_var 3) (re_callTy call_int1 wInt1 z_int (ra_cons (re_cmp oGe wCmp (re_var 3) (re_op op_pow wPow (re_int) (re_int))) ra_nil))) (ra_cons (re_op op_mod wMod (re_callTy call_int1 wInt1 z_int (ra_cons (re_op oMul wMul (re_var 4) (re_var 4)) ra_nil)) (re_int)) ra_nil)))))))))
abbrev s__law_draw : Stmt := topS 17
theorem sc__law_draw : FnScope ["_law_pool_here", "_law_sides", "_law_found"] ["_law_pool_here", "_law_sides"] (defScope s__law_draw) := ⟨rfl, rfl, rfl, by decide +kernel, rfl, by decide +kernel, by decide +kernel⟩
def m__law_draw : List W → M W := mFn 2 3 (sSeq (sIf (tVal (mBin fGt (mBin fIx (mVar 0) (mC (.int 0))) (mC (.int 0)))) (sSeq (sAsg (gNm 2) (mBin fMod (mCall bInt (aCons (mBin fIx (mVar 0) (mC (.int 0))) aNil)) (mVar 1)))
    (sSeq (sAsg (gSubL (mVar 0) (mC (.int 0))) (mBin fDiv (mBin fIx (mVar 0) (mC (.int 0))) (mVar 1)))
    (sRet (mVar 2)))) sNil)
    (sSeq (sAsg (gSubL (mVar 0) (mC (.int 1))) (mBin fMod (mCall bInt (aCons (mBin fAdd (mBin fMul (mBin fIx (mVar 0) (mC (.int 1))) (mC (.int 48271))) (mC (.int 11))) aNil)) (mC (.int 2147483647))))
    (sRet (mBin fMod (mCall bInt (aCons (mBin fDiv (mBin fMod (mCall bInt (aCons (mBin fMul (mBin fIx (mVar 0) (mC (.int 1))) (mBin fIx (mVar 0) (mC (.int 1)))) aNil)) (mC (.int 2147483629))) (mC (.int 16))) aNil)) (mVar 1)))))
theorem ok__law_draw {P : Program} {w : World} {K : PySem.W.Frag} {mg : Str → Option Value} {base : Heap} {cm : Cm} {f : Addr} {fd : FuncData} (F : Fun K "_law_draw" "_law_draw" s__law_draw f fd) (z_int : mg "int" = none) :
    FnOk P w K mg base CX0 1 f fd ["_law_pool_here", "_law_sides"] (spM K cm m__law_draw) :=
  efn F sc__law_draw fun cdv A outer s H E hr => (rss_cons (rs_if (rt_cmp oGt wCmp (re_ix (re_var 0) (re_int)) (re_int)) (rss_cons (rs_asg (vs := [2]) (re_op op_mod wMod (re_callTy call_int1 wInt1 z_int (ra_cons (re_ix (re_var 0) (re_int)) ra_nil)) (re_var 1)) (rg_name 2 sc__law_draw.nd))
    (rss_cons (rs_asg (vs := []) (re_op op_fdivW wDiv (re_ix (re_var 0) (re_int)) (re_var 1)) (rg_sub (re_var 0) (re_int)))
    (rss_one (rs_ret (re_var 2))))) rss_nil)
    (rss_cons (rs_asg (vs := []) (re_op op_mod wMod (re_callTy call_int1 wInt1 z_int (ra_cons (re_op oAdd wAdd (re_op oMul wMul (re_ix (re_var 0) (re_int)) (re_int)) (re_int)) ra_nil)) (re_int)) (rg_sub (re_var 0) (re_int)))
    (rss_one (rs_ret (re_op op_mod wMod (re_callTy call_int1 wInt1 z_int (ra_cons (re_op op_fdivW wDiv (re_op op_mod wMod (re_callTy call_int1 wInt1 z_int (ra_cons (re_op oMul wMul (re_ix (re_var 0) (re_int)) (re_ix (re_var 0) (re_int))) ra_nil)) (re_int)) (re_int)) ra_nil)) (re_var 1))))))
abbrev s_law : Stmt := topS 19
theorem sc_law : FnScope ["_law_script", "_law_k", "_law_pool_here", "_law_given", "_law_under", "_law_error"] ["_law_script"] (defScope s_law) := ⟨rfl, rfl, rfl, by decide +kernel, rfl, by decide +kernel, by decide +kernel⟩
def m_law : List W → M W := mFn 1 6 (sSeq (sForI (iRg1 (mCall bMax (aCons (mC (.int 1)) (aCons (mCall bMin (aCons (mCall bLen (aCons (mVar 0) aNil)) (aCons (mC (.int 2)) aNil))) aNil)))) (gNm 1) (sSeq (sAsg (gNm 2) (mCall m__law_pool (aCons (mVar 0) (aCons (mVar 1) aNil))))
    (sSeq (sForI (iAny (mLst (aCons (mC .non) (aCons (mC (.int 7)) (aCons (mC (.str "word")) (aCons (mTup aNil) (aCons (mLst (aCons (mC (.int 1)) aNil)) (aCons (mCall m__law_draw (aCons (mVar 2) (aCons (mBin fPow (mC (.int 10)) (mC (.int 30))) aNil))) aNil)))))))) (gNm 3) (sSeq (sIf ((tOr (tVal (mBin (fEq true) (mFldX "BadAllowance" "index" (mMkX "BadAllowance" (aCons (mVar 3) aNil))) (mVar 3))) (tVal (mBin (fEq true) (mFldX "BadAllowance" "index" (mMkX "BadAllowance" (aCons (mVar 3) aNil))) (mVar 3))))) (sRet (mC (.bl false))) sNil)
    (sSeq (sIf ((tOr (tVal (mBin (fEq true) (mFldX "BadPlace" "index" (mMkX "BadPlace" (aCons (mVar 3) aNil))) (mVar 3))) (tVal (mBin (fEq true) (mFldX "BadCount" "part" (mMkX "BadCount" (aCons (mVar 3) aNil))) (mVar 3))))) (sRet (mC (.bl false))) sNil)
    (sSeq (sIf ((tOr (tVal (mBin (fEq true) (mFldX "BadDate" "date" (mMkX "BadDate" (aCons (mVar 3) aNil))) (mVar 3))) (tVal (mBin (fEq true) (mFldX "BadMany" "many" (mMkX "BadMany" (aCons (mVar 3) aNil))) (mVar 3))))) (sRet (mC (.bl false))) sNil)
    (sSeq (sIf ((tOr (tVal (mBin (fEq true) (mFldX "BadList" "value" (mMkX "BadList" (aCons (mVar 3) aNil))) (mVar 3))) (tVal (mBin (fEq true) (mFldX "BadStock" "value" (mMkX "BadStock" (aCons (mVar 3) aNil))) (mVar 3))))) (sRet (mC (.bl false))) sNil)
    (sSeq (sIf ((tOr (tVal (mBin (fEq true) (mFldX "RingOfLists" "word" (mMkX "RingOfLists" (aCons (mVar 3) aNil))) (mVar 3))) (tVal (mBin (fEq true) (mFldX "UnknownPlace" "word" (mMkX "UnknownPlace" (aCons (mVar 3) aNil))) (mVar 3))))) (sRet (mC (.bl false))) sNil)
    (sSeq (sIf ((tOr (tVal (mBin (fEq true) (mFldX "UnknownList" "word" (mMkX "UnknownList" (aCons (mVar 3) aNil))) (mVar 3))) (tVal (mBin (fEq true) (mFldX "TooMany" "limit" (mMkX "TooMany" (aCons (mVar 3) aNil))) (mVar 3))))) (sRet (mC (.bl false))) sNil)
    (sIf ((tOr (tVal (mBin (fEq true) (mFldX "NothingToUndo" "index" (mMkX "NothingToUndo" (aCons (mVar 3) aNil))) (mVar 3))) (tVal (mBin (fEq true) (mFldX "Lacking" "few" (mMkX "Lacking" (aCons (mVar 3) aNil))) (mVar 3))))) (sRet (mC (.bl false))) sNil))))))))
    (sSeq (sAsg (gNm 4) (mLst (aCons (mMkX "BadAllowance" (aCons (mC (.int 1)) aNil)) (aCons (mMkX "BadPlace" (aCons (mC (.int 1)) aNil)) (aCons (mMkX "BadCount" (aCons (mC (.int 1)) aNil)) (aCons (mMkX "BadDate" (aCons (mC (.int 1)) aNil)) (aCons (mMkX "BadMany" (aCons (mC (.int 1)) aNil)) (aCons (mMkX "BadList" (aCons (mC (.int 1)) aNil)) (aCons (mMkX "BadStock" (aCons (mC (.int 1)) aNil)) aNil)))))))))
    (sSeq (sForI (iAny (mBin fAdd (mVar 4) (mLst (aCons (mMkX "RingOfLists" (aCons (mC (.int 1)) aNil)) (aCons (mMkX "Lacking" (aCons (mC (.int 1)) aNil)) aNil))))) (gNm 5) (sIf ((tOr (tNot (tTru (mIsX [("BadAllowance", true), ("BadPlace", true), ("BadCount", true), ("BadDate", true), ("BadMany", true), ("BadList", true), ("BadStock", true), ("RingOfLists", true), ("Lacking", true), ("UnknownPlace", false), ("UnknownList", false), ("TooMany", false), ("NothingToUndo", false)] (mVar 5)))) (tNot (tTru (mIsX [("BadAllowance", true), ("BadPlace", true), ("BadCount", true), ("BadDate", true), ("BadMany", true), ("BadList", true), ("BadStock", true), ("RingOfLists", true), ("Lacking", true), ("UnknownPlace", false), ("UnknownList", false), ("TooMany", false), ("NothingToUndo", false)] (mVar 5)))))) (sRet (mC (.bl false))) sNil))
    (sSeq (sIf ((tOr (tTru (mIsX [("BadPlace", false)] (mMkX "BadPlace" (aCons (mC (.int 1)) aNil)))) (tTru (mIsX [("BadDate", false)] (mMkX "BadDate" (aCons (mC (.int 1)) aNil)))))) (sRet (mC (.bl false))) sNil)
    (sSeq (sIf ((tOr (tNot (tTru (mIsX [("UnknownPlace", true)] (mMkX "UnknownPlace" (aCons (mC (.int 1)) aNil))))) (tNot (tTru (mIsX [("UnknownList", true)] (mMkX "UnknownList" (aCons (mC (.int 1)) aNil))))))) (sRet (mC (.bl false))) sNil)
    (sSeq (sIf ((tOr (tNot (tTru (mIsX [("TooMany", true)] (mMkX "TooMany" (aCons (mC (.int 1)) aNil))))) (tNot (tTru (mIsX [("NothingToUndo", true)] (mMkX "NothingToUndo" (aCons (mC (.int 1)) aNil))))))) (sRet (mC (.bl false))) sNil)
    (sForI (iAny (mLst (aCons (mMkX "UnknownPlace" (aCons (mC (.int 1)) aNil)) (aCons (mMkX "UnknownList" (aCons (mC (.int 1)) aNil)) (aCons (mMkX "TooMany" (aCons (mC (.int 1)) aNil)) (aCons (mMkX "NothingToUndo" (aCons (mC (.int 1)) aNil)) aNil)))))) (gNm 5) (sIf (tTru (mIsX [("BadAllowance", true), ("BadPlace", true), ("BadCount", true), ("BadDate", true), ("BadMany", true), ("BadList", true), ("BadStock", true), ("RingOfLists", true), ("Lacking", true), ("UnknownPlace", false), ("UnknownList", false), ("TooMany", false), ("NothingToUndo", false)] (mVar 5))) (sRet (mC (.bl false))) sNil))))))))))
    (sRet (mC (.bl true))))
theorem ok_law {P : Program} {w : World} {K : PySem.W.Frag} {mg : Str → Option Value} {base : Heap} {cm : Cm} {f : Addr} {fd : FuncData} (F : Fun K "law" "law" s_law f fd) (z_range : mg "range" = none) (z_max : mg "max" = none) (z_min : mg "min" = none) (z_len : mg "len" = none) (z_isinstance : mg "isinstance" = none) (z_ValueError : mg "ValueError" = none) (z_KeyError : mg "KeyError" = none) (z_RuntimeError : mg "RuntimeError" = none) (z_OverflowError : mg "OverflowError" = none) {f__law_pool : Addr} {fd__law_pool : FuncData} (G__law_pool : FnOk P w K mg base CX0 1 f__law_pool fd__law_pool ["_law_script", "_law_k"] (spM K cm m__law_pool)) (g__law_pool : mg "_law_pool" = some (.ref f__law_pool)) (k__law_pool : PySem.W.keepIn K (.ref f__law_pool) = true) (b__law_pool : Binds K fd__law_pool ["_law_script", "_law_k"] []) {f__law_draw : Addr} {fd__law_draw : FuncData} (G__law_draw : FnOk P w K mg base CX0 1 f__law_draw fd__law_draw ["_law_pool_here", "_law_sides"] (spM K cm m__law_draw)) (g__law_draw : mg "_law_draw" = some (.ref f__law_draw)) (k__law_draw : PySem.W.keepIn K (.ref f__law_draw) = true) (b__law_draw : Binds K fd__law_draw ["_law_pool_here", "_law_sides"] []) (er_BadAllowance : ErrK P w K mg base (cm "BadAllowance") "BadAllowance") (er_BadCount : ErrK P w K mg base (cm "BadCount") "BadCount") (er_BadPlace : ErrK P w K mg base (cm "BadPlace") "BadPlace") (er_BadMany : ErrK P w K mg base (cm "BadMany") "BadMany") (er_BadDate : ErrK P w K mg base (cm "BadDate") "BadDate") (er_BadStock : ErrK P w K mg base (cm "BadStock") "BadStock") (er_BadList : ErrK P w K mg base (cm "BadList") "BadList") (er_UnknownPlace : ErrK P w K mg base (cm "UnknownPlace") "UnknownPlace") (er_RingOfLists : ErrK P w K mg base (cm "RingOfLists") "RingOfLists") (er_TooMany : ErrK P w K mg base (cm "TooMany") "TooMany") (er_UnknownList : ErrK P w K mg base (cm "UnknownList") "UnknownList") (er_Lacking : ErrK P w K mg base (cm "Lacking") "Lacking") (er_NothingToUndo : ErrK P w K mg base (cm "NothingToUndo") "NothingToUndo") (hx_BadAllowance : HxC K mg (cm "BadAllowance") "BadAllowance" "index") (hx_BadCount : HxC K mg (cm "BadCount") "BadCount" "part") (hx_BadPlace : HxC K mg (cm "BadPlace") "BadPlace" "index") (hx_BadMany : HxC K mg (cm "BadMany") "BadMany" "many") (hx_BadDate : HxC K mg (cm "BadDate") "BadDate" "date") (hx_BadStock : HxC K mg (cm "BadStock") "BadStock" "value") (hx_BadList : HxC K mg (cm "BadList") "BadList" "value") (hx_UnknownPlace : HxC K mg (cm "UnknownPlace") "UnknownPlace" "word") (hx_RingOfLists : HxC K mg (cm "RingOfLists") "RingOfLists" "word") (hx_TooMany : HxC K mg (cm "TooMany") "TooMany" "limit") (hx_UnknownList : HxC K mg (cm "UnknownList") "UnknownList" "word") (hx_Lacking : HxC K mg (cm "Lacking") "Lacking" "few") (hx_NothingToUndo : HxC K mg (cm "NothingToUndo") "NothingToUndo" "index") {cx_PartsError : Addr} (gx_PartsError : mg "PartsError" = some (.ref cx_PartsError)) {cx_BadMany : Addr} (gx_BadMany : mg "BadMany" = some (.ref cx_BadMany)) {cx_BadAllowance : Addr} (gx_BadAllowance : mg "BadAllowance" = some (.ref cx_BadAllowance)) (ew_BadAllowance : ErrW P w K mg base (cm "BadAllowance") "BadAllowance") (ew_BadCount : ErrW P w K mg base (cm "BadCount") "BadCount") (ew_BadPlace : ErrW P w K mg base (cm "BadPlace") "BadPlace") (ew_BadMany : ErrW P w K mg base (cm "BadMany") "BadMany") (ew_BadDate : ErrW P w K mg base (cm "BadDate") "BadDate") (ew_BadStock : ErrW P w K mg base (cm "BadStock") "BadStock") (ew_BadList : ErrW P w K mg base (cm "BadList") "BadList") (ew_UnknownPlace : ErrW P w K mg base (cm "UnknownPlace") "UnknownPlace") (ew_RingOfLists : ErrW P w K mg base (cm "RingOfLists") "RingOfLists") (ew_TooMany : ErrW P w K mg base (cm "TooMany") "TooMany") (ew_UnknownList : ErrW P w K mg base (cm "UnknownList") "UnknownList") (ew_Lacking : ErrW P w K mg base (cm "Lacking") "Lacking") (ew_NothingToUndo : ErrW P w K mg base (cm "NothingToUndo") "NothingToUndo") (ky_NothingToUndo_ValueError : PySem.W.kitOne K (.ref (cm "NothingToUndo")) (.type "ValueError") = some false) (ky_TooMany_ValueError : PySem.W.kitOne K (.ref (cm "TooMany")) (.type "ValueError") = some false) (ky_UnknownList_ValueError : PySem.W.kitOne K (.ref (cm "UnknownList")) (.type "ValueError") = some false) (ky_UnknownPlace_ValueError : PySem.W.kitOne K (.ref (cm "UnknownPlace")) (.type "ValueError") = some false) (ky_Lacking_ValueError : PySem.W.kitOne K (.ref (cm "Lacking")) (.type "ValueError") = some true) (ky_RingOfLists_ValueError : PySem.W.kitOne K (.ref (cm "RingOfLists")) (.type "ValueError") = some true) (ky_BadStock_ValueError : PySem.W.kitOne K (.ref (cm "BadStock")) (.type "ValueError") = some true) (ky_BadList_ValueError : PySem.W.kitOne K (.ref (cm "BadList")) (.type "ValueError") = some true) (ky_BadMany_ValueError : PySem.W.kitOne K (.ref (cm "BadMany")) (.type "ValueError") = some true) (ky_BadDate_ValueError : PySem.W.kitOne K (.ref (cm "BadDate")) (.type "ValueError") = some true) (ky_BadCount_ValueError : PySem.W.kitOne K (.ref (cm "BadCount")) (.type "ValueError") = some true) (ky_BadPlace_ValueError : PySem.W.kitOne K (.ref (cm "BadPlace")) (.type "ValueError") = some true) (ky_BadAllowance_ValueError : PySem.W.kitOne K (.ref (cm "BadAllowance")) (.type "ValueError") = some true) (ky_NothingToUndo_PartsError : PySem.W.kitOne K (.ref (cm "NothingToUndo")) (.ref cx_PartsError) = some false) (ky_TooMany_PartsError : PySem.W.kitOne K (.ref (cm "TooMany")) (.ref cx_PartsError) = some false) (ky_UnknownList_PartsError : PySem.W.kitOne K (.ref (cm "UnknownList")) (.ref cx_PartsError) = some false) (ky_UnknownPlace_PartsError : PySem.W.kitOne K (.ref (cm "UnknownPlace")) (.ref cx_PartsError) = some false) (ky_Lacking_PartsError : PySem.W.kitOne K (.ref (cm "Lacking")) (.ref cx_PartsError) = some true) (ky_RingOfLists_PartsError : PySem.W.kitOne K (.ref (cm "RingOfLists")) (.ref cx_PartsError) = some true) (ky_BadStock_PartsError : PySem.W.kitOne K (.ref (cm "BadStock")) (.ref cx_PartsError) = some true) (ky_BadList_PartsError : PySem.W.kitOne K (.ref (cm "BadList")) (.ref cx_PartsError) = some true) (ky_BadMany_PartsError : PySem.W.kitOne K (.ref (cm "BadMany")) (.ref cx_PartsError) = some true) (ky_BadDate_PartsError : PySem.W.kitOne K (.ref (cm "BadDate")) (.ref cx_PartsError) = some true) (ky_BadCount_PartsError : PySem.W.kitOne K (.ref (cm "BadCount")) (.ref cx_PartsError) = some true) (ky_BadPlace_PartsError : PySem.W.kitOne K (.ref (cm "BadPlace")) (.ref cx_PartsError) = some true) (ky_BadAllowance_PartsError : PySem.W.kitOne K (.ref (cm "BadAllowance")) (.ref cx_PartsError) = some true) (ky_BadDate_BadMany : PySem.W.kitOne K (.ref (cm "BadDate")) (.ref cx_BadMany) = some false) (ky_BadPlace_BadAllowance : PySem.W.kitOne K (.ref (cm "BadPlace")) (.ref cx_BadAllowance) = some false) (ky_UnknownList_KeyError : PySem.W.kitOne K (.ref (cm "UnknownList")) (.type "KeyError") = some true) (ky_UnknownPlace_KeyError : PySem.W.kitOne K (.ref (cm "UnknownPlace")) (.type "KeyError") = some true) (ky_NothingToUndo_RuntimeError : PySem.W.kitOne K (.ref (cm "NothingToUndo")) (.type "RuntimeError") = some true) (ky_TooMany_OverflowError : PySem.W.kitOne K (.ref (cm "TooMany")) (.type "OverflowError") = some true) :
    FnOk P w K mg base CX0 3 f fd ["_law_script"] (spM K cm m_law) :=
  efn F sc_law fun cdv A outer s H E hr => (rss_cons (rs_for (vs := [1]) PassesOwn.never rfl (ri_rng1 z_range (re_callB (call_max2 rfl) wMax z_max (ra_cons (re_int) (ra_cons (re_callB (call_min2 rfl) wMin z_min (ra_cons (re_callB oLen wLen z_len (ra_cons (re_var 0) ra_nil)) (ra_cons (re_int) ra_nil))) ra_nil)))) (rg_name 1 sc_law.nd) (rss_cons (rs_asg (vs := [2]) (re_call G__law_pool (hr.mono (by decide)) g__law_pool k__law_pool b__law_pool (ra_cons (re_var 0) (ra_cons (re_var 1) ra_nil))) (rg_name 2 sc_law.nd))
    (rss_cons (rs_for (vs := [3]) PassesOwn.never rfl (ri_any (re_lst (ra_cons (re_non) (ra_cons (re_int) (ra_cons (re_str) (ra_cons (re_tup ra_nil) (ra_cons (re_lst (ra_cons (re_int) ra_nil)) (ra_cons (re_call G__law_draw (hr.mono (by decide)) g__law_draw k__law_draw b__law_draw (ra_cons (re_var 2) (ra_cons (re_op op_pow wPow (re_int) (re_int)) ra_nil))) ra_nil)))))))) (rg_name 3 sc_law.nd) (rss_cons (rs_if (rw_t (rt_or (rt_cmp (op_neD hr.units) wNe (re_fldX hx_BadAllowance (re_mkw er_BadAllowance ew_BadAllowance (hr.mono (by decide)) (re_var 3))) (re_var 3)) (rt_or1 (rt_cmp (op_neD hr.units) wNe (re_fldX hx_BadAllowance (re_mkx er_BadAllowance (hr.mono (by decide)) (ra_cons (re_var 3) ra_nil))) (re_var 3))))) (rss_one (rs_ret (re_bl))) rss_nil)
    (rss_cons (rs_if (rw_t (rt_or (rt_cmp (op_neD hr.units) wNe (re_fldX hx_BadPlace (re_mkw er_BadPlace ew_BadPlace (hr.mono (by decide)) (re_var 3))) (re_var 3)) (rt_or1 (rt_cmp (op_neD hr.units) wNe (re_fldX hx_BadCount (re_mkw er_BadCount ew_BadCount (hr.mono (by decide)) (re_var 3))) (re_var 3))))) (rss_one (rs_ret (re_bl))) rss_nil)
    (rss_cons (rs_if (rw_t (rt_or (rt_cmp (op_neD hr.units) wNe (re_fldX hx_BadDate (re_mkw er_BadDate ew_BadDate (hr.mono (by decide)) (re_var 3))) (re_var 3)) (rt_or1 (rt_cmp (op_neD hr.units) wNe (re_fldX hx_BadMany (re_mkw er_BadMany ew_BadMany (hr.mono (by decide)) (re_var 3))) (re_var 3))))) (rss_one (rs_ret (re_bl))) rss_nil)
    (rss_cons (rs_if (rw_t (rt_or (rt_cmp (op_neD hr.units) wNe (re_fldX hx_BadList (re_mkw er_BadList ew_BadList (hr.mono (by decide)) (re_var 3))) (re_var 3)) (rt_or1 (rt_cmp (op_neD hr.units) wNe (re_fldX hx_BadStock (re_mkw er_BadStock ew_BadStock (hr.mono (by decide)) (re_var 3))) (re_var 3))))) (rss_one (rs_ret (re_bl))) rss_nil)
    (rss_cons (rs_if (rw_t (rt_or (rt_cmp (op_neD hr.units) wNe (re_fldX hx_RingOfLists (re_mkw er_RingOfLists ew_RingOfLists (hr.mono (by decide)) (re_var 3))) (re_var 3)) (rt_or1 (rt_cmp (op_neD hr.units) wNe (re_fldX hx_UnknownPlace (re_mkw er_UnknownPlace ew_UnknownPlace (hr.mono (by decide)) (re_var 3))) (re_var 3))))) (rss_one (rs_ret (re_bl))) rss_nil)
    (rss_cons (rs_if (rw_t (rt_or (rt_cmp (op_neD hr.units) wNe (re_fldX hx_UnknownList (re_mkw er_UnknownList ew_UnknownList (hr.mono (by decide)) (re_var 3))) (re_var 3)) (rt_or1 (rt_cmp (op_neD hr.units) wNe (re_fldX hx_TooMany (re_mkw er_TooMany ew_TooMany (hr.mono (by decide)) (re_var 3))) (re_var 3))))) (rss_one (rs_ret (re_bl))) rss_nil)
    (rss_one (rs_if (rw_t (rt_or (rt_cmp (op_neD hr.units) wNe (re_fldX hx_NothingToUndo (re_mkw er_NothingToUndo ew_NothingToUndo (hr.mono (by decide)) (re_var 3))) (re_var 3)) (rt_or1 (rt_cmp (op_neD hr.units) wNe (re_fldX hx_Lacking (re_mkw er_Lacking ew_Lacking (hr.mono (by decide)) (re_var 3))) (re_var 3))))) (rss_one (rs_ret (re_bl))) rss_nil)))))))))
    (rss_cons (rs_asg (vs := [4]) (re_lst (ra_cons (re_mkx er_BadAllowance (hr.mono (by decide)) (ra_cons (re_int) ra_nil)) (ra_cons (re_mkx er_BadPlace (hr.mono (by decide)) (ra_cons (re_int) ra_nil)) (ra_cons (re_mkx er_BadCount (hr.mono (by decide)) (ra_cons (re_int) ra_nil)) (ra_cons (re_mkx er_BadDate (hr.mono (by decide)) (ra_cons (re_int) ra_nil)) (ra_cons (re_mkx er_BadMany (hr.mono (by decide)) (ra_cons (re_int) ra_nil)) (ra_cons (re_mkx er_BadList (hr.mono (by decide)) (ra_cons (re_int) ra_nil)) (ra_cons (re_mkx er_BadStock (hr.mono (by decide)) (ra_cons (re_int) ra_nil)) ra_nil)))))))) (rg_name 4 sc_law.nd))
    (rss_cons (rs_for (vs := [5]) PassesOwn.never rfl (ri_any (re_op oAdd wAdd (re_var 4) (re_lst (ra_cons (re_mkx er_RingOfLists (hr.mono (by decide)) (ra_cons (re_int) ra_nil)) (ra_cons (re_mkx er_Lacking (hr.mono (by decide)) (ra_cons (re_int) ra_nil)) ra_nil))))) (rg_name 5 sc_law.nd) (rss_one (rs_if (rw_t (rt_or (rt_not (rt_tru (re_isX z_isinstance gx_PartsError (isx_cons hx_BadAllowance.ec ky_BadAllowance_PartsError (isx_cons hx_BadPlace.ec ky_BadPlace_PartsError (isx_cons hx_BadCount.ec ky_BadCount_PartsError (isx_cons hx_BadDate.ec ky_BadDate_PartsError (isx_cons hx_BadMany.ec ky_BadMany_PartsError (isx_cons hx_BadList.ec ky_BadList_PartsError (isx_cons hx_BadStock.ec ky_BadStock_PartsError (isx_cons hx_RingOfLists.ec ky_RingOfLists_PartsError (isx_cons hx_Lacking.ec ky_Lacking_PartsError (isx_cons hx_UnknownPlace.ec ky_UnknownPlace_PartsError (isx_cons hx_UnknownList.ec ky_UnknownList_PartsError (isx_cons hx_TooMany.ec ky_TooMany_PartsError (isx_cons hx_NothingToUndo.ec ky_NothingToUndo_PartsError isx_nil))))))))))))) (re_var 5)))) (rt_or1 (rt_not (rt_tru (re_isXB (T := "ValueError") z_isinstance z_ValueError (isx_cons hx_BadAllowance.ec ky_BadAllowance_ValueError (isx_cons hx_BadPlace.ec ky_BadPlace_ValueError (isx_cons hx_BadCount.ec ky_BadCount_ValueError (isx_cons hx_BadDate.ec ky_BadDate_ValueError (isx_cons hx_BadMany.ec ky_BadMany_ValueError (isx_cons hx_BadList.ec ky_BadList_ValueError (isx_cons hx_BadStock.ec ky_BadStock_ValueError (isx_cons hx_RingOfLists.ec ky_RingOfLists_ValueError (isx_cons hx_Lacking.ec ky_Lacking_ValueError (isx_cons hx_UnknownPlace.ec ky_UnknownPlace_ValueError (isx_cons hx_UnknownList.ec ky_UnknownList_ValueError (isx_cons hx_TooMany.ec ky_TooMany_ValueError (isx_cons hx_NothingToUndo.ec ky_NothingToUndo_ValueError isx_nil))))))))))))) (re_var 5))))))) (rss_one (rs_ret (re_bl))) rss_nil)))
    (rss_cons (rs_if (rw_t (rt_or (rt_tru (re_isX z_isinstance gx_BadAllowance (isx_cons hx_BadPlace.ec ky_BadPlace_BadAllowance isx_nil) (re_mkx er_BadPlace (hr.mono (by decide)) (ra_cons (re_int) ra_nil)))) (rt_or1 (rt_tru (re_isX z_isinstance gx_BadMany (isx_cons hx_BadDate.ec ky_BadDate_BadMany isx_nil) (re_mkx er_BadDate (hr.mono (by decide)) (ra_cons (re_int) ra_nil))))))) (rss_one (rs_ret (re_bl))) rss_nil)
    (rss_cons (rs_if (rw_t (rt_or (rt_not (rt_tru (re_isXB (T := "KeyError") z_isinstance z_KeyError (isx_cons hx_UnknownPlace.ec ky_UnknownPlace_KeyError isx_nil) (re_mkx er_UnknownPlace (hr.mono (by decide)) (ra_cons (re_int) ra_nil))))) (rt_or1 (rt_not (rt_tru (re_isXB (T := "KeyError") z_isinstance z_KeyError (isx_cons hx_UnknownList.ec ky_UnknownList_KeyError isx_nil) (re_mkx er_UnknownList (hr.mono (by decide)) (ra_cons (re_int) ra_nil)))))))) (rss_one (rs_ret (re_bl))) rss_nil)
    (rss_cons (rs_if (rw_t (rt_or (rt_not (rt_tru (re_isXB (T := "OverflowError") z_isinstance z_OverflowError (isx_cons hx_TooMany.ec ky_TooMany_OverflowError isx_nil) (re_mkx er_TooMany (hr.mono (by decide)) (ra_cons (re_int) ra_nil))))) (rt_or1 (rt_not (rt_tru (re_isXB (T := "RuntimeError") z_isinstance z_RuntimeError (isx_cons hx_NothingToUndo.ec ky_NothingToUndo_RuntimeError isx_nil) (re_mkx er_NothingToUndo (hr.mono (by decide)) (ra_cons (re_int) ra_nil)))))))) (rss_one (rs_ret (re_bl))) rss_nil)
    (rss_one (rs_for (vs := [5]) PassesOwn.never rfl (ri_any (re_lst (ra_cons (re_mkx er_UnknownPlace (hr.mono (by decide)) (ra_cons (re_int) ra_nil)) (ra_cons (re_mkx er_UnknownList (hr.mono (by decide)) (ra_cons (re_int) ra_nil)) (ra_cons (re_mkx er_TooMany (hr.mono (by decide)) (ra_cons (re_int) ra_nil)) (ra_cons (re_mkx er_NothingToUndo (hr.mono (by decide)) (ra_cons (re_int) ra_nil)) ra_nil)))))) (rg_name 5 sc_law.nd) (rss_one (rs_if (rt_tru (re_isX z_isinstance gx_PartsError (isx_cons hx_BadAllowance.ec ky_BadAllowance_PartsError (isx_cons hx_BadPlace.ec ky_BadPlace_PartsError (isx_cons hx_BadCount.ec ky_BadCount_PartsError (isx_cons hx_BadDate.ec ky_BadDate_PartsError (isx_cons hx_BadMany.ec ky_BadMany_PartsError (isx_cons hx_BadList.ec ky_BadList_PartsError (isx_cons hx_BadStock.ec ky_BadStock_PartsError (isx_cons hx_RingOfLists.ec ky_RingOfLists_PartsError (isx_cons hx_Lacking.ec ky_Lacking_PartsError (isx_cons hx_UnknownPlace.ec ky_UnknownPlace_PartsError (isx_cons hx_UnknownList.ec ky_UnknownList_PartsError (isx_cons hx_TooMany.ec ky_TooMany_PartsError (isx_cons hx_NothingToUndo.ec ky_NothingToUndo_PartsError isx_nil))))))))))))) (re_var 5))) (rss_one (rs_ret (re_bl))) rss_nil))))))))))))
    (rss_one (rs_ret (re_bl))))
abbrev s_BadAllowance___init__ : Stmt := inCls (topS 2) 0
theorem sc_BadAllowance___init__ : FnScope ["self", "index"] ["self", "index"] (defScope s_BadAllowance___init__) := ⟨rfl, rfl, rfl, by decide +kernel, rfl, by decide +kernel, by decide +kernel⟩
abbrev s_BadPlace___init__ : Stmt := inCls (topS 3) 0
theorem sc_BadPlace___init__ : FnScope ["self", "index"] ["self", "index"] (defScope s_BadPlace___init__) := ⟨rfl, rfl, rfl, by decide +kernel, rfl, by decide +kernel, by decide +kernel⟩
abbrev s_BadCount___init__ : Stmt := inCls (topS 4) 0
theorem sc_BadCount___init__ : FnScope ["self", "part"] ["self", "part"] (defScope s_BadCount___init__) := ⟨rfl, rfl, rfl, by decide +kernel, rfl, by decide +kernel, by decide +kernel⟩
abbrev s_BadDate___init__ : Stmt := inCls (topS 5) 0
theorem sc_BadDate___init__ : FnScope ["self", "date"] ["self", "date"] (defScope s_BadDate___init__) := ⟨rfl, rfl, rfl, by decide +kernel, rfl, by decide +kernel, by decide +kernel⟩
abbrev s_BadMany___init__ : Stmt := inCls (topS 6) 0
theorem sc_BadMany___init__ : FnScope ["self", "many"] ["self", "many"] (defScope s_BadMany___init__) := ⟨rfl, rfl, rfl, by decide +kernel, rfl, by decide +kernel, by decide +kernel⟩
abbrev s_BadList___init__ : Stmt := inCls (topS 7) 0
theorem sc_BadList___init__ : FnScope ["self", "value"] ["self", "value"] (defScope s_BadList___init__) := ⟨rfl, rfl, rfl, by decide +kernel, rfl, by decide +kernel, by decide +kernel⟩
abbrev s_BadStock___init__ : Stmt := inCls (topS 8) 0
theorem sc_BadStock___init__ : FnScope ["self", "value"] ["self", "value"] (defScope s_BadStock___init__) := ⟨rfl, rfl, rfl, by decide +kernel, rfl, by decide +kernel, by decide +kernel⟩
abbrev s_RingOfLists___init__ : Stmt := inCls (topS 9) 0
theorem sc_RingOfLists___init__ : FnScope ["self", "word"] ["self", "word"] (defScope s_RingOfLists___init__) := ⟨rfl, rfl, rfl, by decide +kernel, rfl, by decide +kernel, by decide +kernel⟩
abbrev s_Lacking___init__ : Stmt := inCls (topS 10) 0
theorem sc_Lacking___init__ : FnScope ["self", "few"] ["self", "few"] (defScope s_Lacking___init__) := ⟨rfl, rfl, rfl, by decide +kernel, rfl, by decide +kernel, by decide +kernel⟩
abbrev s_UnknownPlace___init__ : Stmt := inCls (topS 11) 0
theorem sc_UnknownPlace___init__ : FnScope ["self", "word"] ["self", "word"] (defScope s_UnknownPlace___init__) := ⟨rfl, rfl, rfl, by decide +kernel, rfl, by decide +kernel, by decide +kernel⟩
abbrev s_UnknownList___init__ : Stmt := inCls (topS 12) 0
theorem sc_UnknownList___init__ : FnScope ["self", "word"] ["self", "word"] (defScope s_UnknownList___init__) := ⟨rfl, rfl, rfl, by decide +kernel, rfl, by decide +kernel, by decide +kernel⟩
abbrev s_TooMany___init__ : Stmt := inCls (topS 13) 0
theorem sc_TooMany___init__ : FnScope ["self", "limit"] ["self", "limit"] (defScope s_TooMany___init__) := ⟨rfl, rfl, rfl, by decide +kernel, rfl, by decide +kernel, by decide +kernel⟩
abbrev s_NothingToUndo___init__ : Stmt := inCls (topS 14) 0
theorem sc_NothingToUndo___init__ : FnScope ["self", "index"] ["self", "index"] (defScope s_NothingToUndo___init__) := ⟨rfl, rfl, rfl, by decide +kernel, rfl, by decide +kernel, by decide +kernel⟩
theorem draw_eq : m__law_draw = cDraw := rfl
theorem pool_eq : m__law_pool = cPool := rfl
def pq (C f : Str) : MT := tVal (mBin (fEq true) (mFldX C f (mMkX C (aCons (mVar 3) aNil))) (mVar 3))
def blk (C f D g : Str) : MS := sIf (tOr (pq C f) (pq D g)) (sRet (mC (.bl false))) sNil
abbrev one (C : Str) : ME := mMkX C (aCons (mC (.int 1)) aNil)
def ones : List Str → MA
  | [] => aNil
  | C :: r => aCons (one C) (ones r)
def tabP : List (Str × Bool) := [("BadAllowance", true), ("BadPlace", true), ("BadCount", true), ("BadDate", true), ("BadMany", true), ("BadList", true), ("BadStock", true), ("RingOfLists", true), ("Lacking", true), ("UnknownPlace", false), ("UnknownList", false), ("TooMany", false), ("NothingToUndo", false)]
def body1 : MS := sSeq (blk "BadAllowance" "index" "BadAllowance" "index") (sSeq (blk "BadPlace" "index" "BadCount" "part") (sSeq (blk "BadDate" "date" "BadMany" "many") (sSeq (blk "BadList" "value" "BadStock" "value") (sSeq (blk "RingOfLists" "word" "UnknownPlace" "word") (sSeq (blk "UnknownList" "word" "TooMany" "limit") (blk "NothingToUndo" "index" "Lacking" "few"))))))
def loop1 : MS := sForI (iAny (mLst (aCons (mC .non) (aCons (mC (.int 7)) (aCons (mC (.str "word")) (aCons (mTup aNil) (aCons (mLst (aCons (mC (.int 1)) aNil)) (aCons (mCall m__law_draw (aCons (mVar 2) (aCons (mBin fPow (mC (.int 10)) (mC (.int 30))) aNil))) aNil)))))))) (gNm 3) body1
def cs2 : List Str := ["RingOfLists", "Lacking"]
def cs4 : List Str := ["UnknownPlace", "UnknownList", "TooMany", "NothingToUndo"]
def cs7 : List Str := ["BadAllowance", "BadPlace", "BadCount", "BadDate", "BadMany", "BadList", "BadStock"]
def loop2 : MS := sForI (iAny (mBin fAdd (mVar 4) (mLst (ones cs2)))) (gNm 5) (sIf (tOr (tNot (tTru (mIsX tabP (mVar 5)))) (tNot (tTru (mIsX tabP (mVar 5))))) (sRet (mC (.bl false))) sNil)
def chk1 : MS := sIf (tOr (tTru (mIsX [("BadPlace", false)] (one "BadPlace"))) (tTru (mIsX [("BadDate", false)] (one "BadDate")))) (sRet (mC (.bl false))) sNil
def chk2 (C D : Str) : MS := sIf (tOr (tNot (tTru (mIsX [(C, true)] (one C)))) (tNot (tTru (mIsX [(D, true)] (one D))))) (sRet (mC (.bl false))) sNil
def loop3 : MS := sForI (iAny (mLst (ones cs4))) (gNm 5) (sIf (tTru (mIsX tabP (mVar 5))) (sRet (mC (.bl false))) sNil)
def turn : MS := sSeq (sAsg (gNm 2) (mCall m__law_pool (aCons (mVar 0) (aCons (mVar 1) aNil)))) (sSeq loop1 (sSeq (sAsg (gNm 4) (mLst (ones cs7))) (sSeq loop2 (sSeq chk1 (sSeq (chk2 "UnknownPlace" "UnknownList") (sSeq (chk2 "TooMany" "NothingToUndo") loop3))))))
theorem law_eq : m_law = mFn 1 6 (sSeq (sForI (iRg1 (mCall bMax (aCons (mC (.int 1)) (aCons (mCall bMin (aCons (mCall bLen (aCons (mVar 0) aNil)) (aCons (mC (.int 2)) aNil))) aNil)))) (gNm 1) turn) (sRet (mC (.bl true)))) := rfl
/-! ### the values -/
def G (h : Hw) (w : W) : Prop := w = .non ∨ (∃ i, w = .int i) ∨ w = .str "word" ∨ w = .tup [] ∨ ∃ p, w = .ref p ∧ h[p]? = some (.lst [.int 1])
theorem G.pre {h h' : Hw} {w : W} (g : G h w) (p : h <+: h') : G h' w := by
  rcases g with g | g | g | g | ⟨q, g, e⟩
  · exact .inl g
  · exact .inr (.inl g)
  · exact .inr (.inr (.inl g))
  · exact .inr (.inr (.inr (.inl g)))
  · exact .inr (.inr (.inr (.inr ⟨q, g, Pre.get p e⟩)))
theorem int_eqv (i : Int) : PyData.eqv (.int i) (.int i) = true := by simp [PyData.eqv]
theorem ne_self {h : Hw} {w : W} {P : W → Hw → Prop} (g : G h w) (p : P (.bl false) h) : Ok (fEq true w w) h P := by
  have key : ∀ d, toD h 8 w = some d → SeqAt.shaped d = true → PyData.eqv d d = true → Ok (fEq true w w) h P := fun d e1 e2 e3 => by
    refine ok_eq e1 e1 (by rw [e2]; rfl) ?_
    rw [e3]
    exact p
  rcases g with rfl | ⟨i, rfl⟩ | rfl | rfl | ⟨q, rfl, e⟩
  · exact key _ rfl (by decide +kernel) (by decide +kernel)
  · exact key _ rfl (by rfl) (int_eqv i)
  · exact key _ rfl (by decide +kernel) (by decide +kernel)
  · exact key _ rfl (by decide +kernel) (by decide +kernel)
  · exact key (.list [.int 1]) (by
      show (match h[q]? with
        | some (.lst xs) => (mapO (toD h 7) xs).map PyData.list
        | _ => none) = _
      rw [e]
      rfl) (by decide +kernel) (by decide +kernel)
theorem mkx_ok {C : Str} {mr : MA} {sw : SW} {h : Hw} {P : W → Hw → Prop} (o : Ok (mr sw) h fun ws h1 => ∃ v, ws = [v] ∧ P (.ref h1.length) (h1 ++ [.xc C (fieldOf C) v])) : Ok (mMkX C mr sw) h P := ok_bnd (o.imp fun ws h1 q => by
  obtain ⟨v, rfl, p⟩ := q
  exact ⟨_, _, rfl, p⟩)
theorem xcB_at {h : Hw} {p : Nat} {C f : Str} {w : W} (e : h[p]? = some (.xc C f w)) : xcB h (.ref p) = some (C, f, w) := by
  unfold xcB
  dsimp only
  rw [e]
theorem pq_ok {C f : Str} {sw : SW} {h : Hw} {w : W} {P : Bool → Hw → Prop} (hf : fieldOf C = f) (e : sw[3]? = some (some w)) (g : G h w) (p : ∀ h', h <+: h' → P false h') : Ok (pq C f sw) h P := by
  subst hf
  unfold pq
  refine ok_tVal (ok_bin ?_)
  have mk : Ok (mFldX C (fieldOf C) (mMkX C (aCons (mVar 3) aNil)) sw) h fun x h1 => x = w ∧ h <+: h1 := by
    refine ok_bnd (mkx_ok (ok_aCons (ok_var e (ok_aNil ⟨w, rfl, ?_⟩))))
    have e1 : xcB (h ++ [.xc C (fieldOf C) w]) (.ref h.length) = some (C, fieldOf C, w) := xcB_at (by simp)
    refine ⟨w, h ++ [.xc C (fieldOf C) w], ?_, rfl, List.prefix_append _ _⟩
    dsimp only
    rw [e1]
    dsimp only
    rw [if_pos ⟨rfl, rfl⟩]
  refine mk.imp fun x h1 q => ?_
  obtain ⟨rfl, q⟩ := q
  exact ok_var e (ne_self (g.pre q) ⟨false, rfl, p _ q⟩)
theorem blk_ok {C f D k : Str} {sw : SW} {h : Hw} {w : W} {P : Fl → Hw → Prop} (hf : fieldOf C = f) (hg : fieldOf D = k) (e : sw[3]? = some (some w)) (g : G h w) (p : ∀ h', h <+: h' → P (.nx sw) h') : Ok (blk C f D k sw) h P := by
  unfold blk
  refine ok_sIf (ok_tOr (pq_ok hf e g fun h1 q1 => okF (pq_ok hg e (g.pre q1) fun h2 q2 => okF (ok_sNil (p _ (q1.trans q2))))))
theorem body1_ok {sw : SW} {h : Hw} {w : W} {P : Fl → Hw → Prop} (e : sw[3]? = some (some w)) (g : G h w) (p : ∀ h', h <+: h' → P (.nx sw) h') : Ok (body1 sw) h P := by
  unfold body1
  refine ok_sSeq (blk_ok (by decide +kernel) (by decide +kernel) e g fun h1 q1 => ?_)
  refine ok_sSeq (blk_ok (by decide +kernel) (by decide +kernel) e (g.pre q1) fun h2 q2 => ?_)
  have g2 := (g.pre q1).pre q2
  refine ok_sSeq (blk_ok (by decide +kernel) (by decide +kernel) e g2 fun h3 q3 => ?_)
  have g3 := g2.pre q3
  refine ok_sSeq (blk_ok (by decide +kernel) (by decide +kernel) e g3 fun h4 q4 => ?_)
  have g4 := g3.pre q4
  refine ok_sSeq (blk_ok (by decide +kernel) (by decide +kernel) e g4 fun h5 q5 => ?_)
  have g5 := g4.pre q5
  refine ok_sSeq (blk_ok (by decide +kernel) (by decide +kernel) e g5 fun h6 q6 => ?_)
  have g6 := g5.pre q6
  exact blk_ok (by decide +kernel) (by decide +kernel) e g6 fun h7 q7 => p _ (((((q1.trans q2).trans q3).trans q4).trans q5).trans (q6.trans q7))
/-- errors that are made at once -/
theorem ones_ok {sw : SW} {P : List W → Hw → Prop} : ∀ {cs : List Str} {h : Hw}, (∀ ws h', h <+: h' → ws.length = cs.length → (∀ (i : Nat) (C : Str), cs[i]? = some C → ∃ p, (ws : List W)[i]? = some (W.ref p) ∧ (h' : Hw)[p]? = some (O.xc C (fieldOf C) (.int 1))) → P ws h') → Ok (ones cs sw) h P
  | [], h, p => ok_aNil (p [] h (List.prefix_refl _) rfl fun i C e => by simp at e)
  | C :: r, h, p => ok_aCons (mkx_ok (ok_aCons (ok_c (ok_aNil ⟨_, rfl, ones_ok fun ws h' q l e => by
      refine p _ h' ((List.prefix_append _ _).trans q) (by simp [l]) fun i D ei => ?_
      cases i with
      | zero =>
        simp only [List.getElem?_cons_zero, Option.some.injEq] at ei
        subst ei
        exact ⟨h.length, rfl, Pre.get q (by simp)⟩
      | succ i =>
        obtain ⟨pp, a, b⟩ := e i D (by simpa using ei)
        exact ⟨pp, by simpa using a, b⟩⟩))))
theorem isx_ok {tab : List (Str × Bool)} {a : ME} {sw : SW} {h : Hw} {b : Bool} {P : Bool → Hw → Prop} (o : Ok (a sw) h fun x h1 => ∃ q, xcB h1 x = some q ∧ tab.lookup q.1 = some b ∧ P b h1) : Ok (tTru (mIsX tab a) sw) h P := by
  refine ok_tTru (ok_bnd (o.imp fun x h1 q => ?_))
  obtain ⟨q, e1, e2, p⟩ := q
  refine ⟨.bl b, h1, ?_, ok_tru_bl p⟩
  dsimp only
  rw [e1]
  dsimp only
  rw [e2]
theorem isx1_ok {C : Str} {tab : List (Str × Bool)} {sw : SW} {h : Hw} {b : Bool} {P : Bool → Hw → Prop} (e : tab.lookup C = some b) (p : ∀ h', h <+: h' → P b h') : Ok (tTru (mIsX tab (one C)) sw) h P :=
  isx_ok (mkx_ok (ok_aCons (ok_c (ok_aNil ⟨_, rfl, _, xcB_at (C := C) (f := fieldOf C) (w := .int 1) (by simp), e, p _ (List.prefix_append _ _)⟩))))
theorem isxv_ok {tab : List (Str × Bool)} {i p : Nat} {C f : Str} {w : W} {sw : SW} {h : Hw} {b : Bool} {P : Bool → Hw → Prop} (ev : sw[i]? = some (some (.ref p))) (e0 : h[p]? = some (.xc C f w)) (e : tab.lookup C = some b) (q : P b h) : Ok (tTru (mIsX tab (mVar i)) sw) h P :=
  isx_ok (ok_var ev ⟨_, xcB_at e0, e, q⟩)
def PoolAt (n : Nat) (h : Hw) : Prop := ∃ a b : Int, 0 ≤ a ∧ 0 ≤ b ∧ h[n]? = some (pl a b)
def Kb (n : Nat) (h h' : Hw) : Prop := ∀ j o, j ≠ n → h[j]? = some o → h'[j]? = some o
theorem Kb.refl {n : Nat} {h : Hw} : Kb n h h := fun _ _ _ e => e
theorem Kb.trans {n : Nat} {h h1 h2 : Hw} (a : Kb n h h1) (b : Kb n h1 h2) : Kb n h h2 := fun j o hj e => b j o hj (a j o hj e)
theorem Kb.of {n : Nat} {h h' : Hw} (p : h <+: h') : Kb n h h' := fun _ _ _ e => Pre.get p e
theorem PoolAt.pre {n : Nat} {h h' : Hw} (p : PoolAt n h) (q : h <+: h') : PoolAt n h' :=
  let ⟨a, b, a0, b0, e⟩ := p
  ⟨a, b, a0, b0, Pre.get q e⟩
theorem PoolAt.lt {n : Nat} {h : Hw} (p : PoolAt n h) : n < h.length := let ⟨_, _, _, _, e⟩ := p; (List.getElem?_eq_some_iff.mp e).1
theorem PoolAt.set {n D : Nat} {h : Hw} {o : O} (p : PoolAt n h) (hD : D ≠ n) : PoolAt n (h.set D o) :=
  let ⟨a, b, a0, b0, e⟩ := p
  ⟨a, b, a0, b0, by rw [get_set_ne hD]; exact e⟩
theorem draw {n : Nat} {h : Hw} {m : Int} (p : PoolAt n h) (hm : 0 < m) (hl : m.natAbs.log2 < 9000) : Ok (m__law_draw [.ref n, .int m]) h fun r h' => ∃ v, r = .int v ∧ 0 ≤ v ∧ v < m ∧ PoolAt n h' ∧ Kb n h h' ∧ h'.length = h.length := by
  obtain ⟨a, b, a0, b0, e⟩ := p
  rw [draw_eq]
  refine draw_ok e a0 b0 hm hl fun r a' b' r0 r1 a0' b0' => ⟨r, rfl, r0, r1, ⟨a', b', a0', b0', get_set e⟩, fun j o hj eo => ?_, by rw [List.length_set]⟩
  rw [get_set_ne (Ne.symm hj)]
  exact eo

theorem item_lst {h : Hw} {g i : Nat} {xs : List W} (e : h[g]? = some (.lst xs)) : (Src.lst g).item i h = some xs[i]? := by
  unfold Src.item
  simp only [e]
abbrev sw0 (ns : List Int) (x1 x2 x3 x4 x5 : Option W) : SW := [some (.rol (ns.map W.int)), x1, x2, x3, x4, x5]
theorem loop1_ok {ns : List Int} {n : Nat} {x1 x3 x4 x5 : Option W} {h : Hw} {P : Fl → Hw → Prop} (p : PoolAt n h) (q : ∀ y3 h', P (.nx (sw0 ns x1 (some (.ref n)) y3 x4 x5)) h') : Ok (loop1 (sw0 ns x1 (some (.ref n)) x3 x4 x5)) h P := by
  unfold loop1
  refine ok_sForI (ok_iAnyL (ok_lst ?_))
  refine ok_aCons (ok_c (ok_aCons (ok_c (ok_aCons (ok_c (ok_aCons (ok_tup (ok_aNil ⟨by decide +kernel, ?_⟩))))))))
  refine ok_aCons (ok_lst (ok_aCons (ok_c (ok_aNil ⟨by decide +kernel, ?_⟩))))
  have lt := p.lt
  have e1 : (h ++ [O.lst [W.int 1]])[h.length]? = some (.lst [.int 1]) := by simp
  refine ok_aCons (ok_call (ok_aCons (ok_var rfl (ok_aCons (ok_bin (ok_c (ok_c (ok_powI (by decide +kernel) (ok_aNil ?_)))))))))
  refine (draw (p.pre (List.prefix_append _ _)) (by decide +kernel) (by decide +kernel)).imp fun r h2 y => ?_
  obtain ⟨v, rfl, v0, v1, p2, k2, l2⟩ := y
  refine ok_aNil ⟨Nat.le_of_ble_eq_true rfl, ?_⟩
  have e2 := k2 _ _ (show h.length ≠ n by omega) e1
  generalize hL : h2.length = L
  have eL : (h2 ++ [O.lst [W.non, .int 7, .str "word", .tup [], .ref h.length, .int v]])[L]? = some (.lst [.non, .int 7, .str "word", .tup [], .ref h.length, .int v]) := by rw [← hL]; simp
  have e3 := Pre.get (List.prefix_append h2 [O.lst [W.non, .int 7, .str "word", .tup [], .ref h.length, .int v]]) e2
  generalize h2 ++ [O.lst [W.non, .int 7, .str "word", .tup [], .ref h.length, .int v]] = h3 at eL e3 ⊢
  refine ⟨L, _, rfl, eL, ?_⟩
  refine ok_sFor (fun i sw hc => (∃ y3, sw = sw0 ns x1 (some (.ref n)) y3 x4 x5) ∧ h3 <+: hc) (n := 6) _ (Nat.le_refl _) ⟨⟨_, rfl⟩, List.prefix_refl _⟩ (fun i sw hc hi y => ?_) (fun sw hc y => ?_)
  · obtain ⟨⟨y3, rfl⟩, pc⟩ := y
    have ec := Pre.get pc e3
    have key : ∀ w, G hc w → Ok (gNm 3 w (sw0 ns x1 (some (.ref n)) y3 x4 x5)) hc fun s h1 => Ok (body1 s) h1 fun f h2 => match f with
      | .nx s => (∃ y3, s = sw0 ns x1 (some (.ref n)) y3 x4 x5) ∧ h3 <+: h2
      | .ct s => (∃ y3, s = sw0 ns x1 (some (.ref n)) y3 x4 x5) ∧ h3 <+: h2
      | .bk s => P (.nx s) h2
      | .rt w => P (.rt w) h2 := fun w g => ok_gNm (body1_ok (sw := sw0 ns x1 (some (.ref n)) (some w) x4 x5) rfl g fun h' q' => ⟨⟨_, rfl⟩, pc.trans q'⟩)
    rw [item_lst (Pre.get pc eL)]
    match i, hi with
    | 0, _ => exact ⟨_, rfl, key _ (.inl rfl)⟩
    | 1, _ => exact ⟨_, rfl, key _ (.inr (.inl ⟨_, rfl⟩))⟩
    | 2, _ => exact ⟨_, rfl, key _ (.inr (.inr (.inl rfl)))⟩
    | 3, _ => exact ⟨_, rfl, key _ (.inr (.inr (.inr (.inl rfl))))⟩
    | 4, _ => exact ⟨_, rfl, key _ (.inr (.inr (.inr (.inr ⟨_, rfl, ec⟩))))⟩
    | 5, _ => exact ⟨_, rfl, key _ (.inr (.inl ⟨_, rfl⟩))⟩
  · obtain ⟨⟨y3, rfl⟩, pc⟩ := y
    exact ⟨by rw [item_lst (Pre.get pc eL)]; rfl, q _ _⟩
/-- errors in a list -/
def Er (cs : List Str) (h : Hw) (ws : List W) : Prop := ws.length = cs.length ∧ ∀ (i : Nat) (C : Str), cs[i]? = some C → ∃ p, (ws : List W)[i]? = some (W.ref p) ∧ (h : Hw)[p]? = some (O.xc C (fieldOf C) (.int 1))
theorem Er.pre {cs : List Str} {h h' : Hw} {ws : List W} (e : Er cs h ws) (p : h <+: h') : Er cs h' ws := ⟨e.1, fun i C z => let ⟨q, a, b⟩ := e.2 i C z; ⟨q, a, Pre.get p b⟩⟩
theorem Er.app {cs ds : List Str} {h : Hw} {ws us : List W} (e : Er cs h ws) (f : Er ds h us) : Er (cs ++ ds) h (ws ++ us) := by
  refine ⟨by rw [List.length_append, List.length_append, e.1, f.1], fun i C z => ?_⟩
  by_cases hi : i < cs.length
  · rw [List.getElem?_append_left hi] at z
    rw [List.getElem?_append_left (by rw [e.1]; exact hi)]
    exact e.2 i C z
  · rw [List.getElem?_append_right (by omega)] at z
    rw [List.getElem?_append_right (by rw [e.1]; omega), e.1]
    exact f.2 _ C z
theorem ones_er {sw : SW} {cs : List Str} {h : Hw} {P : List W → Hw → Prop} (p : ∀ ws h', h <+: h' → Er cs h' ws → P ws h') : Ok (ones cs sw) h P := ones_ok fun ws h' q l e => p ws h' q ⟨l, e⟩
theorem walk_ok {ns : List Int} {L : Nat} {x1 x2 x3 x4 x5 : Option W} {cs : List Str} {ws : List W} {b : MS} {h : Hw} {P : Fl → Hw → Prop} (eL : h[L]? = some (.lst ws)) (er : Er cs h ws)
    (step : ∀ C p y5 hc, C ∈ cs → h <+: hc → hc[p]? = some (O.xc C (fieldOf C) (.int 1)) → Ok (b (sw0 ns x1 x2 x3 x4 (some (.ref p)))) hc fun f h' => f = .nx (sw0 ns x1 x2 x3 x4 y5) ∧ h <+: h' ∨ f = .nx (sw0 ns x1 x2 x3 x4 (some (.ref p))) ∧ h <+: h') (q : ∀ y5 h', h <+: h' → P (.nx (sw0 ns x1 x2 x3 x4 y5)) h') :
    Ok (sFor (.lst L) (gNm 5) b 0 (ws.length + 1) (sw0 ns x1 x2 x3 x4 x5)) h P := by
  refine ok_sFor (fun i sw hc => (∃ y5, sw = sw0 ns x1 x2 x3 x4 y5) ∧ h <+: hc) (n := ws.length) _ (Nat.le_refl _) ⟨⟨_, rfl⟩, List.prefix_refl _⟩ (fun i sw hc hi y => ?_) (fun sw hc y => ?_)
  · obtain ⟨⟨y5, rfl⟩, pc⟩ := y
    have hi' : i < cs.length := by rw [← er.1]; exact hi
    obtain ⟨p, a, c⟩ := er.2 i cs[i] (List.getElem?_eq_getElem hi')
    refine ⟨.ref p, by rw [item_lst (Pre.get pc eL), a], ok_gNm ?_⟩
    refine (step cs[i] p y5 hc (List.getElem_mem hi') pc (Pre.get pc c)).imp fun f h' z => ?_
    rcases z with ⟨rfl, z⟩ | ⟨rfl, z⟩
    · exact ⟨⟨_, rfl⟩, z⟩
    · exact ⟨⟨_, rfl⟩, z⟩
  · obtain ⟨⟨y5, rfl⟩, pc⟩ := y
    exact ⟨by rw [item_lst (Pre.get pc eL), List.getElem?_eq_none (Nat.le_refl _)], q _ _ pc⟩
theorem tab9 : ∀ C ∈ cs7 ++ cs2, tabP.lookup C = some true := by decide +kernel
theorem tab4 : ∀ C ∈ cs4, tabP.lookup C = some false := by decide +kernel
theorem loop2_ok {ns : List Int} {U : Nat} {x1 x2 x3 x5 : Option W} {us : List W} {h : Hw} {P : Fl → Hw → Prop} (eU : h[U]? = some (.lst us)) (er : Er cs7 h us) (q : ∀ y5 h', P (.nx (sw0 ns x1 x2 x3 (some (.ref U)) y5)) h') : Ok (loop2 (sw0 ns x1 x2 x3 (some (.ref U)) x5)) h P := by
  unfold loop2
  refine ok_sForI (ok_iAnyL (ok_bin (ok_var rfl (ok_lst (ones_er fun ws h1 q1 e1 => ?_)))))
  have l1 : ws.length = 2 := e1.1
  have l0 : us.length = 7 := er.1
  refine ⟨by rw [l1]; decide +kernel, ok_addL (xs := us) (ys := ws) (Pre.get (List.prefix_append _ _) (Pre.get q1 eU)) (by simp) (by rw [l0, l1]; decide +kernel) ?_⟩
  refine ⟨_, us ++ ws, rfl, by simp, ?_⟩
  refine walk_ok (cs := cs7 ++ cs2) (by simp) (((er.pre q1).app e1).pre ((List.prefix_append _ _).trans (List.prefix_append _ _))) (fun C p y5 hc hC pc ec => ?_) fun y5 h' _ => q y5 h'
  refine ok_sIf (ok_tOr (ok_tNot (isxv_ok rfl ec (tab9 C hC) (okNT (ok_tNot (isxv_ok rfl ec (tab9 C hC) (okNT (ok_sNil (.inr ⟨rfl, pc⟩)))))))))
theorem loop3_ok {ns : List Int} {x1 x2 x3 x4 x5 : Option W} {h : Hw} {P : Fl → Hw → Prop} (q : ∀ y5 h', P (.nx (sw0 ns x1 x2 x3 x4 y5)) h') : Ok (loop3 (sw0 ns x1 x2 x3 x4 x5)) h P := by
  unfold loop3
  refine ok_sForI (ok_iAnyL (ok_lst (ones_er fun ws h1 q1 e1 => ?_)))
  have l1 : ws.length = 4 := e1.1
  refine ⟨by rw [l1]; decide +kernel, _, ws, rfl, by simp, ?_⟩
  refine walk_ok (cs := cs4) (by simp) (e1.pre (List.prefix_append _ _)) (fun C p y5 hc hC pc ec => ?_) fun y5 h' _ => q y5 h'
  exact ok_sIf (isxv_ok rfl ec (tab4 C hC) (okF (ok_sNil (.inr ⟨rfl, pc⟩))))
theorem chk1_ok {sw : SW} {h : Hw} {P : Fl → Hw → Prop} (q : ∀ h', P (.nx sw) h') : Ok (chk1 sw) h P := by
  unfold chk1
  exact ok_sIf (ok_tOr (isx1_ok (by decide +kernel) fun h1 _ => okF (isx1_ok (by decide +kernel) fun h2 _ => okF (ok_sNil (q _)))))
theorem chk2_ok {C D : Str} {sw : SW} {h : Hw} {P : Fl → Hw → Prop} (q : ∀ h', P (.nx sw) h') : Ok (chk2 C D sw) h P := by
  unfold chk2
  exact ok_sIf (ok_tOr (ok_tNot (isx1_ok (b := true) (by simp) fun h1 _ => okNT (ok_tNot (isx1_ok (b := true) (by simp) fun h2 _ => okNT (ok_sNil (q _)))))))
theorem turn_ok {ns : List Int} {k : Int} {h : Hw} {x2 x3 x4 x5 : Option W} (k0 : 0 ≤ k) (k1 : k ≤ 100) : Ok (turn (sw0 ns (some (.int k)) x2 x3 x4 x5)) h fun f _ => ∃ y2 y3 y4 y5, f = .nx (sw0 ns (some (.int k)) y2 y3 y4 y5) := by
  unfold turn
  refine ok_sSeq (ok_sAsg (ok_call (ok_aCons (ok_var rfl (ok_aCons (ok_var rfl (ok_aNil ?_)))))))
  rw [pool_eq]
  refine pool_ok k0 (by omega) fun a b g a0 b0 => ?_
  generalize hn : (h ++ g).length = n
  have pl1 : PoolAt n (h ++ g ++ [pl a b]) := ⟨a, b, a0, b0, by rw [← hn]; exact List.getElem?_concat_length⟩
  generalize h ++ g ++ [pl a b] = h1 at pl1 ⊢
  refine ok_gNm ?_
  change Ok _ h1 _
  refine ok_sSeq (loop1_ok pl1 fun y3 h2 => ?_)
  change Ok _ h2 _
  refine ok_sSeq (ok_sAsg (ok_lst (ones_er fun us h3 q3 e3 => ?_)))
  have l3 : us.length = 7 := e3.1
  refine ⟨by rw [l3]; decide +kernel, ok_gNm ?_⟩
  change Ok _ (h3 ++ [O.lst us]) _
  refine ok_sSeq (loop2_ok (us := us) (by simp) (e3.pre (List.prefix_append _ _)) fun y5 h4 => ?_)
  change Ok _ h4 _
  refine ok_sSeq (chk1_ok fun h5 => ?_)
  change Ok _ h5 _
  refine ok_sSeq (chk2_ok fun h6 => ?_)
  change Ok _ h6 _
  refine ok_sSeq (chk2_ok fun h7 => ?_)
  change Ok _ h7 _
  exact loop3_ok fun y5 h8 => ⟨_, _, _, _, rfl⟩
theorem law_true : ∀ ns : List Int, ns.length ≤ 63 → ∃ h', m_law [.rol (ns.map W.int)] [] = .ok (.bl true) h' := fun ns _ => by
  have o : Ok (m_law [.rol (ns.map W.int)]) [] fun w _ => w = .bl true := by
    rw [law_eq]
    refine ok_mFn' (s0 := sw0 ns none none none none none) rfl rfl ?_
    refine ok_sSeq (ok_turns (ns := ns) (fun sw => ∃ y1 y2 y3 y4 y5, sw = sw0 ns y1 y2 y3 y4 y5) (by decide) (by decide) ⟨none, none, none, none, none, rfl⟩ rfl (fun k sw h k0 k1 q => ?_) fun sw h q => ?_)
    · obtain ⟨y1, y2, y3, y4, y5, rfl⟩ := q
      exact (turn_ok k0 k1).imp fun f h' z => by
        obtain ⟨y2, y3, y4, y5, rfl⟩ := z
        exact ⟨_, rfl, _, _, _, _, _, rfl⟩
    · exact ok_sRet (ok_c rfl)
  obtain ⟨w, h', e, rfl⟩ := o
  exact ⟨h', e⟩
theorem all_mk {l : PySem.W.OpenLaw} {w : World} {K : PySem.W.Frag} {h : Heap} {mg : Str → Option Value} {fa : Addr} (X : K.In h) (G : h.Ns mainGlobals mg) (hfa : mg "law" = some (.ref fa))
    {f0 : Addr} {od0 an0 : Option Addr} {sl0 : Array (Option Value)} {oc0 kV0 dc0 pm0 cd0 ct0 : Value}
    (a0 : PySem.W.nsIn K mainGlobals "_law_pool" = some (some (.ref f0)))
    (l0 : K.lookup f0 = some ⟨oc0, od0, .func (PySem.W.fnOf "_law_pool" "_law_pool" (defArgs s__law_pool) (defBody s__law_pool) (defScope s__law_pool) .none kV0 dc0 pm0 an0 cd0 ct0), sl0⟩)
    (c0 : PySem.W.codeIn K cd0 "_law_pool" = true)
    (k0 : PySem.W.keepIn K (.ref f0) = true)
    {f1 : Addr} {od1 an1 : Option Addr} {sl1 : Array (Option Value)} {oc1 kV1 dc1 pm1 cd1 ct1 : Value}
    (a1 : PySem.W.nsIn K mainGlobals "_law_draw" = some (some (.ref f1)))
    (l1 : K.lookup f1 = some ⟨oc1, od1, .func (PySem.W.fnOf "_law_draw" "_law_draw" (defArgs s__law_draw) (defBody s__law_draw) (defScope s__law_draw) .none kV1 dc1 pm1 an1 cd1 ct1), sl1⟩)
    (c1 : PySem.W.codeIn K cd1 "_law_draw" = true)
    (k1 : PySem.W.keepIn K (.ref f1) = true)
    {f2 : Addr} {od2 an2 : Option Addr} {sl2 : Array (Option Value)} {oc2 kV2 dc2 pm2 cd2 ct2 : Value}
    (a2 : PySem.W.nsIn K mainGlobals "law" = some (some (.ref f2)))
    (l2 : K.lookup f2 = some ⟨oc2, od2, .func (PySem.W.fnOf "law" "law" (defArgs s_law) (defBody s_law) (defScope s_law) .none kV2 dc2 pm2 an2 cd2 ct2), sl2⟩)
    (c2 : PySem.W.codeIn K cd2 "law" = true)
    (k2 : PySem.W.keepIn K (.ref f2) = true)
    (z_len : PySem.W.nsIn K mainGlobals "len" = some none)
    (z_sum : PySem.W.nsIn K mainGlobals "sum" = some none)
    (z_abs : PySem.W.nsIn K mainGlobals "abs" = some none)
    (z_int : PySem.W.nsIn K mainGlobals "int" = some none)
    (z_range : PySem.W.nsIn K mainGlobals "range" = some none)
    (z_max : PySem.W.nsIn K mainGlobals "max" = some none)
    (z_min : PySem.W.nsIn K mainGlobals "min" = some none)
    (z_isinstance : PySem.W.nsIn K mainGlobals "isinstance" = some none)
    (z_ValueError : PySem.W.nsIn K mainGlobals "ValueError" = some none)
    (z_KeyError : PySem.W.nsIn K mainGlobals "KeyError" = some none)
    (z_RuntimeError : PySem.W.nsIn K mainGlobals "RuntimeError" = some none)
    (z_OverflowError : PySem.W.nsIn K mainGlobals "OverflowError" = some none)
    {C_PartsError : Addr}
    (gg_PartsError : PySem.W.nsIn K mainGlobals "PartsError" = some (some (.ref C_PartsError)))
    {C_BadAllowance fE_BadAllowance : Addr} {oE_BadAllowance aE_BadAllowance : Option Addr} {slE_BadAllowance : Array (Option Value)} {ocE_BadAllowance kVE_BadAllowance dcE_BadAllowance pmE_BadAllowance cdE_BadAllowance ctE_BadAllowance : Value}
    (eg_BadAllowance : PySem.W.nsIn K mainGlobals "BadAllowance" = some (some (.ref C_BadAllowance)))
    {nmE_BadAllowance qE_BadAllowance : Str} {NE_BadAllowance : Addr} {bsE_BadAllowance bmE_BadAllowance suE_BadAllowance : List Value} {snE_BadAllowance : List Str} {abE_BadAllowance : Bool} {coE_BadAllowance : Option Bool} {ddE_BadAllowance : Option Addr} {k0E_BadAllowance k1E_BadAllowance k2E_BadAllowance k3E_BadAllowance k5E_BadAllowance : Option Value}
    (eo_BadAllowance : K.lookup C_BadAllowance = some (excClassObj nmE_BadAllowance qE_BadAllowance C_BadAllowance NE_BadAllowance bsE_BadAllowance bmE_BadAllowance true snE_BadAllowance suE_BadAllowance abE_BadAllowance coE_BadAllowance ddE_BadAllowance k0E_BadAllowance k1E_BadAllowance k2E_BadAllowance k3E_BadAllowance k5E_BadAllowance "ValueError.__new__"))
    (ev_BadAllowance : PySem.W.excTail [.type "ValueError", .type "Exception", .type "BaseException", .type "object"] bmE_BadAllowance = true)
    (es_BadAllowance : PySem.W.findIn K (.ref C_BadAllowance) "__setattr__" = some (some (.builtin "object.__setattr__")))
    (eb_BadAllowance : PySem.W.subIn K (.ref C_BadAllowance) (.type "BaseException") = some true)
    (et_BadAllowance : PySem.W.typeIn K (.ref C_BadAllowance) = some (.type "type"))
    (ek_BadAllowance : PySem.W.keepIn K (.ref C_BadAllowance) = true)
    (en_BadAllowance : PySem.W.findIn K (.ref C_BadAllowance) "index" = some none)
    (ei_BadAllowance : PySem.W.findIn K (.ref C_BadAllowance) "__init__" = some (some (.ref fE_BadAllowance)))
    (ef_BadAllowance : PySem.W.typeIn K (.ref fE_BadAllowance) = some (.type "function"))
    (el_BadAllowance : K.lookup fE_BadAllowance = some ⟨ocE_BadAllowance, oE_BadAllowance, .func (PySem.W.fnOf "__init__" "BadAllowance.__init__" (defArgs s_BadAllowance___init__) (defBody s_BadAllowance___init__) (defScope s_BadAllowance___init__) .none kVE_BadAllowance dcE_BadAllowance pmE_BadAllowance aE_BadAllowance cdE_BadAllowance ctE_BadAllowance), slE_BadAllowance⟩)
    (ec_BadAllowance : PySem.W.codeIn K cdE_BadAllowance "BadAllowance.__init__" = true)
    (ee_BadAllowance : PySem.W.keepIn K (.ref fE_BadAllowance) = true)
    (h1_BadAllowance : PySem.W.findIn K (.ref C_BadAllowance) "__getattribute__" = some (some (.builtin "BaseException.__getattribute__")))
    (h2_BadAllowance : PySem.W.findIn K (.ref C_BadAllowance) "__getattr__" = some none)
    (h3_BadAllowance : PySem.W.hasDictIn K C_BadAllowance = true)
    (h4_BadAllowance : PySem.W.findIn K (.ref C_BadAllowance) "__class__" = some (some (.builtin "object.__class__")))
    (h5_BadAllowance : PySem.W.specialIn K (.builtin "object.__class__") "__get__" = some (some (.builtin "getset_descriptor.__get__")))
    (h6_BadAllowance : PySem.W.takesIn K (.builtin "object.__class__") = some true)
    (h7_BadAllowance : PySem.W.mroIn K C_BadAllowance (.type "object") = some true)
    {C_BadPlace fE_BadPlace : Addr} {oE_BadPlace aE_BadPlace : Option Addr} {slE_BadPlace : Array (Option Value)} {ocE_BadPlace kVE_BadPlace dcE_BadPlace pmE_BadPlace cdE_BadPlace ctE_BadPlace : Value}
    (eg_BadPlace : PySem.W.nsIn K mainGlobals "BadPlace" = some (some (.ref C_BadPlace)))
    {nmE_BadPlace qE_BadPlace : Str} {NE_BadPlace : Addr} {bsE_BadPlace bmE_BadPlace suE_BadPlace : List Value} {snE_BadPlace : List Str} {abE_BadPlace : Bool} {coE_BadPlace : Option Bool} {ddE_BadPlace : Option Addr} {k0E_BadPlace k1E_BadPlace k2E_BadPlace k3E_BadPlace k5E_BadPlace : Option Value}
    (eo_BadPlace : K.lookup C_BadPlace = some (excClassObj nmE_BadPlace qE_BadPlace C_BadPlace NE_BadPlace bsE_BadPlace bmE_BadPlace true snE_BadPlace suE_BadPlace abE_BadPlace coE_BadPlace ddE_BadPlace k0E_BadPlace k1E_BadPlace k2E_BadPlace k3E_BadPlace k5E_BadPlace "ValueError.__new__"))
    (ev_BadPlace : PySem.W.excTail [.type "ValueError", .type "Exception", .type "BaseException", .type "object"] bmE_BadPlace = true)
    (es_BadPlace : PySem.W.findIn K (.ref C_BadPlace) "__setattr__" = some (some (.builtin "object.__setattr__")))
    (eb_BadPlace : PySem.W.subIn K (.ref C_BadPlace) (.type "BaseException") = some true)
    (et_BadPlace : PySem.W.typeIn K (.ref C_BadPlace) = some (.type "type"))
    (ek_BadPlace : PySem.W.keepIn K (.ref C_BadPlace) = true)
    (en_BadPlace : PySem.W.findIn K (.ref C_BadPlace) "index" = some none)
    (ei_BadPlace : PySem.W.findIn K (.ref C_BadPlace) "__init__" = some (some (.ref fE_BadPlace)))
    (ef_BadPlace : PySem.W.typeIn K (.ref fE_BadPlace) = some (.type "function"))
    (el_BadPlace : K.lookup fE_BadPlace = some ⟨ocE_BadPlace, oE_BadPlace, .func (PySem.W.fnOf "__init__" "BadPlace.__init__" (defArgs s_BadPlace___init__) (defBody s_BadPlace___init__) (defScope s_BadPlace___init__) .none kVE_BadPlace dcE_BadPlace pmE_BadPlace aE_BadPlace cdE_BadPlace ctE_BadPlace), slE_BadPlace⟩)
    (ec_BadPlace : PySem.W.codeIn K cdE_BadPlace "BadPlace.__init__" = true)
    (ee_BadPlace : PySem.W.keepIn K (.ref fE_BadPlace) = true)
    (h1_BadPlace : PySem.W.findIn K (.ref C_BadPlace) "__getattribute__" = some (some (.builtin "BaseException.__getattribute__")))
    (h2_BadPlace : PySem.W.findIn K (.ref C_BadPlace) "__getattr__" = some none)
    (h3_BadPlace : PySem.W.hasDictIn K C_BadPlace = true)
    (h4_BadPlace : PySem.W.findIn K (.ref C_BadPlace) "__class__" = some (some (.builtin "object.__class__")))
    (h5_BadPlace : PySem.W.specialIn K (.builtin "object.__class__") "__get__" = some (some (.builtin "getset_descriptor.__get__")))
    (h6_BadPlace : PySem.W.takesIn K (.builtin "object.__class__") = some true)
    (h7_BadPlace : PySem.W.mroIn K C_BadPlace (.type "object") = some true)
    {C_BadCount fE_BadCount : Addr} {oE_BadCount aE_BadCount : Option Addr} {slE_BadCount : Array (Option Value)} {ocE_BadCount kVE_BadCount dcE_BadCount pmE_BadCount cdE_BadCount ctE_BadCount : Value}
    (eg_BadCount : PySem.W.nsIn K mainGlobals "BadCount" = some (some (.ref C_BadCount)))
    {nmE_BadCount qE_BadCount : Str} {NE_BadCount : Addr} {bsE_BadCount bmE_BadCount suE_BadCount : List Value} {snE_BadCount : List Str} {abE_BadCount : Bool} {coE_BadCount : Option Bool} {ddE_BadCount : Option Addr} {k0E_BadCount k1E_BadCount k2E_BadCount k3E_BadCount k5E_BadCount : Option Value}
    (eo_BadCount : K.lookup C_BadCount = some (excClassObj nmE_BadCount qE_BadCount C_BadCount NE_BadCount bsE_BadCount bmE_BadCount true snE_BadCount suE_BadCount abE_BadCount coE_BadCount ddE_BadCount k0E_BadCount k1E_BadCount k2E_BadCount k3E_BadCount k5E_BadCount "ValueError.__new__"))
    (ev_BadCount : PySem.W.excTail [.type "ValueError", .type "Exception", .type "BaseException", .type "object"] bmE_BadCount = true)
    (es_BadCount : PySem.W.findIn K (.ref C_BadCount) "__setattr__" = some (some (.builtin "object.__setattr__")))
    (eb_BadCount : PySem.W.subIn K (.ref C_BadCount) (.type "BaseException") = some true)
    (et_BadCount : PySem.W.typeIn K (.ref C_BadCount) = some (.type "type"))
    (ek_BadCount : PySem.W.keepIn K (.ref C_BadCount) = true)
    (en_BadCount : PySem.W.findIn K (.ref C_BadCount) "part" = some none)
    (ei_BadCount : PySem.W.findIn K (.ref C_BadCount) "__init__" = some (some (.ref fE_BadCount)))
    (ef_BadCount : PySem.W.typeIn K (.ref fE_BadCount) = some (.type "function"))
    (el_BadCount : K.lookup fE_BadCount = some ⟨ocE_BadCount, oE_BadCount, .func (PySem.W.fnOf "__init__" "BadCount.__init__" (defArgs s_BadCount___init__) (defBody s_BadCount___init__) (defScope s_BadCount___init__) .none kVE_BadCount dcE_BadCount pmE_BadCount aE_BadCount cdE_BadCount ctE_BadCount), slE_BadCount⟩)
    (ec_BadCount : PySem.W.codeIn K cdE_BadCount "BadCount.__init__" = true)
    (ee_BadCount : PySem.W.keepIn K (.ref fE_BadCount) = true)
    (h1_BadCount : PySem.W.findIn K (.ref C_BadCount) "__getattribute__" = some (some (.builtin "BaseException.__getattribute__")))
    (h2_BadCount : PySem.W.findIn K (.ref C_BadCount) "__getattr__" = some none)
    (h3_BadCount : PySem.W.hasDictIn K C_BadCount = true)
    (h4_BadCount : PySem.W.findIn K (.ref C_BadCount) "__class__" = some (some (.builtin "object.__class__")))
    (h5_BadCount : PySem.W.specialIn K (.builtin "object.__class__") "__get__" = some (some (.builtin "getset_descriptor.__get__")))
    (h6_BadCount : PySem.W.takesIn K (.builtin "object.__class__") = some true)
    (h7_BadCount : PySem.W.mroIn K C_BadCount (.type "object") = some true)
    {C_BadDate fE_BadDate : Addr} {oE_BadDate aE_BadDate : Option Addr} {slE_BadDate : Array (Option Value)} {ocE_BadDate kVE_BadDate dcE_BadDate pmE_BadDate cdE_BadDate ctE_BadDate : Value}
    (eg_BadDate : PySem.W.nsIn K mainGlobals "BadDate" = some (some (.ref C_BadDate)))
    {nmE_BadDate qE_BadDate : Str} {NE_BadDate : Addr} {bsE_BadDate bmE_BadDate suE_BadDate : List Value} {snE_BadDate : List Str} {abE_BadDate : Bool} {coE_BadDate : Option Bool} {ddE_BadDate : Option Addr} {k0E_BadDate k1E_BadDate k2E_BadDate k3E_BadDate k5E_BadDate : Option Value}
    (eo_BadDate : K.lookup C_BadDate = some (excClassObj nmE_BadDate qE_BadDate C_BadDate NE_BadDate bsE_BadDate bmE_BadDate true snE_BadDate suE_BadDate abE_BadDate coE_BadDate ddE_BadDate k0E_BadDate k1E_BadDate k2E_BadDate k3E_BadDate k5E_BadDate "ValueError.__new__"))
    (ev_BadDate : PySem.W.excTail [.type "ValueError", .type "Exception", .type "BaseException", .type "object"] bmE_BadDate = true)
    (es_BadDate : PySem.W.findIn K (.ref C_BadDate) "__setattr__" = some (some (.builtin "object.__setattr__")))
    (eb_BadDate : PySem.W.subIn K (.ref C_BadDate) (.type "BaseException") = some true)
    (et_BadDate : PySem.W.typeIn K (.ref C_BadDate) = some (.type "type"))
    (ek_BadDate : PySem.W.keepIn K (.ref C_BadDate) = true)
    (en_BadDate : PySem.W.findIn K (.ref C_BadDate) "date" = some none)
    (ei_BadDate : PySem.W.findIn K (.ref C_BadDate) "__init__" = some (some (.ref fE_BadDate)))
    (ef_BadDate : PySem.W.typeIn K (.ref fE_BadDate) = some (.type "function"))
    (el_BadDate : K.lookup fE_BadDate = some ⟨ocE_BadDate, oE_BadDate, .func (PySem.W.fnOf "__init__" "BadDate.__init__" (defArgs s_BadDate___init__) (defBody s_BadDate___init__) (defScope s_BadDate___init__) .none kVE_BadDate dcE_BadDate pmE_BadDate aE_BadDate cdE_BadDate ctE_BadDate), slE_BadDate⟩)
    (ec_BadDate : PySem.W.codeIn K cdE_BadDate "BadDate.__init__" = true)
    (ee_BadDate : PySem.W.keepIn K (.ref fE_BadDate) = true)
    (h1_BadDate : PySem.W.findIn K (.ref C_BadDate) "__getattribute__" = some (some (.builtin "BaseException.__getattribute__")))
    (h2_BadDate : PySem.W.findIn K (.ref C_BadDate) "__getattr__" = some none)
    (h3_BadDate : PySem.W.hasDictIn K C_BadDate = true)
    (h4_BadDate : PySem.W.findIn K (.ref C_BadDate) "__class__" = some (some (.builtin "object.__class__")))
    (h5_BadDate : PySem.W.specialIn K (.builtin "object.__class__") "__get__" = some (some (.builtin "getset_descriptor.__get__")))
    (h6_BadDate : PySem.W.takesIn K (.builtin "object.__class__") = some true)
    (h7_BadDate : PySem.W.mroIn K C_BadDate (.type "object") = some true)
    {C_BadMany fE_BadMany : Addr} {oE_BadMany aE_BadMany : Option Addr} {slE_BadMany : Array (Option Value)} {ocE_BadMany kVE_BadMany dcE_BadMany pmE_BadMany cdE_BadMany ctE_BadMany : Value}
    (eg_BadMany : PySem.W.nsIn K mainGlobals "BadMany" = some (some (.ref C_BadMany)))
    {nmE_BadMany qE_BadMany : Str} {NE_BadMany : Addr} {bsE_BadMany bmE_BadMany suE_BadMany : List Value} {snE_BadMany : List Str} {abE_BadMany : Bool} {coE_BadMany : Option Bool} {ddE_BadMany : Option Addr} {k0E_BadMany k1E_BadMany k2E_BadMany k3E_BadMany k5E_BadMany : Option Value}
    (eo_BadMany : K.lookup C_BadMany = some (excClassObj nmE_BadMany qE_BadMany C_BadMany NE_BadMany bsE_BadMany bmE_BadMany true snE_BadMany suE_BadMany abE_BadMany coE_BadMany ddE_BadMany k0E_BadMany k1E_BadMany k2E_BadMany k3E_BadMany k5E_BadMany "ValueError.__new__"))
    (ev_BadMany : PySem.W.excTail [.type "ValueError", .type "Exception", .type "BaseException", .type "object"] bmE_BadMany = true)
    (es_BadMany : PySem.W.findIn K (.ref C_BadMany) "__setattr__" = some (some (.builtin "object.__setattr__")))
    (eb_BadMany : PySem.W.subIn K (.ref C_BadMany) (.type "BaseException") = some true)
    (et_BadMany : PySem.W.typeIn K (.ref C_BadMany) = some (.type "type"))
    (ek_BadMany : PySem.W.keepIn K (.ref C_BadMany) = true)
    (en_BadMany : PySem.W.findIn K (.ref C_BadMany) "many" = some none)
    (ei_BadMany : PySem.W.findIn K (.ref C_BadMany) "__init__" = some (some (.ref fE_BadMany)))
    (ef_BadMany : PySem.W.typeIn K (.ref fE_BadMany) = some (.type "function"))
    (el_BadMany : K.lookup fE_BadMany = some ⟨ocE_BadMany, oE_BadMany, .func (PySem.W.fnOf "__init__" "BadMany.__init__" (defArgs s_BadMany___init__) (defBody s_BadMany___init__) (defScope s_BadMany___init__) .none kVE_BadMany dcE_BadMany pmE_BadMany aE_BadMany cdE_BadMany ctE_BadMany), slE_BadMany⟩)
    (ec_BadMany : PySem.W.codeIn K cdE_BadMany "BadMany.__init__" = true)
    (ee_BadMany : PySem.W.keepIn K (.ref fE_BadMany) = true)
    (h1_BadMany : PySem.W.findIn K (.ref C_BadMany) "__getattribute__" = some (some (.builtin "BaseException.__getattribute__")))
    (h2_BadMany : PySem.W.findIn K (.ref C_BadMany) "__getattr__" = some none)
    (h3_BadMany : PySem.W.hasDictIn K C_BadMany = true)
    (h4_BadMany : PySem.W.findIn K (.ref C_BadMany) "__class__" = some (some (.builtin "object.__class__")))
    (h5_BadMany : PySem.W.specialIn K (.builtin "object.__class__") "__get__" = some (some (.builtin "getset_descriptor.__get__")))
    (h6_BadMany : PySem.W.takesIn K (.builtin "object.__class__") = some true)
    (h7_BadMany : PySem.W.mroIn K C_BadMany (.type "object") = some true)
    {C_BadList fE_BadList : Addr} {oE_BadList aE_BadList : Option Addr} {slE_BadList : Array (Option Value)} {ocE_BadList kVE_BadList dcE_BadList pmE_BadList cdE_BadList ctE_BadList : Value}
    (eg_BadList : PySem.W.nsIn K mainGlobals "BadList" = some (some (.ref C_BadList)))
    {nmE_BadList qE_BadList : Str} {NE_BadList : Addr} {bsE_BadList bmE_BadList suE_BadList : List Value} {snE_BadList : List Str} {abE_BadList : Bool} {coE_BadList : Option Bool} {ddE_BadList : Option Addr} {k0E_BadList k1E_BadList k2E_BadList k3E_BadList k5E_BadList : Option Value}
    (eo_BadList : K.lookup C_BadList = some (excClassObj nmE_BadList qE_BadList C_BadList NE_BadList bsE_BadList bmE_BadList true snE_BadList suE_BadList abE_BadList coE_BadList ddE_BadList k0E_BadList k1E_BadList k2E_BadList k3E_BadList k5E_BadList "ValueError.__new__"))
    (ev_BadList : PySem.W.excTail [.type "ValueError", .type "Exception", .type "BaseException", .type "object"] bmE_BadList = true)
    (es_BadList : PySem.W.findIn K (.ref C_BadList) "__setattr__" = some (some (.builtin "object.__setattr__")))
    (eb_BadList : PySem.W.subIn K (.ref C_BadList) (.type "BaseException") = some true)
    (et_BadList : PySem.W.typeIn K (.ref C_BadList) = some (.type "type"))
    (ek_BadList : PySem.W.keepIn K (.ref C_BadList) = true)
    (en_BadList : PySem.W.findIn K (.ref C_BadList) "value" = some none)
    (ei_BadList : PySem.W.findIn K (.ref C_BadList) "__init__" = some (some (.ref fE_BadList)))
    (ef_BadList : PySem.W.typeIn K (.ref fE_BadList) = some (.type "function"))
    (el_BadList : K.lookup fE_BadList = some ⟨ocE_BadList, oE_BadList, .func (PySem.W.fnOf "__init__" "BadList.__init__" (defArgs s_BadList___init__) (defBody s_BadList___init__) (defScope s_BadList___init__) .none kVE_BadList dcE_BadList pmE_BadList aE_BadList cdE_BadList ctE_BadList), slE_BadList⟩)
    (ec_BadList : PySem.W.codeIn K cdE_BadList "BadList.__init__" = true)
    (ee_BadList : PySem.W.keepIn K (.ref fE_BadList) = true)
    (h1_BadList : PySem.W.findIn K (.ref C_BadList) "__getattribute__" = some (some (.builtin "BaseException.__getattribute__")))
    (h2_BadList : PySem.W.findIn K (.ref C_BadList) "__getattr__" = some none)
    (h3_BadList : PySem.W.hasDictIn K C_BadList = true)
    (h4_BadList : PySem.W.findIn K (.ref C_BadList) "__class__" = some (some (.builtin "object.__class__")))
    (h5_BadList : PySem.W.specialIn K (.builtin "object.__class__") "__get__" = some (some (.builtin "getset_descriptor.__get__")))
    (h6_BadList : PySem.W.takesIn K (.builtin "object.__class__") = some true)
    (h7_BadList : PySem.W.mroIn K C_BadList (.type "object") = some true)
    {C_BadStock fE_BadStock : Addr} {oE_BadStock aE_BadStock : Option Addr} {slE_BadStock : Array (Option Value)} {ocE_BadStock kVE_BadStock dcE_BadStock pmE_BadStock cdE_BadStock ctE_BadStock : Value}
    (eg_BadStock : PySem.W.nsIn K mainGlobals "BadStock" = some (some (.ref C_BadStock)))
    {nmE_BadStock qE_BadStock : Str} {NE_BadStock : Addr} {bsE_BadStock bmE_BadStock suE_BadStock : List Value} {snE_BadStock : List Str} {abE_BadStock : Bool} {coE_BadStock : Option Bool} {ddE_BadStock : Option Addr} {k0E_BadStock k1E_BadStock k2E_BadStock k3E_BadStock k5E_BadStock : Option Value}
    (eo_BadStock : K.lookup C_BadStock = some (excClassObj nmE_BadStock qE_BadStock C_BadStock NE_BadStock bsE_BadStock bmE_BadStock true snE_BadStock suE_BadStock abE_BadStock coE_BadStock ddE_BadStock k0E_BadStock k1E_BadStock k2E_BadStock k3E_BadStock k5E_BadStock "ValueError.__new__"))
    (ev_BadStock : PySem.W.excTail [.type "ValueError", .type "Exception", .type "BaseException", .type "object"] bmE_BadStock = true)
    (es_BadStock : PySem.W.findIn K (.ref C_BadStock) "__setattr__" = some (some (.builtin "object.__setattr__")))
    (eb_BadStock : PySem.W.subIn K (.ref C_BadStock) (.type "BaseException") = some true)
    (et_BadStock : PySem.W.typeIn K (.ref C_BadStock) = some (.type "type"))
    (ek_BadStock : PySem.W.keepIn K (.ref C_BadStock) = true)
    (en_BadStock : PySem.W.findIn K (.ref C_BadStock) "value" = some none)
    (ei_BadStock : PySem.W.findIn K (.ref C_BadStock) "__init__" = some (some (.ref fE_BadStock)))
    (ef_BadStock : PySem.W.typeIn K (.ref fE_BadStock) = some (.type "function"))
    (el_BadStock : K.lookup fE_BadStock = some ⟨ocE_BadStock, oE_BadStock, .func (PySem.W.fnOf "__init__" "BadStock.__init__" (defArgs s_BadStock___init__) (defBody s_BadStock___init__) (defScope s_BadStock___init__) .none kVE_BadStock dcE_BadStock pmE_BadStock aE_BadStock cdE_BadStock ctE_BadStock), slE_BadStock⟩)
    (ec_BadStock : PySem.W.codeIn K cdE_BadStock "BadStock.__init__" = true)
    (ee_BadStock : PySem.W.keepIn K (.ref fE_BadStock) = true)
    (h1_BadStock : PySem.W.findIn K (.ref C_BadStock) "__getattribute__" = some (some (.builtin "BaseException.__getattribute__")))
    (h2_BadStock : PySem.W.findIn K (.ref C_BadStock) "__getattr__" = some none)
    (h3_BadStock : PySem.W.hasDictIn K C_BadStock = true)
    (h4_BadStock : PySem.W.findIn K (.ref C_BadStock) "__class__" = some (some (.builtin "object.__class__")))
    (h5_BadStock : PySem.W.specialIn K (.builtin "object.__class__") "__get__" = some (some (.builtin "getset_descriptor.__get__")))
    (h6_BadStock : PySem.W.takesIn K (.builtin "object.__class__") = some true)
    (h7_BadStock : PySem.W.mroIn K C_BadStock (.type "object") = some true)
    {C_RingOfLists fE_RingOfLists : Addr} {oE_RingOfLists aE_RingOfLists : Option Addr} {slE_RingOfLists : Array (Option Value)} {ocE_RingOfLists kVE_RingOfLists dcE_RingOfLists pmE_RingOfLists cdE_RingOfLists ctE_RingOfLists : Value}
    (eg_RingOfLists : PySem.W.nsIn K mainGlobals "RingOfLists" = some (some (.ref C_RingOfLists)))
    {nmE_RingOfLists qE_RingOfLists : Str} {NE_RingOfLists : Addr} {bsE_RingOfLists bmE_RingOfLists suE_RingOfLists : List Value} {snE_RingOfLists : List Str} {abE_RingOfLists : Bool} {coE_RingOfLists : Option Bool} {ddE_RingOfLists : Option Addr} {k0E_RingOfLists k1E_RingOfLists k2E_RingOfLists k3E_RingOfLists k5E_RingOfLists : Option Value}
    (eo_RingOfLists : K.lookup C_RingOfLists = some (excClassObj nmE_RingOfLists qE_RingOfLists C_RingOfLists NE_RingOfLists bsE_RingOfLists bmE_RingOfLists true snE_RingOfLists suE_RingOfLists abE_RingOfLists coE_RingOfLists ddE_RingOfLists k0E_RingOfLists k1E_RingOfLists k2E_RingOfLists k3E_RingOfLists k5E_RingOfLists "ValueError.__new__"))
    (ev_RingOfLists : PySem.W.excTail [.type "ValueError", .type "Exception", .type "BaseException", .type "object"] bmE_RingOfLists = true)
    (es_RingOfLists : PySem.W.findIn K (.ref C_RingOfLists) "__setattr__" = some (some (.builtin "object.__setattr__")))
    (eb_RingOfLists : PySem.W.subIn K (.ref C_RingOfLists) (.type "BaseException") = some true)
    (et_RingOfLists : PySem.W.typeIn K (.ref C_RingOfLists) = some (.type "type"))
    (ek_RingOfLists : PySem.W.keepIn K (.ref C_RingOfLists) = true)
    (en_RingOfLists : PySem.W.findIn K (.ref C_RingOfLists) "word" = some none)
    (ei_RingOfLists : PySem.W.findIn K (.ref C_RingOfLists) "__init__" = some (some (.ref fE_RingOfLists)))
    (ef_RingOfLists : PySem.W.typeIn K (.ref fE_RingOfLists) = some (.type "function"))
    (el_RingOfLists : K.lookup fE_RingOfLists = some ⟨ocE_RingOfLists, oE_RingOfLists, .func (PySem.W.fnOf "__init__" "RingOfLists.__init__" (defArgs s_RingOfLists___init__) (defBody s_RingOfLists___init__) (defScope s_RingOfLists___init__) .none kVE_RingOfLists dcE_RingOfLists pmE_RingOfLists aE_RingOfLists cdE_RingOfLists ctE_RingOfLists), slE_RingOfLists⟩)
    (ec_RingOfLists : PySem.W.codeIn K cdE_RingOfLists "RingOfLists.__init__" = true)
    (ee_RingOfLists : PySem.W.keepIn K (.ref fE_RingOfLists) = true)
    (h1_RingOfLists : PySem.W.findIn K (.ref C_RingOfLists) "__getattribute__" = some (some (.builtin "BaseException.__getattribute__")))
    (h2_RingOfLists : PySem.W.findIn K (.ref C_RingOfLists) "__getattr__" = some none)
    (h3_RingOfLists : PySem.W.hasDictIn K C_RingOfLists = true)
    (h4_RingOfLists : PySem.W.findIn K (.ref C_RingOfLists) "__class__" = some (some (.builtin "object.__class__")))
    (h5_RingOfLists : PySem.W.specialIn K (.builtin "object.__class__") "__get__" = some (some (.builtin "getset_descriptor.__get__")))
    (h6_RingOfLists : PySem.W.takesIn K (.builtin "object.__class__") = some true)
    (h7_RingOfLists : PySem.W.mroIn K C_RingOfLists (.type "object") = some true)
    {C_Lacking fE_Lacking : Addr} {oE_Lacking aE_Lacking : Option Addr} {slE_Lacking : Array (Option Value)} {ocE_Lacking kVE_Lacking dcE_Lacking pmE_Lacking cdE_Lacking ctE_Lacking : Value}
    (eg_Lacking : PySem.W.nsIn K mainGlobals "Lacking" = some (some (.ref C_Lacking)))
    {nmE_Lacking qE_Lacking : Str} {NE_Lacking : Addr} {bsE_Lacking bmE_Lacking suE_Lacking : List Value} {snE_Lacking : List Str} {abE_Lacking : Bool} {coE_Lacking : Option Bool} {ddE_Lacking : Option Addr} {k0E_Lacking k1E_Lacking k2E_Lacking k3E_Lacking k5E_Lacking : Option Value}
    (eo_Lacking : K.lookup C_Lacking = some (excClassObj nmE_Lacking qE_Lacking C_Lacking NE_Lacking bsE_Lacking bmE_Lacking true snE_Lacking suE_Lacking abE_Lacking coE_Lacking ddE_Lacking k0E_Lacking k1E_Lacking k2E_Lacking k3E_Lacking k5E_Lacking "ValueError.__new__"))
    (ev_Lacking : PySem.W.excTail [.type "ValueError", .type "Exception", .type "BaseException", .type "object"] bmE_Lacking = true)
    (es_Lacking : PySem.W.findIn K (.ref C_Lacking) "__setattr__" = some (some (.builtin "object.__setattr__")))
    (eb_Lacking : PySem.W.subIn K (.ref C_Lacking) (.type "BaseException") = some true)
    (et_Lacking : PySem.W.typeIn K (.ref C_Lacking) = some (.type "type"))
    (ek_Lacking : PySem.W.keepIn K (.ref C_Lacking) = true)
    (en_Lacking : PySem.W.findIn K (.ref C_Lacking) "few" = some none)
    (ei_Lacking : PySem.W.findIn K (.ref C_Lacking) "__init__" = some (some (.ref fE_Lacking)))
    (ef_Lacking : PySem.W.typeIn K (.ref fE_Lacking) = some (.type "function"))
    (el_Lacking : K.lookup fE_Lacking = some ⟨ocE_Lacking, oE_Lacking, .func (PySem.W.fnOf "__init__" "Lacking.__init__" (defArgs s_Lacking___init__) (defBody s_Lacking___init__) (defScope s_Lacking___init__) .none kVE_Lacking dcE_Lacking pmE_Lacking aE_Lacking cdE_Lacking ctE_Lacking), slE_Lacking⟩)
    (ec_Lacking : PySem.W.codeIn K cdE_Lacking "Lacking.__init__" = true)
    (ee_Lacking : PySem.W.keepIn K (.ref fE_Lacking) = true)
    (h1_Lacking : PySem.W.findIn K (.ref C_Lacking) "__getattribute__" = some (some (.builtin "BaseException.__getattribute__")))
    (h2_Lacking : PySem.W.findIn K (.ref C_Lacking) "__getattr__" = some none)
    (h3_Lacking : PySem.W.hasDictIn K C_Lacking = true)
    (h4_Lacking : PySem.W.findIn K (.ref C_Lacking) "__class__" = some (some (.builtin "object.__class__")))
    (h5_Lacking : PySem.W.specialIn K (.builtin "object.__class__") "__get__" = some (some (.builtin "getset_descriptor.__get__")))
    (h6_Lacking : PySem.W.takesIn K (.builtin "object.__class__") = some true)
    (h7_Lacking : PySem.W.mroIn K C_Lacking (.type "object") = some true)
    {C_UnknownPlace fE_UnknownPlace : Addr} {oE_UnknownPlace aE_UnknownPlace : Option Addr} {slE_UnknownPlace : Array (Option Value)} {ocE_UnknownPlace kVE_UnknownPlace dcE_UnknownPlace pmE_UnknownPlace cdE_UnknownPlace ctE_UnknownPlace : Value}
    (eg_UnknownPlace : PySem.W.nsIn K mainGlobals "UnknownPlace" = some (some (.ref C_UnknownPlace)))
    {nmE_UnknownPlace qE_UnknownPlace : Str} {NE_UnknownPlace : Addr} {bsE_UnknownPlace bmE_UnknownPlace suE_UnknownPlace : List Value} {snE_UnknownPlace : List Str} {abE_UnknownPlace : Bool} {coE_UnknownPlace : Option Bool} {ddE_UnknownPlace : Option Addr} {k0E_UnknownPlace k1E_UnknownPlace k2E_UnknownPlace k3E_UnknownPlace k5E_UnknownPlace : Option Value}
    (eo_UnknownPlace : K.lookup C_UnknownPlace = some (excClassObj nmE_UnknownPlace qE_UnknownPlace C_UnknownPlace NE_UnknownPlace bsE_UnknownPlace bmE_UnknownPlace true snE_UnknownPlace suE_UnknownPlace abE_UnknownPlace coE_UnknownPlace ddE_UnknownPlace k0E_UnknownPlace k1E_UnknownPlace k2E_UnknownPlace k3E_UnknownPlace k5E_UnknownPlace "LookupError.__new__"))
    (ev_UnknownPlace : PySem.W.excTail [.type "KeyError", .type "LookupError", .type "Exception", .type "BaseException", .type "object"] bmE_UnknownPlace = true)
    (es_UnknownPlace : PySem.W.findIn K (.ref C_UnknownPlace) "__setattr__" = some (some (.builtin "object.__setattr__")))
    (eb_UnknownPlace : PySem.W.subIn K (.ref C_UnknownPlace) (.type "BaseException") = some true)
    (et_UnknownPlace : PySem.W.typeIn K (.ref C_UnknownPlace) = some (.type "type"))
    (ek_UnknownPlace : PySem.W.keepIn K (.ref C_UnknownPlace) = true)
    (en_UnknownPlace : PySem.W.findIn K (.ref C_UnknownPlace) "word" = some none)
    (ei_UnknownPlace : PySem.W.findIn K (.ref C_UnknownPlace) "__init__" = some (some (.ref fE_UnknownPlace)))
    (ef_UnknownPlace : PySem.W.typeIn K (.ref fE_UnknownPlace) = some (.type "function"))
    (el_UnknownPlace : K.lookup fE_UnknownPlace = some ⟨ocE_UnknownPlace, oE_UnknownPlace, .func (PySem.W.fnOf "__init__" "UnknownPlace.__init__" (defArgs s_UnknownPlace___init__) (defBody s_UnknownPlace___init__) (defScope s_UnknownPlace___init__) .none kVE_UnknownPlace dcE_UnknownPlace pmE_UnknownPlace aE_UnknownPlace cdE_UnknownPlace ctE_UnknownPlace), slE_UnknownPlace⟩)
    (ec_UnknownPlace : PySem.W.codeIn K cdE_UnknownPlace "UnknownPlace.__init__" = true)
    (ee_UnknownPlace : PySem.W.keepIn K (.ref fE_UnknownPlace) = true)
    (h1_UnknownPlace : PySem.W.findIn K (.ref C_UnknownPlace) "__getattribute__" = some (some (.builtin "BaseException.__getattribute__")))
    (h2_UnknownPlace : PySem.W.findIn K (.ref C_UnknownPlace) "__getattr__" = some none)
    (h3_UnknownPlace : PySem.W.hasDictIn K C_UnknownPlace = true)
    (h4_UnknownPlace : PySem.W.findIn K (.ref C_UnknownPlace) "__class__" = some (some (.builtin "object.__class__")))
    (h5_UnknownPlace : PySem.W.specialIn K (.builtin "object.__class__") "__get__" = some (some (.builtin "getset_descriptor.__get__")))
    (h6_UnknownPlace : PySem.W.takesIn K (.builtin "object.__class__") = some true)
    (h7_UnknownPlace : PySem.W.mroIn K C_UnknownPlace (.type "object") = some true)
    {C_UnknownList fE_UnknownList : Addr} {oE_UnknownList aE_UnknownList : Option Addr} {slE_UnknownList : Array (Option Value)} {ocE_UnknownList kVE_UnknownList dcE_UnknownList pmE_UnknownList cdE_UnknownList ctE_UnknownList : Value}
    (eg_UnknownList : PySem.W.nsIn K mainGlobals "UnknownList" = some (some (.ref C_UnknownList)))
    {nmE_UnknownList qE_UnknownList : Str} {NE_UnknownList : Addr} {bsE_UnknownList bmE_UnknownList suE_UnknownList : List Value} {snE_UnknownList : List Str} {abE_UnknownList : Bool} {coE_UnknownList : Option Bool} {ddE_UnknownList : Option Addr} {k0E_UnknownList k1E_UnknownList k2E_UnknownList k3E_UnknownList k5E_UnknownList : Option Value}
    (eo_UnknownList : K.lookup C_UnknownList = some (excClassObj nmE_UnknownList qE_UnknownList C_UnknownList NE_UnknownList bsE_UnknownList bmE_UnknownList true snE_UnknownList suE_UnknownList abE_UnknownList coE_UnknownList ddE_UnknownList k0E_UnknownList k1E_UnknownList k2E_UnknownList k3E_UnknownList k5E_UnknownList "LookupError.__new__"))
    (ev_UnknownList : PySem.W.excTail [.type "KeyError", .type "LookupError", .type "Exception", .type "BaseException", .type "object"] bmE_UnknownList = true)
    (es_UnknownList : PySem.W.findIn K (.ref C_UnknownList) "__setattr__" = some (some (.builtin "object.__setattr__")))
    (eb_UnknownList : PySem.W.subIn K (.ref C_UnknownList) (.type "BaseException") = some true)
    (et_UnknownList : PySem.W.typeIn K (.ref C_UnknownList) = some (.type "type"))
    (ek_UnknownList : PySem.W.keepIn K (.ref C_UnknownList) = true)
    (en_UnknownList : PySem.W.findIn K (.ref C_UnknownList) "word" = some none)
    (ei_UnknownList : PySem.W.findIn K (.ref C_UnknownList) "__init__" = some (some (.ref fE_UnknownList)))
    (ef_UnknownList : PySem.W.typeIn K (.ref fE_UnknownList) = some (.type "function"))
    (el_UnknownList : K.lookup fE_UnknownList = some ⟨ocE_UnknownList, oE_UnknownList, .func (PySem.W.fnOf "__init__" "UnknownList.__init__" (defArgs s_UnknownList___init__) (defBody s_UnknownList___init__) (defScope s_UnknownList___init__) .none kVE_UnknownList dcE_UnknownList pmE_UnknownList aE_UnknownList cdE_UnknownList ctE_UnknownList), slE_UnknownList⟩)
    (ec_UnknownList : PySem.W.codeIn K cdE_UnknownList "UnknownList.__init__" = true)
    (ee_UnknownList : PySem.W.keepIn K (.ref fE_UnknownList) = true)
    (h1_UnknownList : PySem.W.findIn K (.ref C_UnknownList) "__getattribute__" = some (some (.builtin "BaseException.__getattribute__")))
    (h2_UnknownList : PySem.W.findIn K (.ref C_UnknownList) "__getattr__" = some none)
    (h3_UnknownList : PySem.W.hasDictIn K C_UnknownList = true)
    (h4_UnknownList : PySem.W.findIn K (.ref C_UnknownList) "__class__" = some (some (.builtin "object.__class__")))
    (h5_UnknownList : PySem.W.specialIn K (.builtin "object.__class__") "__get__" = some (some (.builtin "getset_descriptor.__get__")))
    (h6_UnknownList : PySem.W.takesIn K (.builtin "object.__class__") = some true)
    (h7_UnknownList : PySem.W.mroIn K C_UnknownList (.type "object") = some true)
    {C_TooMany fE_TooMany : Addr} {oE_TooMany aE_TooMany : Option Addr} {slE_TooMany : Array (Option Value)} {ocE_TooMany kVE_TooMany dcE_TooMany pmE_TooMany cdE_TooMany ctE_TooMany : Value}
    (eg_TooMany : PySem.W.nsIn K mainGlobals "TooMany" = some (some (.ref C_TooMany)))
    {nmE_TooMany qE_TooMany : Str} {NE_TooMany : Addr} {bsE_TooMany bmE_TooMany suE_TooMany : List Value} {snE_TooMany : List Str} {abE_TooMany : Bool} {coE_TooMany : Option Bool} {ddE_TooMany : Option Addr} {k0E_TooMany k1E_TooMany k2E_TooMany k3E_TooMany k5E_TooMany : Option Value}
    (eo_TooMany : K.lookup C_TooMany = some (excClassObj nmE_TooMany qE_TooMany C_TooMany NE_TooMany bsE_TooMany bmE_TooMany true snE_TooMany suE_TooMany abE_TooMany coE_TooMany ddE_TooMany k0E_TooMany k1E_TooMany k2E_TooMany k3E_TooMany k5E_TooMany "OverflowError.__new__"))
    (ev_TooMany : PySem.W.excTail [.type "OverflowError", .type "ArithmeticError", .type "Exception", .type "BaseException", .type "object"] bmE_TooMany = true)
    (es_TooMany : PySem.W.findIn K (.ref C_TooMany) "__setattr__" = some (some (.builtin "object.__setattr__")))
    (eb_TooMany : PySem.W.subIn K (.ref C_TooMany) (.type "BaseException") = some true)
    (et_TooMany : PySem.W.typeIn K (.ref C_TooMany) = some (.type "type"))
    (ek_TooMany : PySem.W.keepIn K (.ref C_TooMany) = true)
    (en_TooMany : PySem.W.findIn K (.ref C_TooMany) "limit" = some none)
    (ei_TooMany : PySem.W.findIn K (.ref C_TooMany) "__init__" = some (some (.ref fE_TooMany)))
    (ef_TooMany : PySem.W.typeIn K (.ref fE_TooMany) = some (.type "function"))
    (el_TooMany : K.lookup fE_TooMany = some ⟨ocE_TooMany, oE_TooMany, .func (PySem.W.fnOf "__init__" "TooMany.__init__" (defArgs s_TooMany___init__) (defBody s_TooMany___init__) (defScope s_TooMany___init__) .none kVE_TooMany dcE_TooMany pmE_TooMany aE_TooMany cdE_TooMany ctE_TooMany), slE_TooMany⟩)
    (ec_TooMany : PySem.W.codeIn K cdE_TooMany "TooMany.__init__" = true)
    (ee_TooMany : PySem.W.keepIn K (.ref fE_TooMany) = true)
    (h1_TooMany : PySem.W.findIn K (.ref C_TooMany) "__getattribute__" = some (some (.builtin "BaseException.__getattribute__")))
    (h2_TooMany : PySem.W.findIn K (.ref C_TooMany) "__getattr__" = some none)
    (h3_TooMany : PySem.W.hasDictIn K C_TooMany = true)
    (h4_TooMany : PySem.W.findIn K (.ref C_TooMany) "__class__" = some (some (.builtin "object.__class__")))
    (h5_TooMany : PySem.W.specialIn K (.builtin "object.__class__") "__get__" = some (some (.builtin "getset_descriptor.__get__")))
    (h6_TooMany : PySem.W.takesIn K (.builtin "object.__class__") = some true)
    (h7_TooMany : PySem.W.mroIn K C_TooMany (.type "object") = some true)
    {C_NothingToUndo fE_NothingToUndo : Addr} {oE_NothingToUndo aE_NothingToUndo : Option Addr} {slE_NothingToUndo : Array (Option Value)} {ocE_NothingToUndo kVE_NothingToUndo dcE_NothingToUndo pmE_NothingToUndo cdE_NothingToUndo ctE_NothingToUndo : Value}
    (eg_NothingToUndo : PySem.W.nsIn K mainGlobals "NothingToUndo" = some (some (.ref C_NothingToUndo)))
    {nmE_NothingToUndo qE_NothingToUndo : Str} {NE_NothingToUndo : Addr} {bsE_NothingToUndo bmE_NothingToUndo suE_NothingToUndo : List Value} {snE_NothingToUndo : List Str} {abE_NothingToUndo : Bool} {coE_NothingToUndo : Option Bool} {ddE_NothingToUndo : Option Addr} {k0E_NothingToUndo k1E_NothingToUndo k2E_NothingToUndo k3E_NothingToUndo k5E_NothingToUndo : Option Value}
    (eo_NothingToUndo : K.lookup C_NothingToUndo = some (excClassObj nmE_NothingToUndo qE_NothingToUndo C_NothingToUndo NE_NothingToUndo bsE_NothingToUndo bmE_NothingToUndo true snE_NothingToUndo suE_NothingToUndo abE_NothingToUndo coE_NothingToUndo ddE_NothingToUndo k0E_NothingToUndo k1E_NothingToUndo k2E_NothingToUndo k3E_NothingToUndo k5E_NothingToUndo "RuntimeError.__new__"))
    (ev_NothingToUndo : PySem.W.excTail [.type "RuntimeError", .type "Exception", .type "BaseException", .type "object"] bmE_NothingToUndo = true)
    (es_NothingToUndo : PySem.W.findIn K (.ref C_NothingToUndo) "__setattr__" = some (some (.builtin "object.__setattr__")))
    (eb_NothingToUndo : PySem.W.subIn K (.ref C_NothingToUndo) (.type "BaseException") = some true)
    (et_NothingToUndo : PySem.W.typeIn K (.ref C_NothingToUndo) = some (.type "type"))
    (ek_NothingToUndo : PySem.W.keepIn K (.ref C_NothingToUndo) = true)
    (en_NothingToUndo : PySem.W.findIn K (.ref C_NothingToUndo) "index" = some none)
    (ei_NothingToUndo : PySem.W.findIn K (.ref C_NothingToUndo) "__init__" = some (some (.ref fE_NothingToUndo)))
    (ef_NothingToUndo : PySem.W.typeIn K (.ref fE_NothingToUndo) = some (.type "function"))
    (el_NothingToUndo : K.lookup fE_NothingToUndo = some ⟨ocE_NothingToUndo, oE_NothingToUndo, .func (PySem.W.fnOf "__init__" "NothingToUndo.__init__" (defArgs s_NothingToUndo___init__) (defBody s_NothingToUndo___init__) (defScope s_NothingToUndo___init__) .none kVE_NothingToUndo dcE_NothingToUndo pmE_NothingToUndo aE_NothingToUndo cdE_NothingToUndo ctE_NothingToUndo), slE_NothingToUndo⟩)
    (ec_NothingToUndo : PySem.W.codeIn K cdE_NothingToUndo "NothingToUndo.__init__" = true)
    (ee_NothingToUndo : PySem.W.keepIn K (.ref fE_NothingToUndo) = true)
    (h1_NothingToUndo : PySem.W.findIn K (.ref C_NothingToUndo) "__getattribute__" = some (some (.builtin "BaseException.__getattribute__")))
    (h2_NothingToUndo : PySem.W.findIn K (.ref C_NothingToUndo) "__getattr__" = some none)
    (h3_NothingToUndo : PySem.W.hasDictIn K C_NothingToUndo = true)
    (h4_NothingToUndo : PySem.W.findIn K (.ref C_NothingToUndo) "__class__" = some (some (.builtin "object.__class__")))
    (h5_NothingToUndo : PySem.W.specialIn K (.builtin "object.__class__") "__get__" = some (some (.builtin "getset_descriptor.__get__")))
    (h6_NothingToUndo : PySem.W.takesIn K (.builtin "object.__class__") = some true)
    (h7_NothingToUndo : PySem.W.mroIn K C_NothingToUndo (.type "object") = some true)
    (ky_NothingToUndo_ValueError : PySem.W.kitOne K (.ref C_NothingToUndo) (.type "ValueError") = some false)
    (ky_TooMany_ValueError : PySem.W.kitOne K (.ref C_TooMany) (.type "ValueError") = some false)
    (ky_UnknownList_ValueError : PySem.W.kitOne K (.ref C_UnknownList) (.type "ValueError") = some false)
    (ky_UnknownPlace_ValueError : PySem.W.kitOne K (.ref C_UnknownPlace) (.type "ValueError") = some false)
    (ky_Lacking_ValueError : PySem.W.kitOne K (.ref C_Lacking) (.type "ValueError") = some true)
    (ky_RingOfLists_ValueError : PySem.W.kitOne K (.ref C_RingOfLists) (.type "ValueError") = some true)
    (ky_BadStock_ValueError : PySem.W.kitOne K (.ref C_BadStock) (.type "ValueError") = some true)
    (ky_BadList_ValueError : PySem.W.kitOne K (.ref C_BadList) (.type "ValueError") = some true)
    (ky_BadMany_ValueError : PySem.W.kitOne K (.ref C_BadMany) (.type "ValueError") = some true)
    (ky_BadDate_ValueError : PySem.W.kitOne K (.ref C_BadDate) (.type "ValueError") = some true)
    (ky_BadCount_ValueError : PySem.W.kitOne K (.ref C_BadCount) (.type "ValueError") = some true)
    (ky_BadPlace_ValueError : PySem.W.kitOne K (.ref C_BadPlace) (.type "ValueError") = some true)
    (ky_BadAllowance_ValueError : PySem.W.kitOne K (.ref C_BadAllowance) (.type "ValueError") = some true)
    (ky_NothingToUndo_PartsError : PySem.W.kitOne K (.ref C_NothingToUndo) (.ref C_PartsError) = some false)
    (ky_TooMany_PartsError : PySem.W.kitOne K (.ref C_TooMany) (.ref C_PartsError) = some false)
    (ky_UnknownList_PartsError : PySem.W.kitOne K (.ref C_UnknownList) (.ref C_PartsError) = some false)
    (ky_UnknownPlace_PartsError : PySem.W.kitOne K (.ref C_UnknownPlace) (.ref C_PartsError) = some false)
    (ky_Lacking_PartsError : PySem.W.kitOne K (.ref C_Lacking) (.ref C_PartsError) = some true)
    (ky_RingOfLists_PartsError : PySem.W.kitOne K (.ref C_RingOfLists) (.ref C_PartsError) = some true)
    (ky_BadStock_PartsError : PySem.W.kitOne K (.ref C_BadStock) (.ref C_PartsError) = some true)
    (ky_BadList_PartsError : PySem.W.kitOne K (.ref C_BadList) (.ref C_PartsError) = some true)
    (ky_BadMany_PartsError : PySem.W.kitOne K (.ref C_BadMany) (.ref C_PartsError) = some true)
    (ky_BadDate_PartsError : PySem.W.kitOne K (.ref C_BadDate) (.ref C_PartsError) = some true)
    (ky_BadCount_PartsError : PySem.W.kitOne K (.ref C_BadCount) (.ref C_PartsError) = some true)
    (ky_BadPlace_PartsError : PySem.W.kitOne K (.ref C_BadPlace) (.ref C_PartsError) = some true)
    (ky_BadAllowance_PartsError : PySem.W.kitOne K (.ref C_BadAllowance) (.ref C_PartsError) = some true)
    (ky_BadDate_BadMany : PySem.W.kitOne K (.ref C_BadDate) (.ref C_BadMany) = some false)
    (ky_BadPlace_BadAllowance : PySem.W.kitOne K (.ref C_BadPlace) (.ref C_BadAllowance) = some false)
    (ky_UnknownList_KeyError : PySem.W.kitOne K (.ref C_UnknownList) (.type "KeyError") = some true)
    (ky_UnknownPlace_KeyError : PySem.W.kitOne K (.ref C_UnknownPlace) (.type "KeyError") = some true)
    (ky_NothingToUndo_RuntimeError : PySem.W.kitOne K (.ref C_NothingToUndo) (.type "RuntimeError") = some true)
    (ky_TooMany_OverflowError : PySem.W.kitOne K (.ref C_TooMany) (.type "OverflowError") = some true)
    : ∃ fd : FuncData, (∀ (s : Shared) (v : Value), BindsTo s fd ⟨[v], []⟩ [("_law_script", v)]) ∧ ∀ base : Heap, K.In base → base.Ns mainGlobals mg → FnOk l.prog w K mg base CX0 3 fa fd ["_law_script"] (spLaw K) := by
  have e := hfa.symm.trans (PySem.W.mg_of X G a2)
  cases e
  have F0 := fun_mk (st := s__law_pool) l0 c0 k0
  have b0 := F0.binds (ps := ["_law_script", "_law_k"]) fun _ _ _ _ _ _ us hl => match us, hl with | [_, _], _ => rfl
  have F1 := fun_mk (st := s__law_draw) l1 c1 k1
  have b1 := F1.binds (ps := ["_law_pool_here", "_law_sides"]) fun _ _ _ _ _ _ us hl => match us, hl with | [_, _], _ => rfl
  have F2 := fun_mk (st := s_law) l2 c2 k2
  have FE_BadAllowance := fun_mk (st := s_BadAllowance___init__) el_BadAllowance ec_BadAllowance ee_BadAllowance
  have bE_BadAllowance := FE_BadAllowance.binds (ps := ["self", "index"]) fun _ _ _ _ _ _ us hl => match us, hl with | [_, _], _ => rfl
  have hx_BadAllowance : HxC K mg C_BadAllowance "BadAllowance" "index" := hx_mk (PySem.W.mg_of X G eg_BadAllowance) h1_BadAllowance h2_BadAllowance eb_BadAllowance h3_BadAllowance h4_BadAllowance h5_BadAllowance h6_BadAllowance h7_BadAllowance en_BadAllowance
  have FE_BadPlace := fun_mk (st := s_BadPlace___init__) el_BadPlace ec_BadPlace ee_BadPlace
  have bE_BadPlace := FE_BadPlace.binds (ps := ["self", "index"]) fun _ _ _ _ _ _ us hl => match us, hl with | [_, _], _ => rfl
  have hx_BadPlace : HxC K mg C_BadPlace "BadPlace" "index" := hx_mk (PySem.W.mg_of X G eg_BadPlace) h1_BadPlace h2_BadPlace eb_BadPlace h3_BadPlace h4_BadPlace h5_BadPlace h6_BadPlace h7_BadPlace en_BadPlace
  have FE_BadCount := fun_mk (st := s_BadCount___init__) el_BadCount ec_BadCount ee_BadCount
  have bE_BadCount := FE_BadCount.binds (ps := ["self", "part"]) fun _ _ _ _ _ _ us hl => match us, hl with | [_, _], _ => rfl
  have hx_BadCount : HxC K mg C_BadCount "BadCount" "part" := hx_mk (PySem.W.mg_of X G eg_BadCount) h1_BadCount h2_BadCount eb_BadCount h3_BadCount h4_BadCount h5_BadCount h6_BadCount h7_BadCount en_BadCount
  have FE_BadDate := fun_mk (st := s_BadDate___init__) el_BadDate ec_BadDate ee_BadDate
  have bE_BadDate := FE_BadDate.binds (ps := ["self", "date"]) fun _ _ _ _ _ _ us hl => match us, hl with | [_, _], _ => rfl
  have hx_BadDate : HxC K mg C_BadDate "BadDate" "date" := hx_mk (PySem.W.mg_of X G eg_BadDate) h1_BadDate h2_BadDate eb_BadDate h3_BadDate h4_BadDate h5_BadDate h6_BadDate h7_BadDate en_BadDate
  have FE_BadMany := fun_mk (st := s_BadMany___init__) el_BadMany ec_BadMany ee_BadMany
  have bE_BadMany := FE_BadMany.binds (ps := ["self", "many"]) fun _ _ _ _ _ _ us hl => match us, hl with | [_, _], _ => rfl
  have hx_BadMany : HxC K mg C_BadMany "BadMany" "many" := hx_mk (PySem.W.mg_of X G eg_BadMany) h1_BadMany h2_BadMany eb_BadMany h3_BadMany h4_BadMany h5_BadMany h6_BadMany h7_BadMany en_BadMany
  have FE_BadList := fun_mk (st := s_BadList___init__) el_BadList ec_BadList ee_BadList
  have bE_BadList := FE_BadList.binds (ps := ["self", "value"]) fun _ _ _ _ _ _ us hl => match us, hl with | [_, _], _ => rfl
  have hx_BadList : HxC K mg C_BadList "BadList" "value" := hx_mk (PySem.W.mg_of X G eg_BadList) h1_BadList h2_BadList eb_BadList h3_BadList h4_BadList h5_BadList h6_BadList h7_BadList en_BadList
  have FE_BadStock := fun_mk (st := s_BadStock___init__) el_BadStock ec_BadStock ee_BadStock
  have bE_BadStock := FE_BadStock.binds (ps := ["self", "value"]) fun _ _ _ _ _ _ us hl => match us, hl with | [_, _], _ => rfl
  have hx_BadStock : HxC K mg C_BadStock "BadStock" "value" := hx_mk (PySem.W.mg_of X G eg_BadStock) h1_BadStock h2_BadStock eb_BadStock h3_BadStock h4_BadStock h5_BadStock h6_BadStock h7_BadStock en_BadStock
  have FE_RingOfLists := fun_mk (st := s_RingOfLists___init__) el_RingOfLists ec_RingOfLists ee_RingOfLists
  have bE_RingOfLists := FE_RingOfLists.binds (ps := ["self", "word"]) fun _ _ _ _ _ _ us hl => match us, hl with | [_, _], _ => rfl
  have hx_RingOfLists : HxC K mg C_RingOfLists "RingOfLists" "word" := hx_mk (PySem.W.mg_of X G eg_RingOfLists) h1_RingOfLists h2_RingOfLists eb_RingOfLists h3_RingOfLists h4_RingOfLists h5_RingOfLists h6_RingOfLists h7_RingOfLists en_RingOfLists
  have FE_Lacking := fun_mk (st := s_Lacking___init__) el_Lacking ec_Lacking ee_Lacking
  have bE_Lacking := FE_Lacking.binds (ps := ["self", "few"]) fun _ _ _ _ _ _ us hl => match us, hl with | [_, _], _ => rfl
  have hx_Lacking : HxC K mg C_Lacking "Lacking" "few" := hx_mk (PySem.W.mg_of X G eg_Lacking) h1_Lacking h2_Lacking eb_Lacking h3_Lacking h4_Lacking h5_Lacking h6_Lacking h7_Lacking en_Lacking
  have FE_UnknownPlace := fun_mk (st := s_UnknownPlace___init__) el_UnknownPlace ec_UnknownPlace ee_UnknownPlace
  have bE_UnknownPlace := FE_UnknownPlace.binds (ps := ["self", "word"]) fun _ _ _ _ _ _ us hl => match us, hl with | [_, _], _ => rfl
  have hx_UnknownPlace : HxC K mg C_UnknownPlace "UnknownPlace" "word" := hx_mk (PySem.W.mg_of X G eg_UnknownPlace) h1_UnknownPlace h2_UnknownPlace eb_UnknownPlace h3_UnknownPlace h4_UnknownPlace h5_UnknownPlace h6_UnknownPlace h7_UnknownPlace en_UnknownPlace
  have FE_UnknownList := fun_mk (st := s_UnknownList___init__) el_UnknownList ec_UnknownList ee_UnknownList
  have bE_UnknownList := FE_UnknownList.binds (ps := ["self", "word"]) fun _ _ _ _ _ _ us hl => match us, hl with | [_, _], _ => rfl
  have hx_UnknownList : HxC K mg C_UnknownList "UnknownList" "word" := hx_mk (PySem.W.mg_of X G eg_UnknownList) h1_UnknownList h2_UnknownList eb_UnknownList h3_UnknownList h4_UnknownList h5_UnknownList h6_UnknownList h7_UnknownList en_UnknownList
  have FE_TooMany := fun_mk (st := s_TooMany___init__) el_TooMany ec_TooMany ee_TooMany
  have bE_TooMany := FE_TooMany.binds (ps := ["self", "limit"]) fun _ _ _ _ _ _ us hl => match us, hl with | [_, _], _ => rfl
  have hx_TooMany : HxC K mg C_TooMany "TooMany" "limit" := hx_mk (PySem.W.mg_of X G eg_TooMany) h1_TooMany h2_TooMany eb_TooMany h3_TooMany h4_TooMany h5_TooMany h6_TooMany h7_TooMany en_TooMany
  have FE_NothingToUndo := fun_mk (st := s_NothingToUndo___init__) el_NothingToUndo ec_NothingToUndo ee_NothingToUndo
  have bE_NothingToUndo := FE_NothingToUndo.binds (ps := ["self", "index"]) fun _ _ _ _ _ _ us hl => match us, hl with | [_, _], _ => rfl
  have hx_NothingToUndo : HxC K mg C_NothingToUndo "NothingToUndo" "index" := hx_mk (PySem.W.mg_of X G eg_NothingToUndo) h1_NothingToUndo h2_NothingToUndo eb_NothingToUndo h3_NothingToUndo h4_NothingToUndo h5_NothingToUndo h6_NothingToUndo h7_NothingToUndo en_NothingToUndo
  refine ⟨PySem.W.fnOf "law" "law" (defArgs s_law) (defBody s_law) (defScope s_law) .none kV2 dc2 pm2 an2 cd2 ct2, fun s v => .of_eq rfl, fun base _ _ => ?_⟩
  have ew_BadAllowance : ErrW l.prog w K mg base C_BadAllowance "BadAllowance" := errW_mk famK_V eo_BadAllowance ev_BadAllowance (by decide +kernel) ei_BadAllowance ef_BadAllowance FE_BadAllowance sc_BadAllowance___init__ rfl (by decide) (by decide) (by decide) (by first | exact Or.inl rfl | exact Or.inr (Or.inl rfl) | exact Or.inr (Or.inr rfl)) (by first | exact Or.inl rfl | exact Or.inr (Or.inl rfl) | exact Or.inr (Or.inr rfl)) (fun _ _ _ _ _ _ _ _ => by kernel_rfl)
  have ew_BadCount : ErrW l.prog w K mg base C_BadCount "BadCount" := errW_mk famK_V eo_BadCount ev_BadCount (by decide +kernel) ei_BadCount ef_BadCount FE_BadCount sc_BadCount___init__ rfl (by decide) (by decide) (by decide) (by first | exact Or.inl rfl | exact Or.inr (Or.inl rfl) | exact Or.inr (Or.inr rfl)) (by first | exact Or.inl rfl | exact Or.inr (Or.inl rfl) | exact Or.inr (Or.inr rfl)) (fun _ _ _ _ _ _ _ _ => by kernel_rfl)
  have ew_BadPlace : ErrW l.prog w K mg base C_BadPlace "BadPlace" := errW_mk famK_V eo_BadPlace ev_BadPlace (by decide +kernel) ei_BadPlace ef_BadPlace FE_BadPlace sc_BadPlace___init__ rfl (by decide) (by decide) (by decide) (by first | exact Or.inl rfl | exact Or.inr (Or.inl rfl) | exact Or.inr (Or.inr rfl)) (by first | exact Or.inl rfl | exact Or.inr (Or.inl rfl) | exact Or.inr (Or.inr rfl)) (fun _ _ _ _ _ _ _ _ => by kernel_rfl)
  have ew_BadMany : ErrW l.prog w K mg base C_BadMany "BadMany" := errW_mk famK_V eo_BadMany ev_BadMany (by decide +kernel) ei_BadMany ef_BadMany FE_BadMany sc_BadMany___init__ rfl (by decide) (by decide) (by decide) (by first | exact Or.inl rfl | exact Or.inr (Or.inl rfl) | exact Or.inr (Or.inr rfl)) (by first | exact Or.inl rfl | exact Or.inr (Or.inl rfl) | exact Or.inr (Or.inr rfl)) (fun _ _ _ _ _ _ _ _ => by kernel_rfl)
  have ew_BadDate : ErrW l.prog w K mg base C_BadDate "BadDate" := errW_mk famK_V eo_BadDate ev_BadDate (by decide +kernel) ei_BadDate ef_BadDate FE_BadDate sc_BadDate___init__ rfl (by decide) (by decide) (by decide) (by first | exact Or.inl rfl | exact Or.inr (Or.inl rfl) | exact Or.inr (Or.inr rfl)) (by first | exact Or.inl rfl | exact Or.inr (Or.inl rfl) | exact Or.inr (Or.inr rfl)) (fun _ _ _ _ _ _ _ _ => by kernel_rfl)
  have ew_BadStock : ErrW l.prog w K mg base C_BadStock "BadStock" := errW_mk famK_V eo_BadStock ev_BadStock (by decide +kernel) ei_BadStock ef_BadStock FE_BadStock sc_BadStock___init__ rfl (by decide) (by decide) (by decide) (by first | exact Or.inl rfl | exact Or.inr (Or.inl rfl) | exact Or.inr (Or.inr rfl)) (by first | exact Or.inl rfl | exact Or.inr (Or.inl rfl) | exact Or.inr (Or.inr rfl)) (fun _ _ _ _ _ _ _ _ => by kernel_rfl)
  have ew_BadList : ErrW l.prog w K mg base C_BadList "BadList" := errW_mk famK_V eo_BadList ev_BadList (by decide +kernel) ei_BadList ef_BadList FE_BadList sc_BadList___init__ rfl (by decide) (by decide) (by decide) (by first | exact Or.inl rfl | exact Or.inr (Or.inl rfl) | exact Or.inr (Or.inr rfl)) (by first | exact Or.inl rfl | exact Or.inr (Or.inl rfl) | exact Or.inr (Or.inr rfl)) (fun _ _ _ _ _ _ _ _ => by kernel_rfl)
  have ew_UnknownPlace : ErrW l.prog w K mg base C_UnknownPlace "UnknownPlace" := errW_mk famK_K eo_UnknownPlace ev_UnknownPlace (by decide +kernel) ei_UnknownPlace ef_UnknownPlace FE_UnknownPlace sc_UnknownPlace___init__ rfl (by decide) (by decide) (by decide) (by first | exact Or.inl rfl | exact Or.inr (Or.inl rfl) | exact Or.inr (Or.inr rfl)) (by first | exact Or.inl rfl | exact Or.inr (Or.inl rfl) | exact Or.inr (Or.inr rfl)) (fun _ _ _ _ _ _ _ _ => by kernel_rfl)
  have ew_RingOfLists : ErrW l.prog w K mg base C_RingOfLists "RingOfLists" := errW_mk famK_V eo_RingOfLists ev_RingOfLists (by decide +kernel) ei_RingOfLists ef_RingOfLists FE_RingOfLists sc_RingOfLists___init__ rfl (by decide) (by decide) (by decide) (by first | exact Or.inl rfl | exact Or.inr (Or.inl rfl) | exact Or.inr (Or.inr rfl)) (by first | exact Or.inl rfl | exact Or.inr (Or.inl rfl) | exact Or.inr (Or.inr rfl)) (fun _ _ _ _ _ _ _ _ => by kernel_rfl)
  have ew_TooMany : ErrW l.prog w K mg base C_TooMany "TooMany" := errW_mk famK_O eo_TooMany ev_TooMany (by decide +kernel) ei_TooMany ef_TooMany FE_TooMany sc_TooMany___init__ rfl (by decide) (by decide) (by decide) (by first | exact Or.inl rfl | exact Or.inr (Or.inl rfl) | exact Or.inr (Or.inr rfl)) (by first | exact Or.inl rfl | exact Or.inr (Or.inl rfl) | exact Or.inr (Or.inr rfl)) (fun _ _ _ _ _ _ _ _ => by kernel_rfl)
  have ew_UnknownList : ErrW l.prog w K mg base C_UnknownList "UnknownList" := errW_mk famK_K eo_UnknownList ev_UnknownList (by decide +kernel) ei_UnknownList ef_UnknownList FE_UnknownList sc_UnknownList___init__ rfl (by decide) (by decide) (by decide) (by first | exact Or.inl rfl | exact Or.inr (Or.inl rfl) | exact Or.inr (Or.inr rfl)) (by first | exact Or.inl rfl | exact Or.inr (Or.inl rfl) | exact Or.inr (Or.inr rfl)) (fun _ _ _ _ _ _ _ _ => by kernel_rfl)
  have ew_Lacking : ErrW l.prog w K mg base C_Lacking "Lacking" := errW_mk famK_V eo_Lacking ev_Lacking (by decide +kernel) ei_Lacking ef_Lacking FE_Lacking sc_Lacking___init__ rfl (by decide) (by decide) (by decide) (by first | exact Or.inl rfl | exact Or.inr (Or.inl rfl) | exact Or.inr (Or.inr rfl)) (by first | exact Or.inl rfl | exact Or.inr (Or.inl rfl) | exact Or.inr (Or.inr rfl)) (fun _ _ _ _ _ _ _ _ => by kernel_rfl)
  have ew_NothingToUndo : ErrW l.prog w K mg base C_NothingToUndo "NothingToUndo" := errW_mk famK_R eo_NothingToUndo ev_NothingToUndo (by decide +kernel) ei_NothingToUndo ef_NothingToUndo FE_NothingToUndo sc_NothingToUndo___init__ rfl (by decide) (by decide) (by decide) (by first | exact Or.inl rfl | exact Or.inr (Or.inl rfl) | exact Or.inr (Or.inr rfl)) (by first | exact Or.inl rfl | exact Or.inr (Or.inl rfl) | exact Or.inr (Or.inr rfl)) (fun _ _ _ _ _ _ _ _ => by kernel_rfl)
  have er_BadAllowance : ErrK l.prog w K mg base C_BadAllowance "BadAllowance" := err_mk (oexG_of famI_V eo_BadAllowance ev_BadAllowance es_BadAllowance eb_BadAllowance et_BadAllowance ek_BadAllowance) (PySem.W.mg_of X G eg_BadAllowance) (by decide +kernel) en_BadAllowance ei_BadAllowance ef_BadAllowance FE_BadAllowance bE_BadAllowance sc_BadAllowance___init__ rfl (by decide) (by decide) (by decide) (by first | exact Or.inl rfl | exact Or.inr (Or.inl rfl) | exact Or.inr (Or.inr rfl)) (by first | exact Or.inl rfl | exact Or.inr (Or.inl rfl) | exact Or.inr (Or.inr rfl))
  have er_BadPlace : ErrK l.prog w K mg base C_BadPlace "BadPlace" := err_mk (oexG_of famI_V eo_BadPlace ev_BadPlace es_BadPlace eb_BadPlace et_BadPlace ek_BadPlace) (PySem.W.mg_of X G eg_BadPlace) (by decide +kernel) en_BadPlace ei_BadPlace ef_BadPlace FE_BadPlace bE_BadPlace sc_BadPlace___init__ rfl (by decide) (by decide) (by decide) (by first | exact Or.inl rfl | exact Or.inr (Or.inl rfl) | exact Or.inr (Or.inr rfl)) (by first | exact Or.inl rfl | exact Or.inr (Or.inl rfl) | exact Or.inr (Or.inr rfl))
  have er_BadCount : ErrK l.prog w K mg base C_BadCount "BadCount" := err_mk (oexG_of famI_V eo_BadCount ev_BadCount es_BadCount eb_BadCount et_BadCount ek_BadCount) (PySem.W.mg_of X G eg_BadCount) (by decide +kernel) en_BadCount ei_BadCount ef_BadCount FE_BadCount bE_BadCount sc_BadCount___init__ rfl (by decide) (by decide) (by decide) (by first | exact Or.inl rfl | exact Or.inr (Or.inl rfl) | exact Or.inr (Or.inr rfl)) (by first | exact Or.inl rfl | exact Or.inr (Or.inl rfl) | exact Or.inr (Or.inr rfl))
  have er_BadDate : ErrK l.prog w K mg base C_BadDate "BadDate" := err_mk (oexG_of famI_V eo_BadDate ev_BadDate es_BadDate eb_BadDate et_BadDate ek_BadDate) (PySem.W.mg_of X G eg_BadDate) (by decide +kernel) en_BadDate ei_BadDate ef_BadDate FE_BadDate bE_BadDate sc_BadDate___init__ rfl (by decide) (by decide) (by decide) (by first | exact Or.inl rfl | exact Or.inr (Or.inl rfl) | exact Or.inr (Or.inr rfl)) (by first | exact Or.inl rfl | exact Or.inr (Or.inl rfl) | exact Or.inr (Or.inr rfl))
  have er_BadMany : ErrK l.prog w K mg base C_BadMany "BadMany" := err_mk (oexG_of famI_V eo_BadMany ev_BadMany es_BadMany eb_BadMany et_BadMany ek_BadMany) (PySem.W.mg_of X G eg_BadMany) (by decide +kernel) en_BadMany ei_BadMany ef_BadMany FE_BadMany bE_BadMany sc_BadMany___init__ rfl (by decide) (by decide) (by decide) (by first | exact Or.inl rfl | exact Or.inr (Or.inl rfl) | exact Or.inr (Or.inr rfl)) (by first | exact Or.inl rfl | exact Or.inr (Or.inl rfl) | exact Or.inr (Or.inr rfl))
  have er_BadList : ErrK l.prog w K mg base C_BadList "BadList" := err_mk (oexG_of famI_V eo_BadList ev_BadList es_BadList eb_BadList et_BadList ek_BadList) (PySem.W.mg_of X G eg_BadList) (by decide +kernel) en_BadList ei_BadList ef_BadList FE_BadList bE_BadList sc_BadList___init__ rfl (by decide) (by decide) (by decide) (by first | exact Or.inl rfl | exact Or.inr (Or.inl rfl) | exact Or.inr (Or.inr rfl)) (by first | exact Or.inl rfl | exact Or.inr (Or.inl rfl) | exact Or.inr (Or.inr rfl))
  have er_BadStock : ErrK l.prog w K mg base C_BadStock "BadStock" := err_mk (oexG_of famI_V eo_BadStock ev_BadStock es_BadStock eb_BadStock et_BadStock ek_BadStock) (PySem.W.mg_of X G eg_BadStock) (by decide +kernel) en_BadStock ei_BadStock ef_BadStock FE_BadStock bE_BadStock sc_BadStock___init__ rfl (by decide) (by decide) (by decide) (by first | exact Or.inl rfl | exact Or.inr (Or.inl rfl) | exact Or.inr (Or.inr rfl)) (by first | exact Or.inl rfl | exact Or.inr (Or.inl rfl) | exact Or.inr (Or.inr rfl))
  have er_RingOfLists : ErrK l.prog w K mg base C_RingOfLists "RingOfLists" := err_mk (oexG_of famI_V eo_RingOfLists ev_RingOfLists es_RingOfLists eb_RingOfLists et_RingOfLists ek_RingOfLists) (PySem.W.mg_of X G eg_RingOfLists) (by decide +kernel) en_RingOfLists ei_RingOfLists ef_RingOfLists FE_RingOfLists bE_RingOfLists sc_RingOfLists___init__ rfl (by decide) (by decide) (by decide) (by first | exact Or.inl rfl | exact Or.inr (Or.inl rfl) | exact Or.inr (Or.inr rfl)) (by first | exact Or.inl rfl | exact Or.inr (Or.inl rfl) | exact Or.inr (Or.inr rfl))
  have er_Lacking : ErrK l.prog w K mg base C_Lacking "Lacking" := err_mk (oexG_of famI_V eo_Lacking ev_Lacking es_Lacking eb_Lacking et_Lacking ek_Lacking) (PySem.W.mg_of X G eg_Lacking) (by decide +kernel) en_Lacking ei_Lacking ef_Lacking FE_Lacking bE_Lacking sc_Lacking___init__ rfl (by decide) (by decide) (by decide) (by first | exact Or.inl rfl | exact Or.inr (Or.inl rfl) | exact Or.inr (Or.inr rfl)) (by first | exact Or.inl rfl | exact Or.inr (Or.inl rfl) | exact Or.inr (Or.inr rfl))
  have er_UnknownPlace : ErrK l.prog w K mg base C_UnknownPlace "UnknownPlace" := err_mk (oexG_of famI_K eo_UnknownPlace ev_UnknownPlace es_UnknownPlace eb_UnknownPlace et_UnknownPlace ek_UnknownPlace) (PySem.W.mg_of X G eg_UnknownPlace) (by decide +kernel) en_UnknownPlace ei_UnknownPlace ef_UnknownPlace FE_UnknownPlace bE_UnknownPlace sc_UnknownPlace___init__ rfl (by decide) (by decide) (by decide) (by first | exact Or.inl rfl | exact Or.inr (Or.inl rfl) | exact Or.inr (Or.inr rfl)) (by first | exact Or.inl rfl | exact Or.inr (Or.inl rfl) | exact Or.inr (Or.inr rfl))
  have er_UnknownList : ErrK l.prog w K mg base C_UnknownList "UnknownList" := err_mk (oexG_of famI_K eo_UnknownList ev_UnknownList es_UnknownList eb_UnknownList et_UnknownList ek_UnknownList) (PySem.W.mg_of X G eg_UnknownList) (by decide +kernel) en_UnknownList ei_UnknownList ef_UnknownList FE_UnknownList bE_UnknownList sc_UnknownList___init__ rfl (by decide) (by decide) (by decide) (by first | exact Or.inl rfl | exact Or.inr (Or.inl rfl) | exact Or.inr (Or.inr rfl)) (by first | exact Or.inl rfl | exact Or.inr (Or.inl rfl) | exact Or.inr (Or.inr rfl))
  have er_TooMany : ErrK l.prog w K mg base C_TooMany "TooMany" := err_mk (oexG_of famI_O eo_TooMany ev_TooMany es_TooMany eb_TooMany et_TooMany ek_TooMany) (PySem.W.mg_of X G eg_TooMany) (by decide +kernel) en_TooMany ei_TooMany ef_TooMany FE_TooMany bE_TooMany sc_TooMany___init__ rfl (by decide) (by decide) (by decide) (by first | exact Or.inl rfl | exact Or.inr (Or.inl rfl) | exact Or.inr (Or.inr rfl)) (by first | exact Or.inl rfl | exact Or.inr (Or.inl rfl) | exact Or.inr (Or.inr rfl))
  have er_NothingToUndo : ErrK l.prog w K mg base C_NothingToUndo "NothingToUndo" := err_mk (oexG_of famI_R eo_NothingToUndo ev_NothingToUndo es_NothingToUndo eb_NothingToUndo et_NothingToUndo ek_NothingToUndo) (PySem.W.mg_of X G eg_NothingToUndo) (by decide +kernel) en_NothingToUndo ei_NothingToUndo ef_NothingToUndo FE_NothingToUndo bE_NothingToUndo sc_NothingToUndo___init__ rfl (by decide) (by decide) (by decide) (by first | exact Or.inl rfl | exact Or.inr (Or.inl rfl) | exact Or.inr (Or.inr rfl)) (by first | exact Or.inl rfl | exact Or.inr (Or.inl rfl) | exact Or.inr (Or.inr rfl))
  have O0 := ok__law_pool (P := l.prog) (w := w) (mg := mg) (base := base) (cm := ⟨fun n => (([("BadAllowance", C_BadAllowance), ("BadPlace", C_BadPlace), ("BadCount", C_BadCount), ("BadDate", C_BadDate), ("BadMany", C_BadMany), ("BadList", C_BadList), ("BadStock", C_BadStock), ("RingOfLists", C_RingOfLists), ("Lacking", C_Lacking), ("UnknownPlace", C_UnknownPlace), ("UnknownList", C_UnknownList), ("TooMany", C_TooMany), ("NothingToUndo", C_NothingToUndo)] : List (Str × Addr)).lookup n).getD 0, l.prog, w⟩) F0 (PySem.W.mg_none_of X G z_len) (PySem.W.mg_none_of X G z_sum) (PySem.W.mg_none_of X G z_abs) (PySem.W.mg_none_of X G z_int)
  have O1 := ok__law_draw (P := l.prog) (w := w) (mg := mg) (base := base) (cm := ⟨fun n => (([("BadAllowance", C_BadAllowance), ("BadPlace", C_BadPlace), ("BadCount", C_BadCount), ("BadDate", C_BadDate), ("BadMany", C_BadMany), ("BadList", C_BadList), ("BadStock", C_BadStock), ("RingOfLists", C_RingOfLists), ("Lacking", C_Lacking), ("UnknownPlace", C_UnknownPlace), ("UnknownList", C_UnknownList), ("TooMany", C_TooMany), ("NothingToUndo", C_NothingToUndo)] : List (Str × Addr)).lookup n).getD 0, l.prog, w⟩) F1 (PySem.W.mg_none_of X G z_int)
  have O2 := ok_law (P := l.prog) (w := w) (mg := mg) (base := base) (cm := ⟨fun n => (([("BadAllowance", C_BadAllowance), ("BadPlace", C_BadPlace), ("BadCount", C_BadCount), ("BadDate", C_BadDate), ("BadMany", C_BadMany), ("BadList", C_BadList), ("BadStock", C_BadStock), ("RingOfLists", C_RingOfLists), ("Lacking", C_Lacking), ("UnknownPlace", C_UnknownPlace), ("UnknownList", C_UnknownList), ("TooMany", C_TooMany), ("NothingToUndo", C_NothingToUndo)] : List (Str × Addr)).lookup n).getD 0, l.prog, w⟩) F2 (PySem.W.mg_none_of X G z_range) (PySem.W.mg_none_of X G z_max) (PySem.W.mg_none_of X G z_min) (PySem.W.mg_none_of X G z_len) (PySem.W.mg_none_of X G z_isinstance) (PySem.W.mg_none_of X G z_ValueError) (PySem.W.mg_none_of X G z_KeyError) (PySem.W.mg_none_of X G z_RuntimeError) (PySem.W.mg_none_of X G z_OverflowError) O0 (PySem.W.mg_of X G a0) k0 b0 O1 (PySem.W.mg_of X G a1) k1 b1 er_BadAllowance er_BadCount er_BadPlace er_BadMany er_BadDate er_BadStock er_BadList er_UnknownPlace er_RingOfLists er_TooMany er_UnknownList er_Lacking er_NothingToUndo hx_BadAllowance hx_BadCount hx_BadPlace hx_BadMany hx_BadDate hx_BadStock hx_BadList hx_UnknownPlace hx_RingOfLists hx_TooMany hx_UnknownList hx_Lacking hx_NothingToUndo (PySem.W.mg_of X G gg_PartsError) (PySem.W.mg_of X G eg_BadMany) (PySem.W.mg_of X G eg_BadAllowance) ew_BadAllowance ew_BadCount ew_BadPlace ew_BadMany ew_BadDate ew_BadStock ew_BadList ew_UnknownPlace ew_RingOfLists ew_TooMany ew_UnknownList ew_Lacking ew_NothingToUndo ky_NothingToUndo_ValueError ky_TooMany_ValueError ky_UnknownList_ValueError ky_UnknownPlace_ValueError ky_Lacking_ValueError ky_RingOfLists_ValueError ky_BadStock_ValueError ky_BadList_ValueError ky_BadMany_ValueError ky_BadDate_ValueError ky_BadCount_ValueError ky_BadPlace_ValueError ky_BadAllowance_ValueError ky_NothingToUndo_PartsError ky_TooMany_PartsError ky_UnknownList_PartsError ky_UnknownPlace_PartsError ky_Lacking_PartsError ky_RingOfLists_PartsError ky_BadStock_PartsError ky_BadList_PartsError ky_BadMany_PartsError ky_BadDate_PartsError ky_BadCount_PartsError ky_BadPlace_PartsError ky_BadAllowance_PartsError ky_BadDate_BadMany ky_BadPlace_BadAllowance ky_UnknownList_KeyError ky_UnknownPlace_KeyError ky_NothingToUndo_RuntimeError ky_TooMany_OverflowError
  exact law_imp O2 law_true
end ThisLaw
open PySem PySem.W PyProof.Rows
set_option maxHeartbeats 0 in
theorem PySem.Challenge.cw_standinparts_k19_errors_holds : PySem.Challenge.rw_standinparts_k19_errors.Holds := by
  w_on; o_law; k_head; (case hw => w_witness2)
  k_fill
  refine L2.walk_of (l := PySem.Challenge.rw_standinparts_k19_errors) (n := 63) (k := 3) (x := "_law_script") (CX := fun _ => L2.CX0) (sp := fun w => EL.spLaw _) rfl (by decide) rfl ⟨rfl, by decide, by decide⟩ (fun w h Y => PySem.W.kIn_of Y) ?F (fun _ H a ns hl hO hS => ⟨a, ns, rfl, hO, hS, hl, fun _ => rfl⟩) (fun _ _ _ _ _ h => h)
  case F =>
    intro w mg fa h KX G hmg
    refine' ThisLaw.all_mk KX G hmg ?a0 ?l0 ?c0 ?k0 ?a1 ?l1 ?c1 ?k1 ?a2 ?l2 ?c2 ?k2 ?z_len ?z_sum ?z_abs ?z_int ?z_range ?z_max ?z_min ?z_isinstance ?z_ValueError ?z_KeyError ?z_RuntimeError ?z_OverflowError ?gg_PartsError ?eg_BadAllowance ?eo_BadAllowance ?ev_BadAllowance ?es_BadAllowance ?eb_BadAllowance ?et_BadAllowance ?ek_BadAllowance ?en_BadAllowance ?ei_BadAllowance ?ef_BadAllowance ?el_BadAllowance ?ec_BadAllowance ?ee_BadAllowance ?h1_BadAllowance ?h2_BadAllowance ?h3_BadAllowance ?h4_BadAllowance ?h5_BadAllowance ?h6_BadAllowance ?h7_BadAllowance ?eg_BadPlace ?eo_BadPlace ?ev_BadPlace ?es_BadPlace ?eb_BadPlace ?et_BadPlace ?ek_BadPlace ?en_BadPlace ?ei_BadPlace ?ef_BadPlace ?el_BadPlace ?ec_BadPlace ?ee_BadPlace ?h1_BadPlace ?h2_BadPlace ?h3_BadPlace ?h4_BadPlace ?h5_BadPlace ?h6_BadPlace ?h7_BadPlace ?eg_BadCount ?eo_BadCount ?ev_BadCount ?es_BadCount ?eb_BadCount ?et_BadCount ?ek_BadCount ?en_BadCount ?ei_BadCount ?ef_BadCount ?el_BadCount ?ec_BadCount ?ee_BadCount ?h1_BadCount ?h2_BadCount ?h3_BadCount ?h4_BadCount ?h5_BadCount ?h6_BadCount ?h7_BadCount ?eg_BadDate ?eo_BadDate ?ev_BadDate ?es_BadDate ?eb_BadDate ?et_BadDate ?ek_BadDate ?en_BadDate ?ei_BadDate ?ef_BadDate ?el_BadDate ?ec_BadDate ?ee_BadDate ?h1_BadDate ?h2_BadDate ?h3_BadDate ?h4_BadDate ?h5_BadDate ?h6_BadDate ?h7_BadDate ?eg_BadMany ?eo_BadMany ?ev_BadMany ?es_BadMany ?eb_BadMany ?et_BadMany ?ek_BadMany ?en_BadMany ?ei_BadMany ?ef_BadMany ?el_BadMany ?ec_BadMany ?ee_BadMany ?h1_BadMany ?h2_BadMany ?h3_BadMany ?h4_BadMany ?h5_BadMany ?h6_BadMany ?h7_BadMany ?eg_BadList ?eo_BadList ?ev_BadList ?es_BadList ?eb_BadList ?et_BadList ?ek_BadList ?en_BadList ?ei_BadList ?ef_BadList ?el_BadList ?ec_BadList ?ee_BadList ?h1_BadList ?h2_BadList ?h3_BadList ?h4_BadList ?h5_BadList ?h6_BadList ?h7_BadList ?eg_BadStock ?eo_BadStock ?ev_BadStock ?es_BadStock ?eb_BadStock ?et_BadStock ?ek_BadStock ?en_BadStock ?ei_BadStock ?ef_BadStock ?el_BadStock ?ec_BadStock ?ee_BadStock ?h1_BadStock ?h2_BadStock ?h3_BadStock ?h4_BadStock ?h5_BadStock ?h6_BadStock ?h7_BadStock ?eg_RingOfLists ?eo_RingOfLists ?ev_RingOfLists ?es_RingOfLists ?eb_RingOfLists ?et_RingOfLists ?ek_RingOfLists ?en_RingOfLists ?ei_RingOfLists ?ef_RingOfLists ?el_RingOfLists ?ec_RingOfLists ?ee_RingOfLists ?h1_RingOfLists ?h2_RingOfLists ?h3_RingOfLists ?h4_RingOfLists ?h5_RingOfLists ?h6_RingOfLists ?h7_RingOfLists ?eg_Lacking ?eo_Lacking ?ev_Lacking ?es_Lacking ?eb_Lacking ?et_Lacking ?ek_Lacking ?en_Lacking ?ei_Lacking ?ef_Lacking ?el_Lacking ?ec_Lacking ?ee_Lacking ?h1_Lacking ?h2_Lacking ?h3_Lacking ?h4_Lacking ?h5_Lacking ?h6_Lacking ?h7_Lacking ?eg_UnknownPlace ?eo_UnknownPlace ?ev_UnknownPlace ?es_UnknownPlace ?eb_UnknownPlace ?et_UnknownPlace ?ek_UnknownPlace ?en_UnknownPlace ?ei_UnknownPlace ?ef_UnknownPlace ?el_UnknownPlace ?ec_UnknownPlace ?ee_UnknownPlace ?h1_UnknownPlace ?h2_UnknownPlace ?h3_UnknownPlace ?h4_UnknownPlace ?h5_UnknownPlace ?h6_UnknownPlace ?h7_UnknownPlace ?eg_UnknownList ?eo_UnknownList ?ev_UnknownList ?es_UnknownList ?eb_UnknownList ?et_UnknownList ?ek_UnknownList ?en_UnknownList ?ei_UnknownList ?ef_UnknownList ?el_UnknownList ?ec_UnknownList ?ee_UnknownList ?h1_UnknownList ?h2_UnknownList ?h3_UnknownList ?h4_UnknownList ?h5_UnknownList ?h6_UnknownList ?h7_UnknownList ?eg_TooMany ?eo_TooMany ?ev_TooMany ?es_TooMany ?eb_TooMany ?et_TooMany ?ek_TooMany ?en_TooMany ?ei_TooMany ?ef_TooMany ?el_TooMany ?ec_TooMany ?ee_TooMany ?h1_TooMany ?h2_TooMany ?h3_TooMany ?h4_TooMany ?h5_TooMany ?h6_TooMany ?h7_TooMany ?eg_NothingToUndo ?eo_NothingToUndo ?ev_NothingToUndo ?es_NothingToUndo ?eb_NothingToUndo ?et_NothingToUndo ?ek_NothingToUndo ?en_NothingToUndo ?ei_NothingToUndo ?ef_NothingToUndo ?el_NothingToUndo ?ec_NothingToUndo ?ee_NothingToUndo ?h1_NothingToUndo ?h2_NothingToUndo ?h3_NothingToUndo ?h4_NothingToUndo ?h5_NothingToUndo ?h6_NothingToUndo ?h7_NothingToUndo ?ky_NothingToUndo_ValueError ?ky_TooMany_ValueError ?ky_UnknownList_ValueError ?ky_UnknownPlace_ValueError ?ky_Lacking_ValueError ?ky_RingOfLists_ValueError ?ky_BadStock_ValueError ?ky_BadList_ValueError ?ky_BadMany_ValueError ?ky_BadDate_ValueError ?ky_BadCount_ValueError ?ky_BadPlace_ValueError ?ky_BadAllowance_ValueError ?ky_NothingToUndo_PartsError ?ky_TooMany_PartsError ?ky_UnknownList_PartsError ?ky_UnknownPlace_PartsError ?ky_Lacking_PartsError ?ky_RingOfLists_PartsError ?ky_BadStock_PartsError ?ky_BadList_PartsError ?ky_BadMany_PartsError ?ky_BadDate_PartsError ?ky_BadCount_PartsError ?ky_BadPlace_PartsError ?ky_BadAllowance_PartsError ?ky_BadDate_BadMany ?ky_BadPlace_BadAllowance ?ky_UnknownList_KeyError ?ky_UnknownPlace_KeyError ?ky_NothingToUndo_RuntimeError ?ky_TooMany_OverflowError
    (case a0 => k_is); (case l0 => k_is); (case c0 => k_is); (case k0 => k_is); (case a1 => k_is); (case l1 => k_is); (case c1 => k_is); (case k1 => k_is); (case a2 => k_is); (case l2 => k_is); (case c2 => k_is); (case k2 => k_is); (case z_len => k_is); (case z_sum => k_is); (case z_abs => k_is); (case z_int => k_is); (case z_range => k_is); (case z_max => k_is); (case z_min => k_is); (case z_isinstance => k_is); (case z_ValueError => k_is); (case z_KeyError => k_is); (case z_RuntimeError => k_is); (case z_OverflowError => k_is); (case gg_PartsError => k_is); (case eg_BadAllowance => k_is); (case eo_BadAllowance => k_is); (case ev_BadAllowance => rfl); (case es_BadAllowance => k_is); (case eb_BadAllowance => k_is); (case et_BadAllowance => k_is); (case ek_BadAllowance => k_is); (case en_BadAllowance => k_is); (case ei_BadAllowance => k_is); (case ef_BadAllowance => k_is); (case el_BadAllowance => k_is); (case ec_BadAllowance => k_is); (case ee_BadAllowance => k_is); (case h1_BadAllowance => k_is); (case h2_BadAllowance => k_is); (case h3_BadAllowance => k_is); (case h4_BadAllowance => k_is); (case h5_BadAllowance => k_is); (case h6_BadAllowance => k_is); (case h7_BadAllowance => k_is); (case eg_BadPlace => k_is); (case eo_BadPlace => k_is); (case ev_BadPlace => rfl); (case es_BadPlace => k_is); (case eb_BadPlace => k_is); (case et_BadPlace => k_is); (case ek_BadPlace => k_is); (case en_BadPlace => k_is); (case ei_BadPlace => k_is); (case ef_BadPlace => k_is); (case el_BadPlace => k_is); (case ec_BadPlace => k_is); (case ee_BadPlace => k_is); (case h1_BadPlace => k_is); (case h2_BadPlace => k_is); (case h3_BadPlace => k_is); (case h4_BadPlace => k_is); (case h5_BadPlace => k_is); (case h6_BadPlace => k_is); (case h7_BadPlace => k_is); (case eg_BadCount => k_is); (case eo_BadCount => k_is); (case ev_BadCount => rfl); (case es_BadCount => k_is); (case eb_BadCount => k_is); (case et_BadCount => k_is); (case ek_BadCount => k_is); (case en_BadCount => k_is); (case ei_BadCount => k_is); (case ef_BadCount => k_is); (case el_BadCount => k_is); (case ec_BadCount => k_is); (case ee_BadCount => k_is); (case h1_BadCount => k_is); (case h2_BadCount => k_is); (case h3_BadCount => k_is); (case h4_BadCount => k_is); (case h5_BadCount => k_is); (case h6_BadCount => k_is); (case h7_BadCount => k_is); (case eg_BadDate => k_is); (case eo_BadDate => k_is); (case ev_BadDate => rfl); (case es_BadDate => k_is); (case eb_BadDate => k_is); (case et_BadDate => k_is); (case ek_BadDate => k_is); (case en_BadDate => k_is); (case ei_BadDate => k_is); (case ef_BadDate => k_is); (case el_BadDate => k_is); (case ec_BadDate => k_is); (case ee_BadDate => k_is); (case h1_BadDate => k_is); (case h2_BadDate => k_is); (case h3_BadDate => k_is); (case h4_BadDate => k_is); (case h5_BadDate => k_is); (case h6_BadDate => k_is); (case h7_BadDate => k_is); (case eg_BadMany => k_is); (case eo_BadMany => k_is); (case ev_BadMany => rfl); (case es_BadMany => k_is); (case eb_BadMany => k_is); (case et_BadMany => k_is); (case ek_BadMany => k_is); (case en_BadMany => k_is); (case ei_BadMany => k_is); (case ef_BadMany => k_is); (case el_BadMany => k_is); (case ec_BadMany => k_is); (case ee_BadMany => k_is); (case h1_BadMany => k_is); (case h2_BadMany => k_is); (case h3_BadMany => k_is); (case h4_BadMany => k_is); (case h5_BadMany => k_is); (case h6_BadMany => k_is); (case h7_BadMany => k_is); (case eg_BadList => k_is); (case eo_BadList => k_is); (case ev_BadList => rfl); (case es_BadList => k_is); (case eb_BadList => k_is); (case et_BadList => k_is); (case ek_BadList => k_is); (case en_BadList => k_is); (case ei_BadList => k_is); (case ef_BadList => k_is); (case el_BadList => k_is); (case ec_BadList => k_is); (case ee_BadList => k_is); (case h1_BadList => k_is); (case h2_BadList => k_is); (case h3_BadList => k_is); (case h4_BadList => k_is); (case h5_BadList => k_is); (case h6_BadList => k_is); (case h7_BadList => k_is); (case eg_BadStock => k_is); (case eo_BadStock => k_is); (case ev_BadStock => rfl); (case es_BadStock => k_is); (case eb_BadStock => k_is); (case et_BadStock => k_is); (case ek_BadStock => k_is); (case en_BadStock => k_is); (case ei_BadStock => k_is); (case ef_BadStock => k_is); (case el_BadStock => k_is); (case ec_BadStock => k_is); (case ee_BadStock => k_is); (case h1_BadStock => k_is); (case h2_BadStock => k_is); (case h3_BadStock => k_is); (case h4_BadStock => k_is); (case h5_BadStock => k_is); (case h6_BadStock => k_is); (case h7_BadStock => k_is); (case eg_RingOfLists => k_is); (case eo_RingOfLists => k_is); (case ev_RingOfLists => rfl); (case es_RingOfLists => k_is); (case eb_RingOfLists => k_is); (case et_RingOfLists => k_is); (case ek_RingOfLists => k_is); (case en_RingOfLists => k_is); (case ei_RingOfLists => k_is); (case ef_RingOfLists => k_is); (case el_RingOfLists => k_is); (case ec_RingOfLists => k_is); (case ee_RingOfLists => k_is); (case h1_RingOfLists => k_is); (case h2_RingOfLists => k_is); (case h3_RingOfLists => k_is); (case h4_RingOfLists => k_is); (case h5_RingOfLists => k_is); (case h6_RingOfLists => k_is); (case h7_RingOfLists => k_is); (case eg_Lacking => k_is); (case eo_Lacking => k_is); (case ev_Lacking => rfl); (case es_Lacking => k_is); (case eb_Lacking => k_is); (case et_Lacking => k_is); (case ek_Lacking => k_is); (case en_Lacking => k_is); (case ei_Lacking => k_is); (case ef_Lacking => k_is); (case el_Lacking => k_is); (case ec_Lacking => k_is); (case ee_Lacking => k_is); (case h1_Lacking => k_is); (case h2_Lacking => k_is); (case h3_Lacking => k_is); (case h4_Lacking => k_is); (case h5_Lacking => k_is); (case h6_Lacking => k_is); (case h7_Lacking => k_is); (case eg_UnknownPlace => k_is); (case eo_UnknownPlace => k_is); (case ev_UnknownPlace => rfl); (case es_UnknownPlace => k_is); (case eb_UnknownPlace => k_is); (case et_UnknownPlace => k_is); (case ek_UnknownPlace => k_is); (case en_UnknownPlace => k_is); (case ei_UnknownPlace => k_is); (case ef_UnknownPlace => k_is); (case el_UnknownPlace => k_is); (case ec_UnknownPlace => k_is); (case ee_UnknownPlace => k_is); (case h1_UnknownPlace => k_is); (case h2_UnknownPlace => k_is); (case h3_UnknownPlace => k_is); (case h4_UnknownPlace => k_is); (case h5_UnknownPlace => k_is); (case h6_UnknownPlace => k_is); (case h7_UnknownPlace => k_is); (case eg_UnknownList => k_is); (case eo_UnknownList => k_is); (case ev_UnknownList => rfl); (case es_UnknownList => k_is); (case eb_UnknownList => k_is); (case et_UnknownList => k_is); (case ek_UnknownList => k_is); (case en_UnknownList => k_is); (case ei_UnknownList => k_is); (case ef_UnknownList => k_is); (case el_UnknownList => k_is); (case ec_UnknownList => k_is); (case ee_UnknownList => k_is); (case h1_UnknownList => k_is); (case h2_UnknownList => k_is); (case h3_UnknownList => k_is); (case h4_UnknownList => k_is); (case h5_UnknownList => k_is); (case h6_UnknownList => k_is); (case h7_UnknownList => k_is); (case eg_TooMany => k_is); (case eo_TooMany => k_is); (case ev_TooMany => rfl); (case es_TooMany => k_is); (case eb_TooMany => k_is); (case et_TooMany => k_is); (case ek_TooMany => k_is); (case en_TooMany => k_is); (case ei_TooMany => k_is); (case ef_TooMany => k_is); (case el_TooMany => k_is); (case ec_TooMany => k_is); (case ee_TooMany => k_is); (case h1_TooMany => k_is); (case h2_TooMany => k_is); (case h3_TooMany => k_is); (case h4_TooMany => k_is); (case h5_TooMany => k_is); (case h6_TooMany => k_is); (case h7_TooMany => k_is); (case eg_NothingToUndo => k_is); (case eo_NothingToUndo => k_is); (case ev_NothingToUndo => rfl); (case es_NothingToUndo => k_is); (case eb_NothingToUndo => k_is); (case et_NothingToUndo => k_is); (case ek_NothingToUndo => k_is); (case en_NothingToUndo => k_is); (case ei_NothingToUndo => k_is); (case ef_NothingToUndo => k_is); (case el_NothingToUndo => k_is); (case ec_NothingToUndo => k_is); (case ee_NothingToUndo => k_is); (case h1_NothingToUndo => k_is); (case h2_NothingToUndo => k_is); (case h3_NothingToUndo => k_is); (case h4_NothingToUndo => k_is); (case h5_NothingToUndo => k_is); (case h6_NothingToUndo => k_is); (case h7_NothingToUndo => k_is); (case ky_NothingToUndo_ValueError => kit_is); (case ky_TooMany_ValueError => kit_is); (case ky_UnknownList_ValueError => kit_is); (case ky_UnknownPlace_ValueError => kit_is); (case ky_Lacking_ValueError => kit_is); (case ky_RingOfLists_ValueError => kit_is); (case ky_BadStock_ValueError => kit_is); (case ky_BadList_ValueError => kit_is); (case ky_BadMany_ValueError => kit_is); (case ky_BadDate_ValueError => kit_is); (case ky_BadCount_ValueError => kit_is); (case ky_BadPlace_ValueError => kit_is); (case ky_BadAllowance_ValueError => kit_is); (case ky_NothingToUndo_PartsError => kit_is); (case ky_TooMany_PartsError => kit_is); (case ky_UnknownList_PartsError => kit_is); (case ky_UnknownPlace_PartsError => kit_is); (case ky_Lacking_PartsError => kit_is); (case ky_RingOfLists_PartsError => kit_is); (case ky_BadStock_PartsError => kit_is); (case ky_BadList_PartsError => kit_is); (case ky_BadMany_PartsError => kit_is); (case ky_BadDate_PartsError => kit_is); (case ky_BadCount_PartsError => kit_is); (case ky_BadPlace_PartsError => kit_is); (case ky_BadAllowance_PartsError => kit_is); (case ky_BadDate_BadMany => kit_is); (case ky_BadPlace_BadAllowance => kit_is); (case ky_UnknownList_KeyError => kit_is); (case ky_UnknownPlace_KeyError => kit_is); (case ky_NothingToUndo_RuntimeError => kit_is); (case ky_TooMany_OverflowError => kit_is)
