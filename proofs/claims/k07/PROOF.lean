import PyProof.Rows.All
import Wide.All
import OpenK.AllK
import Wide.FinOn
import HandS.ForMost
import HandS.Wide
import HandS.SetKeys
import HandS.Star
import HandS.ExcField
import HandS.ExcInit
import HandS.Style
import HandS.IsInst
import HandS.SortInts
import HandS.Iter
import KE.GoesEnum
import KE.GoesMore
import PyProof.EnumMake
import HandS.Zip
import HandS.Deep
import HandS.RaiseMore
import HandS.Defaults
import HandS.OwnEq
import KE.KOpsOwn
import OpenK.KMeth
import OpenK.KOps
import HandS.NamedTupSort
import PyProof.InstEq
import HandS.WordsDict
import HandS.DictComp
import KE.KEqDict
import PyProof.Rows.StrMeet
import HandS.Set
import HandS.Strs
import HandS.More
import KE.RegKIsAll
import HandS.Exc
import HandS.ExcOwn
import HandS.TryMany
import HandS.ExcIs
import HandS.WordsExc
import KE.KExcInit
import PyProof.ExcBaseAll.LookupError
import KE.KExcIs
import HandS.Replace
import PyProof.ReprRoads
import HandS.Ends
import PyProof.TwoTypes
import PyProof.StrOps2
import HandS.ClsMeth
import PySem.Challenge.RW_standinparts_k07_whole_lists_within_list
set_option Elab.async false
set_option linter.all false
set_option maxRecDepth 100000
/-! EL: a small pure reading of the program's text. A value is a tree, an object a place in a list; each rule says that a piece of text does what a plain function does. -/
namespace EL
open PySem PySem.Spec L2
open PyProof.Rows hiding St

inductive W where
  | non | bl (b : Bool) | int (i : Int) | str (x : Str) | ref (i : Nat) | tup (xs : List W) | rol (xs : List W)
inductive O where
  | lst (xs : List W)
  | ins (C : Str) (fs : List (Str × W))
  | dK (kvs : List (Key × W))
  | dF (kvs : List (Key × W))
  | st (ks : List Str)
  | xc (C : Str) (f : Str) (w : W)
/-- where the classes lie; whose world it is -/
structure Cm where
  f : Str → Addr
  P : Program
  w : World
instance : CoeFun Cm (fun _ => Str → Addr) := ⟨Cm.f⟩
def inSt (ks : List Str) : Key → Bool := fun k => match k with
  | .inr x => ks.contains x
  | .inl _ => false
abbrev Hw := List O
inductive R (α : Type) where
  | ok (a : α) (h : Hw)
  | ex (c : Str) (v : W) (h : Hw)
  | no
abbrev M (α : Type) := Hw → R α
def bnd {α β : Type} (m : M α) (f : α → M β) : M β := fun h => match m h with
  | .ok a h' => f a h'
  | .ex c v h' => .ex c v h'
  | .no => .no
def rtn {α : Type} (a : α) : M α := fun h => .ok a h
def bad {α : Type} : M α := fun _ => .no
theorem bnd_ok {α β : Type} {m : M α} {f : α → M β} {h h' : Hw} {b : β} (e : bnd m f h = .ok b h') : ∃ a h1, m h = .ok a h1 ∧ f a h1 = .ok b h' := by
  unfold bnd at e
  split at e
  · exact ⟨_, _, by assumption, e⟩
  · cases e
  · cases e
abbrev SW := List (Option W)
abbrev ME := SW → M W
abbrev MT := SW → M Bool
abbrev MA := SW → M (List W)
inductive Fl where
  | nx (s : SW) | rt (w : W) | bk (s : SW) | ct (s : SW)
abbrev MS := SW → M Fl
abbrev MG := W → SW → M SW

mutual
def W.beq : W → W → Bool
  | .non, .non => true
  | .bl a, .bl b => a == b
  | .int a, .int b => a == b
  | .str a, .str b => a == b
  | .ref a, .ref b => a == b
  | .tup a, .tup b => W.beqL a b
  | .rol a, .rol b => W.beqL a b
  | _, _ => false
def W.beqL : List W → List W → Bool
  | [], [] => true
  | x :: xs, y :: ys => W.beq x y && W.beqL xs ys
  | _, _ => false
end
mutual
theorem W.beq_eq : ∀ {a b : W}, W.beq a b = true → a = b
  | .non, b, h => by cases b <;> first | rfl | (simp [W.beq] at h)
  | .bl a, b, h => by cases b <;> simp [W.beq] at h; simp [h]
  | .int a, b, h => by cases b <;> simp [W.beq] at h; simp [h]
  | .str a, b, h => by cases b <;> simp [W.beq] at h; simp [h]
  | .ref a, b, h => by cases b <;> simp [W.beq] at h; simp [h]
  | .tup a, b, h => by
    cases b <;> simp [W.beq] at h
    rw [W.beqL_eq h]
  | .rol a, b, h => by
    cases b <;> simp [W.beq] at h
    rw [W.beqL_eq h]
theorem W.beqL_eq : ∀ {a b : List W}, W.beqL a b = true → a = b
  | [], b, h => by cases b <;> first | rfl | (simp [W.beqL] at h)
  | x :: xs, b, h => by
    cases b with
    | nil => simp [W.beqL] at h
    | cons y ys =>
      simp only [W.beqL, Bool.and_eq_true] at h
      rw [W.beq_eq h.1, W.beqL_eq h.2]
end
mutual
theorem W.beq_refl : ∀ a : W, W.beq a a = true
  | .non => rfl
  | .bl a => by simp [W.beq]
  | .int a => by simp [W.beq]
  | .str a => by simp [W.beq]
  | .ref a => by simp [W.beq]
  | .tup a => by simp only [W.beq]; exact W.beqL_refl a
  | .rol a => by simp only [W.beq]; exact W.beqL_refl a
theorem W.beqL_refl : ∀ a : List W, W.beqL a a = true
  | [] => rfl
  | x :: xs => by simp only [W.beqL, W.beq_refl x, W.beqL_refl xs, Bool.and_self]
end

/-! ### how a tree lies in the heap -/
/-- a list that never changes: frozen or written -/
def SqP (K : PySem.W.Frag) (H : Hp) (a : Addr) (xs : List V) : Prop :=
  (∃ o, H a = some (.frz o (.lst xs))) ∨
    ∃ (o : Obj) (its : Array Value) (n : Nat), K.lookup a = some o ∧ o.cls = .type "list" ∧ o.dict = none ∧ o.data = .seq its n ∧ its.size ≤ sizeLine ∧ Vals xs its.toList
theorem SqP.sq {K : PySem.W.Frag} {H : Hp} {a : Addr} {xs : List V} (h : SqP K H a xs) : SqL K H a xs := by
  rcases h with h | h
  · exact .inl (.inr h)
  · exact .inr h
mutual
inductive Rel (K : PySem.W.Frag) (ρ : List Addr) (H : Hp) : W → V → Prop where
  | non : Rel K ρ H .non .non
  | bl (b : Bool) : Rel K ρ H (.bl b) (.bl b)
  | int (i : Int) : Rel K ρ H (.int i) (.int i)
  | str (x : Str) : Rel K ρ H (.str x) (.str x)
  | ref {i : Nat} {a : Addr} (h : ρ[i]? = some a) : Rel K ρ H (.ref i) (.ref a)
  | tup {ws : List W} {vs : List V} {a : Addr} (h : SqT K H a vs) (r : Rels K ρ H ws vs) : Rel K ρ H (.tup ws) (.ref a)
  | rol {ws : List W} {vs : List V} {a : Addr} (h : SqP K H a vs) (r : Rels K ρ H ws vs) : Rel K ρ H (.rol ws) (.ref a)
inductive Rels (K : PySem.W.Frag) (ρ : List Addr) (H : Hp) : List W → List V → Prop where
  | nil : Rels K ρ H [] []
  | cons {w : W} {v : V} {ws : List W} {vs : List V} (r : Rel K ρ H w v) (t : Rels K ρ H ws vs) : Rels K ρ H (w :: ws) (v :: vs)
end
structure Le (K : PySem.W.Frag) (ρ : List Addr) (H : Hp) (ρ' : List Addr) (H' : Hp) : Prop where
  pre : ρ <+: ρ'
  sq : ∀ a vs, SqT K H a vs → SqT K H' a vs
  sl : ∀ a vs, SqP K H a vs → SqP K H' a vs
  fz : ∀ a o u, H a = some (.frz o u) → H' a = some (.frz o u)
  xd : ∀ a fs, H a = some (.xd fs) → H' a = some (.xd fs)
theorem pre_get {ρ ρ' : List Addr} (h : ρ <+: ρ') {i : Nat} {a : Addr} (e : ρ[i]? = some a) : ρ'[i]? = some a := by
  obtain ⟨t, rfl⟩ := h
  obtain ⟨hi, _⟩ := List.getElem?_eq_some_iff.mp e
  rw [List.getElem?_append_left hi]
  exact e
section
variable {K : PySem.W.Frag} {ρ ρ' ρ'' : List Addr} {H H' H'' : Hp}
theorem Le.refl : Le K ρ H ρ H := ⟨List.prefix_refl _, fun _ _ h => h, fun _ _ h => h, fun _ _ _ h => h, fun _ _ h => h⟩
theorem Le.trans (a : Le K ρ H ρ' H') (b : Le K ρ' H' ρ'' H'') : Le K ρ H ρ'' H'' :=
  ⟨a.pre.trans b.pre, fun x vs h => b.sq x vs (a.sq x vs h), fun x vs h => b.sl x vs (a.sl x vs h), fun x o u h => b.fz x o u (a.fz x o u h), fun x f h => b.xd x f (a.xd x f h)⟩
mutual
theorem Rel.mono (l : Le K ρ H ρ' H') : ∀ {w : W} {v : V}, Rel K ρ H w v → Rel K ρ' H' w v
  | _, _, .non => .non
  | _, _, .bl b => .bl b
  | _, _, .int i => .int i
  | _, _, .str x => .str x
  | _, _, .ref h => .ref (pre_get l.pre h)
  | _, _, .tup h r => .tup (l.sq _ _ h) (Rels.mono l r)
  | _, _, .rol h r => .rol (l.sl _ _ h) (Rels.mono l r)
theorem Rels.mono (l : Le K ρ H ρ' H') : ∀ {ws : List W} {vs : List V}, Rels K ρ H ws vs → Rels K ρ' H' ws vs
  | _, _, .nil => .nil
  | _, _, .cons r t => .cons (Rel.mono l r) (Rels.mono l t)
end
theorem Rels.length : ∀ {ws : List W} {vs : List V}, Rels K ρ H ws vs → ws.length = vs.length
  | _, _, .nil => rfl
  | _, _, .cons _ t => by rw [List.length_cons, List.length_cons, Rels.length t]
theorem Rels.get : ∀ {ws : List W} {vs : List V} {i : Nat} {w : W}, Rels K ρ H ws vs → ws[i]? = some w → ∃ v, vs[i]? = some v ∧ Rel K ρ H w v
  | _, _, _, _, .nil, e => by simp at e
  | _, _, 0, _, .cons r _, e => by
    simp only [List.getElem?_cons_zero, Option.some.injEq] at e
    subst e
    exact ⟨_, rfl, r⟩
  | _, _, i + 1, w, .cons _ t, e => by
    obtain ⟨v, h1, h2⟩ := Rels.get (i := i) (w := w) t (by simpa using e)
    exact ⟨v, by simpa using h1, h2⟩
theorem Rels.append : ∀ {ws us : List W} {vs ts : List V}, Rels K ρ H ws vs → Rels K ρ H us ts → Rels K ρ H (ws ++ us) (vs ++ ts)
  | _, _, _, _, .nil, s => s
  | _, _, _, _, .cons r t, s => .cons r (Rels.append t s)
theorem Rels.take (n : Nat) : ∀ {ws : List W} {vs : List V}, Rels K ρ H ws vs → Rels K ρ H (ws.take n) (vs.take n) := by
  intro ws vs r
  induction n generalizing ws vs with
  | zero => exact .nil
  | succ n ih =>
    cases r with
    | nil => exact .nil
    | cons r t => exact .cons r (ih t)
theorem Rels.drop (n : Nat) : ∀ {ws : List W} {vs : List V}, Rels K ρ H ws vs → Rels K ρ H (ws.drop n) (vs.drop n) := by
  intro ws vs r
  induction n generalizing ws vs with
  | zero => exact r
  | succ n ih =>
    cases r with
    | nil => exact .nil
    | cons r t => exact ih t
theorem Rels.set {w : W} {v : V} (q : Rel K ρ H w v) : ∀ {ws : List W} {vs : List V} (i : Nat), Rels K ρ H ws vs → Rels K ρ H (ws.set i w) (vs.set i v)
  | _, _, _, .nil => .nil
  | _, _, 0, .cons _ t => .cons q t
  | _, _, i + 1, .cons r t => .cons r (Rels.set q i t)
theorem Rels.ints : ∀ (ns : List Int), Rels K ρ H (ns.map W.int) (ns.map V.int)
  | [] => .nil
  | n :: r => .cons (.int n) (Rels.ints r)
theorem Rels.of_ints : ∀ {ns : List Int} {vs : List V}, Rels K ρ H (ns.map W.int) vs → vs = ns.map V.int
  | [], _, .nil => rfl
  | n :: r, _, .cons q t => by
    cases q
    rw [Rels.of_ints t]
    rfl
theorem Rels.of_strs : ∀ {ns : List Str} {vs : List V}, Rels K ρ H (ns.map W.str) vs → vs = ns.map V.str
  | [], _, .nil => rfl
  | n :: r, _, .cons q t => by
    cases q
    rw [Rels.of_strs t]
    rfl
theorem Rels.of_bls : ∀ {ns : List Bool} {vs : List V}, Rels K ρ H (ns.map W.bl) vs → vs = ns.map V.bl
  | [], _, .nil => rfl
  | n :: r, _, .cons q t => by
    cases q
    rw [Rels.of_bls t]
    rfl
end
def RelO (K : PySem.W.Frag) (cm : Cm) (ρ : List Addr) (H : Hp) (a : Addr) : O → Prop
  | .lst xs => ∃ vs, H a = some (.lst vs) ∧ Rels K ρ H xs vs
  | .ins C fs => ∃ dx fv, H a = some (.ins (cm C) dx fv) ∧ fv.map (·.1) = fs.map (·.1) ∧ Rels K ρ H (fs.map (·.2)) (fv.map (·.2))
  | .dK kvs => ∃ kv, H a = some (.dK kv) ∧ kv.map (·.1) = kvs.map (·.1) ∧ Rels K ρ H (kvs.map (·.2)) (kv.map (·.2))
  | .dF kvs => ∃ o kv, H a = some (.frz o (.dK kv)) ∧ kv.map (·.1) = kvs.map (·.1) ∧ Rels K ρ H (kvs.map (·.2)) (kv.map (·.2))
  | .st ks => ∃ n, n ≤ ks.length ∧ H a = some (SetK cm.P cm.w a (inSt ks) n)
  | .xc C f w => ∃ d v, H a = some (exo a (cm C) (some d)) ∧ H d = some (.xd [(f, v)]) ∧ Rel K ρ H w v
structure RelH (K : PySem.W.Frag) (cm : Cm) (ρ : List Addr) (h : Hw) (H : Hp) : Prop where
  len : ρ.length = h.length
  nd : ρ.Nodup
  obj : ∀ (i : Nat) (o : O) (a : Addr), h[i]? = some o → ρ[i]? = some a → RelO K cm ρ H a o
def RelS (K : PySem.W.Frag) (ρ : List Addr) (H : Hp) (sw : SW) (σ : St) : Prop :=
  sw.length = σ.length ∧ ∀ (i : Nat) (w : W), sw[i]? = some (some w) → ∃ v, σ[i]? = some (some v) ∧ Rel K ρ H w v
section
variable {K : PySem.W.Frag} {cm : Cm} {ρ ρ' ρ'' : List Addr} {h h' : Hw} {H H' H'' : Hp} {sw : SW} {σ : St} {a : Addr} {i : Nat}
theorem RelS.mono (l : Le K ρ H ρ' H') (r : RelS K ρ H sw σ) : RelS K ρ' H' sw σ := ⟨r.1, fun i w e =>
  let ⟨v, h1, h2⟩ := r.2 i w e
  ⟨v, h1, h2.mono l⟩⟩
theorem RelS.set {w : W} {v : V} (r : RelS K ρ H sw σ) (q : Rel K ρ H w v) (i : Nat) : RelS K ρ H (sw.set i (some w)) (σ.set i (some v)) := by
  refine ⟨by rw [List.length_set, List.length_set]; exact r.1, fun j w' e => ?_⟩
  by_cases hj : i = j
  · subst hj
    rw [List.getElem?_set] at e
    rw [if_pos rfl] at e
    split at e
    · cases e
      refine ⟨v, ?_, q⟩
      rw [List.getElem?_set, if_pos rfl, if_pos (by rw [← r.1]; assumption)]
    · cases e
  · rw [List.getElem?_set_ne hj] at e
    rw [List.getElem?_set_ne hj]
    exact r.2 j w' e
/-- each place is known to the heap -/
theorem RelO.some {o : O} (r : RelO K cm ρ H a o) : ∃ u, H a = some u := by
  cases o with
  | lst xs => obtain ⟨vs, e, _⟩ := r; exact ⟨_, e⟩
  | ins C fs => obtain ⟨dx, fv, e, _⟩ := r; exact ⟨_, e⟩
  | dK kvs => obtain ⟨kv, e, _⟩ := r; exact ⟨_, e⟩
  | dF kvs => obtain ⟨o, kv, e, _⟩ := r; exact ⟨_, e⟩
  | st ks => obtain ⟨n, _, e⟩ := r; exact ⟨_, e⟩
  | xc C f w => obtain ⟨d, v, e, _⟩ := r; exact ⟨_, e⟩
theorem RelH.at (r : RelH K cm ρ h H) {w : W} (hi : ρ[i]? = some a) : ∃ o, h[i]? = some o ∧ RelO K cm ρ H a o := by
  obtain ⟨hl, _⟩ := List.getElem?_eq_some_iff.mp hi
  have hl' : i < h.length := by rw [← r.len]; exact hl
  exact ⟨h[i], List.getElem?_eq_getElem hl', r.obj i _ a (List.getElem?_eq_getElem hl') hi⟩
theorem RelH.mem (r : RelH K cm ρ h H) (hm : a ∈ ρ) : ∃ u, H a = some u := by
  obtain ⟨i, hl, e⟩ := List.mem_iff_getElem.mp hm
  obtain ⟨o, _, ho⟩ := r.at (w := .non) (List.getElem?_eq_some_iff.mpr ⟨hl, e⟩)
  exact ho.some
theorem mut_tup {u : HO} (m : Mut (some u)) : (∀ xs, u ≠ .tup xs) ∧ ∀ o v, u ≠ .frz o v :=
  ⟨fun xs e => by subst e; exact m, fun o v e => by subst e; exact m⟩
/-- a changed object that is neither a tuple nor frozen: what stands fast stands -/
theorem le_mut {o u : HO} (e : H a = some u) (m : Mut (some u)) : Le K ρ H ρ (upd H a o) := by
  have k : ∀ b x, H b = some x → (∀ q, Mut (some q) → x ≠ q) → upd H a o b = some x := fun b x hb hx => by
    rw [upd_ne (fun z => hx u m (Option.some.inj (hb.symm.trans ((congrArg H z).trans e))))]
    exact hb
  refine ⟨List.prefix_refl _, fun b vs q => ?_, fun b vs q => ?_, fun b ob v q => k b _ q fun z mz y => by rw [← y] at mz; exact mz, fun b f q => k b _ q fun z mz y => by rw [← y] at mz; exact mz⟩
  · rcases q with (q | ⟨ob, q⟩) | q
    · exact .inl (.inl (k b _ q fun z mz y => by rw [← y] at mz; exact mz))
    · exact .inl (.inr ⟨ob, k b _ q fun z mz y => by rw [← y] at mz; exact mz⟩)
    · exact .inr q
  · rcases q with ⟨ob, q⟩ | q
    · exact .inl ⟨ob, k b _ q fun z mz y => by rw [← y] at mz; exact mz⟩
    · exact .inr q
/-- a new object -/
theorem le_new {o : HO} (hn : H a = none) : Le K ρ H ρ (upd H a o) := by
  have k : ∀ b x, H b = some x → upd H a o b = some x := fun b x hb => by
    rw [upd_ne (ne_of_none hb hn)]
    exact hb
  refine ⟨List.prefix_refl _, fun b vs q => ?_, fun b vs q => ?_, fun b ob v q => k b _ q, fun b f q => k b _ q⟩
  · rcases q with (q | ⟨ob, q⟩) | q
    · exact .inl (.inl (k b _ q))
    · exact .inl (.inr ⟨ob, k b _ q⟩)
    · exact .inr q
  · rcases q with ⟨ob, q⟩ | q
    · exact .inl ⟨ob, k b _ q⟩
    · exact .inr q
theorem le_app (b : Addr) : Le K ρ H (ρ ++ [b]) H := ⟨List.prefix_append _ _, fun _ _ q => q, fun _ _ q => q, fun _ _ _ q => q, fun _ _ q => q⟩
theorem RelO.mono {o : O} (l : Le K ρ H ρ' H') (e : H' a = H a) (r : RelO K cm ρ H a o) : RelO K cm ρ' H' a o := by
  cases o with
  | lst xs => obtain ⟨vs, e1, q⟩ := r; exact ⟨vs, e.trans e1, q.mono l⟩
  | ins C fs => obtain ⟨dx, fv, e1, e2, q⟩ := r; exact ⟨dx, fv, e.trans e1, e2, q.mono l⟩
  | dK kvs => obtain ⟨kv, e1, e2, q⟩ := r; exact ⟨kv, e.trans e1, e2, q.mono l⟩
  | dF kvs => obtain ⟨o, kv, e1, e2, q⟩ := r; exact ⟨o, kv, e.trans e1, e2, q.mono l⟩
  | st ks => obtain ⟨n, l1, e1⟩ := r; exact ⟨n, l1, e.trans e1⟩
  | xc C f w => obtain ⟨d, v, e1, e2, q⟩ := r; exact ⟨d, v, e.trans e1, l.xd _ _ e2, q.mono l⟩
/-- what is written at a place -/
theorem RelH.set (r : RelH K cm ρ h H) (hi : ρ[i]? = some a) {u u0 : HO} {o : O} (e0 : H a = some u0) (m0 : Mut (some u0)) (n : RelO K cm ρ (upd H a u) a o) : RelH K cm ρ (h.set i o) (upd H a u) := by
  refine ⟨by rw [List.length_set]; exact r.len, r.nd, fun j o1 b hj hb => ?_⟩
  by_cases hji : i = j
  · subst hji
    rw [hi] at hb
    cases hb
    rw [List.getElem?_set, if_pos rfl] at hj
    split at hj
    · cases hj
      exact n
    · cases hj
  · rw [List.getElem?_set_ne hji] at hj
    have ne : b ≠ a := fun z => by
      subst z
      exact hji (nd_ix r.nd hi hb)
    exact (r.obj j o1 b hj hb).mono (le_mut e0 m0) (upd_ne ne)
/-- a new object that is no place: a tuple -/
theorem RelH.new (r : RelH K cm ρ h H) (hn : H a = none) {u : HO} : RelH K cm ρ h (upd H a u) :=
  ⟨r.len, r.nd, fun j o b hj hb => (r.obj j o b hj hb).mono (le_new hn) (by
    obtain ⟨x, e⟩ := (r.obj j o b hj hb).some
    exact upd_ne (ne_of_none e hn))⟩
/-- a new place -/
theorem RelH.push (r : RelH K cm ρ h H) (hn : H a = none) {u : HO} {o : O} (n : RelO K cm (ρ ++ [a]) (upd H a u) a o) : RelH K cm (ρ ++ [a]) (h ++ [o]) (upd H a u) := by
  refine ⟨by rw [List.length_append, List.length_append, r.len]; rfl, ?_, fun j o1 b hj hb => ?_⟩
  · refine List.nodup_append.mpr ⟨r.nd, by simp, fun x hx y hy z => ?_⟩
    have hy' : y = a := by simpa using hy
    subst hy' z
    obtain ⟨u1, e1⟩ := r.mem hx
    rw [hn] at e1
    cases e1
  · by_cases hl : j < h.length
    · rw [List.getElem?_append_left hl] at hj
      rw [List.getElem?_append_left (by rw [r.len]; exact hl)] at hb
      have q := r.obj j o1 b hj hb
      obtain ⟨x, e⟩ := q.some
      exact q.mono ((le_new (o := u) hn).trans (le_app a)) (upd_ne (ne_of_none e hn))
    · rw [List.getElem?_append_right (by omega)] at hj
      rw [List.getElem?_append_right (by rw [r.len]; omega), r.len] at hb
      have hz : j - h.length = 0 := by
        have := (List.getElem?_eq_some_iff.mp hj).1
        simp at this
        omega
      rw [hz] at hj hb
      cases hj
      cases hb
      exact n
theorem push_at (r : RelH K cm ρ h H) : (ρ ++ [a])[h.length]? = some a := by
  rw [← r.len]
  simp
end

/-! ### the judgements -/
/-- what follows, once the value has come -/
abbrev KE (K : PySem.W.Frag) (cm : Cm) (ρ : List Addr) (H : Hp) (w : W) (h' : Hw) (Q : VK) : Prop :=
  ∀ ρ' H' v, Le K ρ H ρ' H' → RelH K cm ρ' h' H' → Rel K ρ' H' w v → Q v H'
def tE (K : PySem.W.Frag) (cm : Cm) (m : ME) : TE := fun σ H Q => ∃ ρ h sw w h', RelH K cm ρ h H ∧ RelS K ρ H sw σ ∧ m sw h = .ok w h' ∧ KE K cm ρ H w h' Q
def tT (K : PySem.W.Frag) (cm : Cm) (m : MT) : TT := fun σ H Q => ∃ ρ h sw b h', RelH K cm ρ h H ∧ RelS K ρ H sw σ ∧ m sw h = .ok b h' ∧ ∀ ρ' H', Le K ρ H ρ' H' → RelH K cm ρ' h' H' → Q b H'
def tA (K : PySem.W.Frag) (cm : Cm) (m : MA) : TA := fun σ H Q => ∃ ρ h sw ws h', RelH K cm ρ h H ∧ RelS K ρ H sw σ ∧ m sw h = .ok ws h' ∧ ∀ ρ' H' vs, Le K ρ H ρ' H' → RelH K cm ρ' h' H' → Rels K ρ' H' ws vs → Q vs H'
def FlK (K : PySem.W.Frag) (cm : Cm) (ρ : List Addr) (H : Hp) (f : Fl) (h' : Hw) (D : Ends) : Prop :=
  match f with
  | .nx s => ∀ ρ' H' σ', Le K ρ H ρ' H' → RelH K cm ρ' h' H' → RelS K ρ' H' s σ' → D.nx σ' H'
  | .bk s => ∀ ρ' H' σ', Le K ρ H ρ' H' → RelH K cm ρ' h' H' → RelS K ρ' H' s σ' → D.bk σ' H'
  | .ct s => ∀ ρ' H' σ', Le K ρ H ρ' H' → RelH K cm ρ' h' H' → RelS K ρ' H' s σ' → D.ct σ' H'
  | .rt w => KE K cm ρ H w h' D.rt
theorem FlK.le {K : PySem.W.Frag} {cm : Cm} {ρ ρ' : List Addr} {H H' : Hp} {f : Fl} {h' : Hw} {D : Ends} (l : Le K ρ H ρ' H') (q : FlK K cm ρ H f h' D) : FlK K cm ρ' H' f h' D := by
  cases f with
  | nx s => exact fun ρ2 H2 σ2 l2 => q ρ2 H2 σ2 (l.trans l2)
  | bk s => exact fun ρ2 H2 σ2 l2 => q ρ2 H2 σ2 (l.trans l2)
  | ct s => exact fun ρ2 H2 σ2 l2 => q ρ2 H2 σ2 (l.trans l2)
  | rt w => exact fun ρ2 H2 v l2 => q ρ2 H2 v (l.trans l2)
def tS (K : PySem.W.Frag) (cm : Cm) (m : MS) : TS := fun D σ H => ∃ ρ h sw f h', RelH K cm ρ h H ∧ RelS K ρ H sw σ ∧ m sw h = .ok f h' ∧ FlK K cm ρ H f h' D
/-- alike but at some places -/
def But (vs : List Nat) (σ σ' : St) : Prop := σ'.length = σ.length ∧ ∀ j : Nat, j ∉ vs → σ'[j]? = σ[j]?
theorem But.refl {vs : List Nat} {σ : St} : But vs σ σ := ⟨rfl, fun _ _ => rfl⟩
theorem But.trans {vs : List Nat} {σ σ' σ'' : St} (a : But vs σ σ') (b : But vs σ' σ'') : But vs σ σ'' := ⟨b.1.trans a.1, fun j hj => (b.2 j hj).trans (a.2 j hj)⟩
theorem But.set {vs : List Nat} {σ : St} {i : Nat} {x : Option V} (h : i ∈ vs) : But vs σ (σ.set i x) := ⟨List.length_set .., fun j hj => List.getElem?_set_ne (fun (z : i = j) => hj (by rw [← z]; exact h))⟩
def tG (K : PySem.W.Frag) (cm : Cm) (vs : List Nat) (m : MG) : TG := fun v σ H Q => ∃ ρ h sw w s h', RelH K cm ρ h H ∧ RelS K ρ H sw σ ∧ Rel K ρ H w v ∧ m w sw h = .ok s h' ∧ ∀ ρ' H' σ', But vs σ σ' → Le K ρ H ρ' H' → RelH K cm ρ' h' H' → RelS K ρ' H' s σ' → Q σ' H'
abbrev RE (X : Cx) (cm : Cm) (e : Expr) (m : ME) : Prop := PE X e (tE X.K cm m)
abbrev RT (X : Cx) (cm : Cm) (e : Expr) (m : MT) : Prop := PT X e (tT X.K cm m)
abbrev RW (X : Cx) (cm : Cm) (e : Expr) (m : MT) : Prop := PW X e (tT X.K cm m)
abbrev RA (X : Cx) (cm : Cm) (es : List Expr) (m : MA) : Prop := PA X es (tA X.K cm m)
abbrev RS (X : Cx) (cm : Cm) (st : Stmt) (m : MS) : Prop := PS X st (tS X.K cm m)
abbrev RSs (X : Cx) (cm : Cm) (st : List Stmt) (m : MS) : Prop := PSs X st (tS X.K cm m)
abbrev RG (X : Cx) (cm : Cm) (vs : List Nat) (tg : Expr) (m : MG) : Prop := PG X tg (tG X.K cm vs m)
theorem peM {X : Cx} {e : Expr} {t t' : TE} (p : PE X e t) (f : ∀ σ H Q, t' σ H Q → t σ H Q) : PE X e t' := ⟨fun pins s σ H Q I q => p.run pins s σ H Q I (f σ H Q q)⟩
theorem ptM {X : Cx} {e : Expr} {t t' : TT} (p : PT X e t) (f : ∀ σ H Q, t' σ H Q → t σ H Q) : PT X e t' := ⟨fun pins s σ H Q I q => p.run pins s σ H Q I (f σ H Q q)⟩
theorem pwM {X : Cx} {e : Expr} {t t' : TT} (p : PW X e t) (f : ∀ σ H Q, t' σ H Q → t σ H Q) : PW X e t' := ⟨fun wh pins s σ H Q I q => p.run wh pins s σ H Q I (f σ H Q q)⟩
theorem paM {X : Cx} {e : List Expr} {t t' : TA} (p : PA X e t) (f : ∀ σ H Q, t' σ H Q → t σ H Q) : PA X e t' := ⟨fun pos pins s σ H Q I q => p.run pos pins s σ H Q I (f σ H Q q)⟩
theorem psM {X : Cx} {e : Stmt} {t t' : TS} (p : PS X e t) (f : ∀ D σ H, t' D σ H → t D σ H) : PS X e t' := ⟨fun pins s σ H D I q => p.run pins s σ H D I (f D σ H q)⟩
theorem pssM {X : Cx} {e : List Stmt} {t t' : TS} (p : PSs X e t) (f : ∀ D σ H, t' D σ H → t D σ H) : PSs X e t' := ⟨fun pins s σ H D I q => p.run pins s σ H D I (f D σ H q)⟩
theorem pgM {X : Cx} {e : Expr} {t t' : TG} (p : PG X e t) (f : ∀ v σ H Q, t' v σ H Q → t v σ H Q) : PG X e t' := ⟨fun pins s σ H v u Q I r q => p.run pins s σ H v u Q I r (f v σ H Q q)⟩
end EL
namespace EL
open PySem PySem.Spec L2
open PyProof.Rows hiding St
def lim : Nat := 16777216
theorem lim_eq : lim = sizeLine := sizeLine_eq.symm

/-! ### the plain functions -/
def mVar (i : Nat) : ME := fun sw h => match sw[i]? with
  | some (some w) => .ok w h
  | _ => .no
def mC (w : W) : ME := fun _ h => .ok w h
def mBin (f : W → W → M W) (a b : ME) : ME := fun sw => bnd (a sw) fun x => bnd (b sw) fun y => f x y
def mUn (f : W → M W) (a : ME) : ME := fun sw => bnd (a sw) f
def aNil : MA := fun _ => rtn []
def aCons (a : ME) (r : MA) : MA := fun sw => bnd (a sw) fun x => bnd (r sw) fun xs => rtn (x :: xs)
def mTup (a : MA) : ME := fun sw => bnd (a sw) fun xs => if xs.length ≤ lim then rtn (.tup xs) else bad
def alloc (o : O) : M W := fun h => .ok (.ref h.length) (h ++ [o])
def mLst (a : MA) : ME := fun sw => bnd (a sw) fun xs => if xs.length ≤ lim then alloc (.lst xs) else bad
def mCall (f : List W → M W) (a : MA) : ME := fun sw => bnd (a sw) f
def tVal (a : ME) : MT := fun sw => bnd (a sw) fun x => match x with
  | .bl b => rtn b
  | _ => bad
def tAnd (a b : MT) : MT := fun sw => bnd (a sw) fun x => if x = true then b sw else rtn false
def tOr (a b : MT) : MT := fun sw => bnd (a sw) fun x => if x = true then rtn true else b sw
def tNot (a : MT) : MT := fun sw => bnd (a sw) fun x => rtn (!x)
def mAnd (a b : ME) : ME := fun sw => bnd (a sw) fun x => match x with
  | .bl true => b sw
  | .bl false => rtn (.bl false)
  | _ => bad
def mOr (a b : ME) : ME := fun sw => bnd (a sw) fun x => match x with
  | .bl true => rtn (.bl true)
  | .bl false => b sw
  | _ => bad
def mNot (a : ME) : ME := fun sw => bnd (a sw) fun x => match x with
  | .bl b => rtn (.bl (!b))
  | _ => bad
def mIf (c : MT) (a b : ME) : ME := fun sw => bnd (c sw) fun x => if x = true then a sw else b sw
def sNil : MS := fun sw => rtn (.nx sw)
def sSeq (a b : MS) : MS := fun sw => bnd (a sw) fun f => match f with
  | .nx s => b s
  | .rt w => rtn (.rt w)
  | .bk s => rtn (.bk s)
  | .ct s => rtn (.ct s)
def sIf (c : MT) (a b : MS) : MS := fun sw => bnd (c sw) fun x => if x = true then a sw else b sw
def sRet (a : ME) : MS := fun sw => bnd (a sw) fun x => rtn (.rt x)
def sExp (a : ME) : MS := fun sw => bnd (a sw) fun _ => rtn (.nx sw)
def sAsg (g : MG) (a : ME) : MS := fun sw => bnd (a sw) fun x => bnd (g x sw) fun s => rtn (.nx s)
def gNm (i : Nat) : MG := fun w sw => rtn (sw.set i (some w))
def sBrk : MS := fun sw => rtn (.bk sw)
def sCnt : MS := fun sw => rtn (.ct sw)

/-! ### soundness: expressions -/
section
variable {X : Cx} {cm : Cm} {e a b c : Expr} {es rest : List Expr} {ma mb mc : ME} {mta mtb : MT} {pos : Pos}
theorem re_var (i : Nat) {x : Str} {pos : Pos} (hN : X.N[i]? = some x := by rfl) (hv : Vis X.env.scope x := by first | exact Or.inl rfl | exact Or.inr (Or.inl rfl) | exact Or.inr (Or.inr rfl)) (hd : (x == ("__debug__" : Str)) = false := by decide)
    (hcd : (x == ("__classdict__" : Str)) = false := by decide) : RE X cm (.Name x pos) (mVar i) := by
  refine peM (pe_var (i := i) hN hv hd hcd) fun σ H Q q => ?_
  obtain ⟨ρ, h, sw, w, h', rh, rs, e, k⟩ := q
  unfold mVar at e
  split at e
  · cases e
    obtain ⟨v, h1, h2⟩ := rs.2 i _ (by assumption)
    exact ⟨v, h1, k ρ H v .refl rh h2⟩
  · cases e
theorem re_tC {v : V} {w : W} (p : PE X e (tC v)) (r : ∀ ρ H, Rel X.K ρ H w v) : RE X cm e (mC w) := by
  refine peM p fun σ H Q q => ?_
  obtain ⟨ρ, h, sw, w, h', rh, rs, e, k⟩ := q
  cases e
  exact k ρ H v .refl rh (r ρ H)
theorem re_int {i : Int} {j pos} : RE X cm (.Constant (.int i) j pos) (mC (.int i)) := re_tC pe_int fun _ _ => .int i
theorem re_str {i : Str} {j pos} : RE X cm (.Constant (.str i) j pos) (mC (.str i)) := re_tC pe_str fun _ _ => .str i
theorem re_bl {i : Bool} {j pos} : RE X cm (.Constant (.bool i) j pos) (mC (.bl i)) := re_tC pe_bl fun _ _ => .bl i
theorem re_non {j pos} : RE X cm (.Constant .none j pos) (mC .non) := re_tC pe_non fun _ _ => .non
theorem re_gint {x : Str} {i : Int} {t : Tok} {pos : Pos} (hm : X.mg x = some (.int i t)) (hg : Gl X x := by rfl) (hd : (x == ("__debug__" : Str)) = false := by decide) : RE X cm (.Name x pos) (mC (.int i)) := re_tC (pe_glob (v := .int i) hg hm ⟨t, rfl⟩ hd) fun _ _ => .int i
theorem re_gstr {x : Str} {i : Str} {t : Tok} {pos : Pos} (hm : X.mg x = some (.str i t)) (hg : Gl X x := by rfl) (hd : (x == ("__debug__" : Str)) = false := by decide) : RE X cm (.Name x pos) (mC (.str i)) := re_tC (pe_glob (v := .str i) hg hm ⟨t, rfl⟩ hd) fun _ _ => .str i

/-- a two-place operation by values -/
def OpW (K : PySem.W.Frag) (cm : Cm) (r : R2) (f : W → W → M W) : Prop :=
  ∀ ρ h H x y x' y' z h' Q, RelH K cm ρ h H → Rel K ρ H x x' → Rel K ρ H y y' → f x y h = .ok z h' → KE K cm ρ H z h' Q → r x' y' H Q
theorem op_tE {r : R2} {f : W → W → M W} (ow : OpW X.K cm r f) {σ : St} {H : Hp} {Q : VK} (q : tE X.K cm (mBin f ma mb) σ H Q) : tOp r (tE X.K cm ma) (tE X.K cm mb) σ H Q := by
  obtain ⟨ρ, h, sw, w, h', rh, rs, e, k⟩ := q
  obtain ⟨x, h1, e1, e2⟩ := bnd_ok e
  obtain ⟨y, h2, e3, e4⟩ := bnd_ok e2
  refine ⟨ρ, h, sw, x, h1, rh, rs, e1, fun ρ1 H1 x' l1 rh1 rx => ?_⟩
  refine ⟨ρ1, h1, sw, y, h2, rh1, rs.mono l1, e3, fun ρ2 H2 y' l2 rh2 ry => ?_⟩
  exact ow ρ2 h2 H2 x y x' y' w h' Q rh2 (rx.mono l2) ry e4 fun ρ3 H3 v l3 => k ρ3 H3 v (l1.trans (l2.trans l3))
theorem re_op {op : Operator} {r : R2} {f : W → W → M W} (ho : OpR X (binaryOp op) r) (ow : OpW X.K cm r f) (ha : RE X cm a ma) (hb : RE X cm b mb) : RE X cm (.BinOp a op b pos) (mBin f ma mb) :=
  peM (pe_op ho ha hb) fun _ _ _ => op_tE ow
theorem re_cmp {op : CmpOp} {r : R2} {f : W → W → M W} (ho : OpR X (compareOp op) r) (ow : OpW X.K cm r f) (ha : RE X cm a ma) (hb : RE X cm b mb) (hm : behindInMarks op b = false := by first | exact nomark _ | rfl) : RE X cm (.Compare a [op] [b] pos) (mBin f ma mb) :=
  peM (pe_cmpR ho ha hb hm) fun _ _ _ => op_tE ow
theorem test_of {t : TE} {m : ME} {σ : St} {H : Hp} {Q : Bool → Hp → Prop} (f : ∀ Q', tE X.K cm m σ H Q' → t σ H Q') (q : tT X.K cm (tVal m) σ H Q) : tTest t σ H Q := by
  obtain ⟨ρ, h, sw, w, h', rh, rs, e, k⟩ := q
  obtain ⟨x, h1, e1, e2⟩ := bnd_ok e
  refine f _ ⟨ρ, h, sw, x, h1, rh, rs, e1, fun ρ1 H1 x' l1 rh1 rx => ?_⟩
  cases x with
  | bl b =>
    cases rx
    cases e2
    exact ⟨_, rfl, k ρ1 H1 l1 rh1⟩
  | _ => cases e2
theorem rt_cmp {op : CmpOp} {r : R2} {f : W → W → M W} (ho : OpR X (compareOp op) r) (ow : OpW X.K cm r f) (ha : RE X cm a ma) (hb : RE X cm b mb) (hm : behindInMarks op b = false := by first | exact nomark _ | rfl) : RT X cm (.Compare a [op] [b] pos) (tVal (mBin f ma mb)) :=
  ptM (pt_cmpR ho ha hb hm) fun σ H Q q => test_of (fun Q' => op_tE ow) q
/-- a value's truth -/
def tru (x : W) : M Bool := fun h => match x with
  | .non => .ok false h
  | .bl b => .ok b h
  | .int i => .ok (i != 0) h
  | .str y => if y.length ≤ lim then .ok ((y.length : Int) != 0) h else .no
  | .tup xs => .ok (!xs.isEmpty) h
  | .rol xs => .ok (!xs.isEmpty) h
  | .ref i => match h[i]? with
    | some (.lst xs) => .ok (!xs.isEmpty) h
    | some (.dK kvs) => .ok (!kvs.isEmpty) h
    | _ => .no
def tTru (a : ME) : MT := fun sw => bnd (a sw) tru
theorem emp_of {K : PySem.W.Frag} {ρ : List Addr} {H : Hp} {ws : List W} {vs : List V} (r : Rels K ρ H ws vs) : ws.isEmpty = vs.isEmpty := by
  cases r <;> rfl
theorem tru_of {K : PySem.W.Frag} {ρ : List Addr} {h h' : Hw} {H : Hp} {x : W} {v : V} {k : Bool} (rh : RelH K cm ρ h H) (r : Rel K ρ H x v) (e : tru x h = .ok k h') : TruV K v H k ∧ h' = h := by
  cases r with
  | non => cases e; exact ⟨rfl, rfl⟩
  | bl b => cases e; exact ⟨rfl, rfl⟩
  | int i => cases e; exact ⟨rfl, rfl⟩
  | str y =>
    have e' : (if y.length ≤ lim then R.ok ((y.length : Int) != 0) h else R.no) = .ok k h' := e
    split at e'
    · cases e'
      exact ⟨⟨by rw [← lim_eq]; assumption, rfl⟩, rfl⟩
    · cases e'
  | tup hq r => cases e; exact ⟨.inr (.inl ⟨_, hq, by rw [emp_of r]⟩), rfl⟩
  | rol hq r => cases e; exact ⟨.inl ⟨_, hq.sq, by rw [emp_of r]⟩, rfl⟩
  | @ref i a hi =>
    obtain ⟨o, ho, ro⟩ := rh.at (w := .non) hi
    have e' : (match h[i]? with
      | some (.lst xs) => R.ok (!xs.isEmpty) h
      | some (.dK kvs) => R.ok (!kvs.isEmpty) h
      | _ => R.no) = .ok k h' := e
    rw [ho] at e'
    cases o with
    | lst xs =>
      obtain ⟨vs, e1, q⟩ := ro
      cases e'
      exact ⟨.inl ⟨vs, .of e1, by rw [emp_of q]⟩, rfl⟩
    | dK kvs =>
      obtain ⟨kv, e1, e2, q⟩ := ro
      cases e'
      refine ⟨.inr (.inr ⟨kv, e1, ?_⟩), rfl⟩
      cases kvs <;> cases kv <;> first | rfl | cases e2
    | dF kvs => cases e'
    | ins C fs => cases e'
    | st ks => cases e'
    | xc C f w => cases e'
theorem rt_tru (ha : RE X cm a ma) (he : ∀ whole, isTrue a X.env whole = (do let v ← whole; standAt a.pos; holding [v] (truthy v)) := by intro _; rfl) : RT X cm a (tTru ma) := by
  refine ptM (pt_truth ha he) fun σ H Q q => ?_
  obtain ⟨ρ, h, sw, w, h', rh, rs, e, k⟩ := q
  obtain ⟨x, h1, e1, e2⟩ := bnd_ok e
  refine ⟨ρ, h, sw, x, h1, rh, rs, e1, fun ρ1 H1 x' l1 rh1 rx => ?_⟩
  obtain ⟨t, eh⟩ := tru_of rh1 rx e2
  subst eh
  exact ⟨_, t, k ρ1 H1 l1 rh1⟩
theorem rt_and1 (ha : RT X cm a mta) : RW X cm (.BoolOp .And [a] pos) mta := pw_and1 ha
theorem rt_or1 (ha : RT X cm a mta) : RW X cm (.BoolOp .Or [a] pos) mta := pw_or1 ha
theorem rt_and (ha : RT X cm a mta) (hb : RW X cm (.BoolOp .And (b :: rest) pos) mtb) : RW X cm (.BoolOp .And (a :: b :: rest) pos) (tAnd mta mtb) := by
  refine pwM (pw_and ha hb) fun σ H Q q => ?_
  obtain ⟨ρ, h, sw, w, h', rh, rs, e, k⟩ := q
  obtain ⟨x, h1, e1, e2⟩ := bnd_ok e
  refine ⟨ρ, h, sw, x, h1, rh, rs, e1, fun ρ1 H1 l1 rh1 => ?_⟩
  cases x with
  | true => exact iteT ⟨ρ1, h1, sw, w, h', rh1, rs.mono l1, e2, fun ρ2 H2 l2 => k ρ2 H2 (l1.trans l2)⟩
  | false =>
    cases e2
    exact iteF (k ρ1 H1 l1 rh1)
theorem rt_or (ha : RT X cm a mta) (hb : RW X cm (.BoolOp .Or (b :: rest) pos) mtb) : RW X cm (.BoolOp .Or (a :: b :: rest) pos) (tOr mta mtb) := by
  refine pwM (pw_or ha hb) fun σ H Q q => ?_
  obtain ⟨ρ, h, sw, w, h', rh, rs, e, k⟩ := q
  obtain ⟨x, h1, e1, e2⟩ := bnd_ok e
  refine ⟨ρ, h, sw, x, h1, rh, rs, e1, fun ρ1 H1 l1 rh1 => ?_⟩
  cases x with
  | false => exact iteF ⟨ρ1, h1, sw, w, h', rh1, rs.mono l1, e2, fun ρ2 H2 l2 => k ρ2 H2 (l1.trans l2)⟩
  | true =>
    cases e2
    exact iteT (k ρ1 H1 l1 rh1)
theorem rt_not (ha : RT X cm a mta) : RT X cm (.UnaryOp .Not a pos) (tNot mta) := by
  refine ptM (pt_not ha) fun σ H Q q => ?_
  obtain ⟨ρ, h, sw, w, h', rh, rs, e, k⟩ := q
  obtain ⟨x, h1, e1, e2⟩ := bnd_ok e
  cases e2
  exact ⟨ρ, h, sw, x, h', rh, rs, e1, fun ρ1 H1 l1 rh1 => k ρ1 H1 l1 rh1⟩
theorem rw_t (h : RW X cm e mta) : RT X cm e mta := PW.pt h
theorem re_one {op} (h : RE X cm a ma) : RE X cm (.BoolOp op [a] pos) ma := pe_one h
theorem re_and (ha : RE X cm a ma) (hb : RE X cm (.BoolOp .And (b :: rest) pos) mb) : RE X cm (.BoolOp .And (a :: b :: rest) pos) (mAnd ma mb) := by
  refine peM (pe_and ha hb) fun σ H Q q => ?_
  obtain ⟨ρ, h, sw, w, h', rh, rs, e, k⟩ := q
  obtain ⟨x, h1, e1, e2⟩ := bnd_ok e
  refine ⟨ρ, h, sw, x, h1, rh, rs, e1, fun ρ1 H1 x' l1 rh1 rx => ?_⟩
  cases x with
  | bl y =>
    cases rx
    cases y with
    | true => exact ⟨true, rfl, iteT ⟨ρ1, h1, sw, w, h', rh1, rs.mono l1, e2, fun ρ2 H2 v l2 => k ρ2 H2 v (l1.trans l2)⟩⟩
    | false =>
      cases e2
      exact ⟨false, rfl, iteF (k ρ1 H1 _ l1 rh1 (.bl false))⟩
  | _ => cases e2
theorem re_or (ha : RE X cm a ma) (hb : RE X cm (.BoolOp .Or (b :: rest) pos) mb) : RE X cm (.BoolOp .Or (a :: b :: rest) pos) (mOr ma mb) := by
  refine peM (pe_or ha hb) fun σ H Q q => ?_
  obtain ⟨ρ, h, sw, w, h', rh, rs, e, k⟩ := q
  obtain ⟨x, h1, e1, e2⟩ := bnd_ok e
  refine ⟨ρ, h, sw, x, h1, rh, rs, e1, fun ρ1 H1 x' l1 rh1 rx => ?_⟩
  cases x with
  | bl y =>
    cases rx
    cases y with
    | false => exact ⟨false, rfl, iteF ⟨ρ1, h1, sw, w, h', rh1, rs.mono l1, e2, fun ρ2 H2 v l2 => k ρ2 H2 v (l1.trans l2)⟩⟩
    | true =>
      cases e2
      exact ⟨true, rfl, iteT (k ρ1 H1 _ l1 rh1 (.bl true))⟩
  | _ => cases e2
theorem re_not (ha : RE X cm a ma) : RE X cm (.UnaryOp .Not a pos) (mNot ma) := by
  refine peM (pe_not ha) fun σ H Q q => ?_
  obtain ⟨ρ, h, sw, w, h', rh, rs, e, k⟩ := q
  obtain ⟨x, h1, e1, e2⟩ := bnd_ok e
  refine ⟨ρ, h, sw, x, h1, rh, rs, e1, fun ρ1 H1 x' l1 rh1 rx => ?_⟩
  cases x with
  | bl y =>
    cases rx
    cases e2
    exact ⟨y, rfl, k ρ1 H1 _ l1 rh1 (.bl _)⟩
  | _ => cases e2
theorem re_if (hc : RT X cm c mta) (ha : RE X cm a ma) (hb : RE X cm b mb) : RE X cm (.IfExp c a b pos) (mIf mta ma mb) := by
  refine peM (pe_ifExp hc ha hb) fun σ H Q q => ?_
  obtain ⟨ρ, h, sw, w, h', rh, rs, e, k⟩ := q
  obtain ⟨x, h1, e1, e2⟩ := bnd_ok e
  refine ⟨ρ, h, sw, x, h1, rh, rs, e1, fun ρ1 H1 l1 rh1 => ?_⟩
  cases x with
  | true => exact iteT ⟨ρ1, h1, sw, w, h', rh1, rs.mono l1, e2, fun ρ2 H2 v l2 => k ρ2 H2 v (l1.trans l2)⟩
  | false => exact iteF ⟨ρ1, h1, sw, w, h', rh1, rs.mono l1, e2, fun ρ2 H2 v l2 => k ρ2 H2 v (l1.trans l2)⟩
theorem ra_nil : RA X cm [] aNil := by
  refine paM pa_nil fun σ H Q q => ?_
  obtain ⟨ρ, h, sw, w, h', rh, rs, e, k⟩ := q
  cases e
  exact k ρ H [] .refl rh .nil
theorem ra_cons {mr : MA} (ha : RE X cm e ma) (hr : RA X cm es mr) (hs : starEach (e :: es) X.env = (false, eval e X.env) :: starEach es X.env := by rfl) : RA X cm (e :: es) (aCons ma mr) := by
  refine paM (pa_cons ha hr hs) fun σ H Q q => ?_
  obtain ⟨ρ, h, sw, w, h', rh, rs, e, k⟩ := q
  obtain ⟨x, h1, e1, e2⟩ := bnd_ok e
  obtain ⟨y, h2, e3, e4⟩ := bnd_ok e2
  cases e4
  refine ⟨ρ, h, sw, x, h1, rh, rs, e1, fun ρ1 H1 x' l1 rh1 rx => ?_⟩
  refine ⟨ρ1, h1, sw, y, h', rh1, rs.mono l1, e3, fun ρ2 H2 y' l2 rh2 ry => ?_⟩
  exact k ρ2 H2 _ (l1.trans l2) rh2 (.cons (rx.mono l2) ry)
/-- a new tuple -/
theorem new_tup {K : PySem.W.Frag} {ρ : List Addr} {h : Hw} {H : Hp} {ws : List W} {vs : List V} {Q : VK} {p : Addr} (rh : RelH K cm ρ h H) (r : Rels K ρ H ws vs) (hp : H p = none) (k : KE K cm ρ H (.tup ws) h Q) : Q (.ref p) (upd H p (.tup vs)) :=
  k ρ _ _ (le_new hp) (rh.new hp) (.tup (.of upd_same) (r.mono (le_new hp)))
/-- a new list -/
theorem new_lst {K : PySem.W.Frag} {ρ : List Addr} {h : Hw} {H : Hp} {ws : List W} {vs : List V} {Q : VK} {p : Addr} (rh : RelH K cm ρ h H) (r : Rels K ρ H ws vs) (hp : H p = none) (k : KE K cm ρ H (.ref h.length) (h ++ [.lst ws]) Q) : Q (.ref p) (upd H p (.lst vs)) :=
  k (ρ ++ [p]) _ _ ((le_new hp).trans (le_app p)) (rh.push hp ⟨vs, upd_same, r.mono ((le_new hp).trans (le_app p))⟩) (.ref (push_at rh))
theorem re_tup {mr : MA} {x1} (ha : RA X cm es mr) : RE X cm (.Tuple es x1 pos) (mTup mr) := by
  refine peM (pe_tup ha) fun σ H Q q => ?_
  obtain ⟨ρ, h, sw, w, h', rh, rs, e, k⟩ := q
  obtain ⟨x, h1, e1, e2⟩ := bnd_ok e
  refine ⟨ρ, h, sw, x, h1, rh, rs, e1, fun ρ1 H1 x' l1 rh1 rx => ?_⟩
  split at e2
  · cases e2
    exact ⟨by rw [← rx.length, ← lim_eq]; assumption, fun p hp => new_tup rh1 rx hp fun ρ2 H2 v l2 => k ρ2 H2 v (l1.trans l2)⟩
  · cases e2
theorem re_lst {mr : MA} (ha : RA X cm es mr) : RE X cm (.List es pos) (mLst mr) := by
  refine peM (pe_lst ha) fun σ H Q q => ?_
  obtain ⟨ρ, h, sw, w, h', rh, rs, e, k⟩ := q
  obtain ⟨x, h1, e1, e2⟩ := bnd_ok e
  refine ⟨ρ, h, sw, x, h1, rh, rs, e1, fun ρ1 H1 x' l1 rh1 rx => ?_⟩
  split at e2
  · cases e2
    exact ⟨by rw [← rx.length, ← lim_eq]; assumption, fun p hp => new_lst rh1 rx hp fun ρ2 H2 v l2 => k ρ2 H2 v (l1.trans l2)⟩
  · cases e2
end

/-! ### calls -/
/-- what a def promises: it does what m does -/
def spM (K : PySem.W.Frag) (cm : Cm) (m : List W → M W) : Sp := fun vs H Q _ => ∃ ρ h ws w h', RelH K cm ρ h H ∧ Rels K ρ H ws vs ∧ m ws h = .ok w h' ∧ KE K cm ρ H w h' Q
section
variable {X : Cx} {cm : Cm} {e a b c : Expr} {es rest : List Expr} {ma mb mc : ME} {mr : MA} {mta mtb : MT} {pos p : Pos} {k : Nat} {f : Addr} {fd : FuncData} {ps : List Str} {x : Str} {m : List W → M W} {n : Nat}
theorem re_call (F : FnOk X.prog X.w X.K X.mg X.base CX0 k f fd ps (spM X.K cm m)) (hr : Room k X.A) (hm : X.mg x = some (.ref f)) (hk : PySem.W.keepIn X.K (.ref f) = true) (hb : Binds X.K fd ps []) (ha : RA X cm (e :: es) mr) (hg : Gl X x := by rfl)
    (hdb : (x == ("__debug__" : Str)) = false := by decide) (he : starEach (e :: es) X.env = (false, eval e X.env) :: starEach es X.env := by rfl) (hpl : (backTo pos (starEach es X.env)).any (·.1) = false := by rfl) : RE X cm (.Call (.Name x p) (e :: es) [] pos) (mCall m mr) := by
  refine peM (pe_call F hr hg hm hk hb .nil pass0 ha hdb he hpl) fun σ H Q q => ?_
  obtain ⟨ρ, h, sw, w, h', rh, rs, e, k⟩ := q
  obtain ⟨ws, h1, e1, e2⟩ := bnd_ok e
  refine ⟨ρ, h, sw, ws, h1, rh, rs, e1, fun ρ1 H1 vs l1 rh1 rx => ?_⟩
  refine ⟨ρ1, h1, ws, w, h', rh1, by rw [List.append_nil]; exact rx, e2, fun ρ2 H2 v l2 => k ρ2 H2 v (l1.trans l2)⟩
/-- a built-in by values -/
def CallW (K : PySem.W.Frag) (cm : Cm) (r : List V → Hp → VK → Prop) (f : List W → M W) : Prop :=
  ∀ ρ h H ws vs z h' Q, RelH K cm ρ h H → Rels K ρ H ws vs → f ws h = .ok z h' → KE K cm ρ H z h' Q → r vs H Q
theorem cb_tE {r : List V → Hp → VK → Prop} {f : List W → M W} (cw : CallW X.K cm r f) {σ : St} {H : Hp} {Q : VK} (q : tE X.K cm (mCall f mr) σ H Q) : tCB r (tA X.K cm mr) σ H Q := by
  obtain ⟨ρ, h, sw, w, h', rh, rs, e, k⟩ := q
  obtain ⟨ws, h1, e1, e2⟩ := bnd_ok e
  refine ⟨ρ, h, sw, ws, h1, rh, rs, e1, fun ρ1 H1 vs l1 rh1 rx => ?_⟩
  exact cw ρ1 h1 H1 ws vs w h' Q rh1 rx e2 fun ρ2 H2 v l2 => k ρ2 H2 v (l1.trans l2)
theorem re_callB {id : String} {r : List V → Hp → VK → Prop} {f : List W → M W} (hc : CallR X (.builtin id) r) (cw : CallW X.K cm r f) (hm : X.mg x = none) (ha : RA X cm (e :: es) mr) (hv : bootBuiltins x = some (.builtin id) := by decide +kernel) (hg : Gl X x := by rfl) (hn : x ≠ "__name__" := by decide) (hdb : (x == ("__debug__" : Str)) = false := by decide)
    (he : starEach (e :: es) X.env = (false, eval e X.env) :: starEach es X.env := by rfl) (hpl : (backTo pos (starEach es X.env)).any (·.1) = false := by rfl) : RE X cm (.Call (.Name x p) (e :: es) [] pos) (mCall f mr) :=
  peM (pe_callB hc hg hm hv ha hn hdb he hpl) fun _ _ _ => cb_tE cw
theorem re_callTy {T : String} {r : List V → Hp → VK → Prop} {f : List W → M W} (hc : CallR X (.type T) r) (cw : CallW X.K cm r f) (hm : X.mg x = none) (ha : RA X cm (e :: es) mr) (hv : bootBuiltins x = some (.type T) := by decide +kernel) (hg : Gl X x := by rfl) (hn : x ≠ "__name__" := by decide) (hdb : (x == ("__debug__" : Str)) = false := by decide)
    (he : starEach (e :: es) X.env = (false, eval e X.env) :: starEach es X.env := by rfl) (hpl : (backTo pos (starEach es X.env)).any (·.1) = false := by rfl) : RE X cm (.Call (.Name x p) (e :: es) [] pos) (mCall f mr) :=
  peM (pe_callTy hc hg hm hv ha hn hdb he hpl) fun _ _ _ => cb_tE cw
end
end EL
/-! EL2b: enumerate over a tuple. -/
namespace EL
open PySem PySem.Spec L2
open PyProof.Rows hiding St
open PySem.Sem (wp)
open PySem.AutoSeq1 (wpAny_loadPart')
theorem el_enumT_new (l : Addr) (items : Array Value) (n : Nat) (dct : Option Addr) (sl : Array (Option Value)) :
    Meets (Builtin.«enumerate.__new__» ⟨[.type "enumerate", .ref l], []⟩) (fun _ R s => s.heap.get? l = some { cls := .type "tuple", dict := dct, data := .seq items n, slots := sl } ∧
      R (.ok (.ret (.ref (s.heap.push { cls := .type "tuple_iterator", data := .fields #[.ref l, .int 0 0] }).objs.size)))
        { s with heap := (s.heap.push { cls := .type "tuple_iterator", data := .fields #[.ref l, .int 0 0] }).push { cls := .type "enumerate", data := .fields #[.none, .bool false, .ref s.heap.objs.size, rawInt 0, .none, .none] } }) :=
  .of_wp fun prog w A R s h => by
    obtain ⟨hp, g, d, tk, os⟩ := s; obtain ⟨hl, h⟩ := h
    have hsub := sub_enumerate
    have hL : Heap.IsTuple (Shared.heap ⟨hp, g, d, tk, os⟩) l items := ⟨_, hl, rfl, n, rfl⟩
    wp_walk using wpAny_loadPart' hl
    refine wpAny_stack_any fun st => wpAny_pure ?_
    split
    · rename_i c _ _ _ _ _
      cases (c == Value.type "enumerate")
      · wp_walk using wpAny_loadPart' hl, wpAny_pyIter_tuple hL
        exact ⟨_, rfl, h⟩
      · wp_walk using wpAny_loadPart' hl, wpAny_pyIter_tuple hL
        exact ⟨_, rfl, h⟩
    · wp_walk using wpAny_loadPart' hl, wpAny_pyIter_tuple hL
      exact ⟨_, rfl, h⟩
section
variable {prog : Program} {w : World} {A : Around} {E : Value → Shared → Prop} {s : Shared}
theorem el_enumT {l : Addr} {items : Array Value} {Q : Value → Shared → Prop} (hL : s.heap.IsTuple l items)
    (h : ∀ h', IsEnum h' (s.heap.objs.size + 1) s.heap.objs.size 0 .none → h'.IsTupleIter s.heap.objs.size l 0 → h'.objs.size = s.heap.objs.size + 2 →
      (∀ b o, s.heap.get? b = some o → h'.get? b = some o) → Q (.ref (s.heap.objs.size + 1)) { s with heap := h' }) :
    wpAny (model prog w) A (call (.type "enumerate") [.ref l]) Q E s := by
  obtain ⟨⟨c, dct, dt, sl⟩, hl, hc, n, hd⟩ := hL
  replace hc : c = .type "tuple" := hc
  replace hd : dt = .seq items n := hd
  subst hc hd
  refine callType_new F.called_enumerate (by decide) (F.typeCall_enumerate_1 _) (F.newCall_enumerate_1 _) (fun obj => F.args_object_init_2 obj _) F.entry_enumerate_new
    (el_enumT_new l items n dct sl) ⟨hl, ?_⟩
  have hz : (s.heap.push { cls := .type "tuple_iterator", data := .fields #[.ref l, .int 0 0] }).objs.size = s.heap.objs.size + 1 := Heap.size_push ..
  show _ ∧ _
  rw [hz]
  have he : IsEnum ((s.heap.push { cls := .type "tuple_iterator", data := .fields #[.ref l, .int 0 0] }).push
      { cls := .type "enumerate", data := .fields #[.none, .bool false, .ref s.heap.objs.size, rawInt 0, .none, .none] }) (s.heap.objs.size + 1) s.heap.objs.size 0 .none := by
    have := Heap.get?_push_size (s.heap.push { cls := .type "tuple_iterator", data := .fields #[.ref l, .int 0 0] })
      (o := { cls := .type "enumerate", data := .fields #[.none, .bool false, .ref s.heap.objs.size, rawInt 0, .none, .none] }) rfl
    rw [hz] at this; exact this
  refine ⟨⟨_, he, rfl⟩, h _ he ⟨_, Heap.get?_push_of_some _ (Heap.get?_push_size _ rfl), rfl, rfl⟩ (by rw [Heap.size_push, hz]) fun b o x => Heap.get?_push_of_some _ (Heap.get?_push_of_some _ x)⟩
end
/-- the tuple at a, each item in a new pair -/
def IteT (K : PySem.W.Frag) (a : Addr) : It :=
  ⟨fun i H => ∃ (xs : List V) (x : V), SqT K H a xs ∧ xs[i]? = some x, fun i H v H' => ∃ T x, v = .ref T ∧ H T = none ∧ H' = upd H T (.tup [.int (i : Nat), x]) ∧ ∀ xs, SqT K H a xs → xs[i]? = some x, fun i H => ∃ xs : List V, SqT K H a xs ∧ xs.length ≤ i⟩
theorem turn_enumT {P : Program} {w : World} {K : PySem.W.Frag} {elts : List Expr} {kk : Nat} {tpos : Pos} (a e it : Addr) (hai : a ≠ it) :
    Turn P w K (.Tuple elts kk tpos) (IteT K a) [e, it] e (fun i h => (∃ old, IsEnum h e it ((i : Nat) : Int) old) ∧ h.IsTupleIter it a i ∧ e ≠ it ∧ e ≠ a) where
  mem := by simp
  obj := fun i h st b hb => by
    obtain ⟨⟨old, he⟩, ⟨o, ho, hc, hd⟩, _⟩ := st
    have e' : b = e ∨ b = it := by simpa using hb
    rcases e' with z | z
    · rw [z]; exact ⟨_, he, fun v q => nomatch q⟩
    · rw [z]; exact ⟨o, ho, fun v q => by rw [hd] at q; cases q⟩
  keep := fun i h h' st k => let ⟨⟨old, he⟩, hi, hne, ha⟩ := st; ⟨⟨old, k e (by simp) _ he⟩, hi.at fun o q => k it (by simp) o q, hne, ha⟩
  item := by
    intro X hP hw hK hc i pins s σ H E I hf st hg
    subst hP hw hK
    obtain ⟨⟨old, he⟩, hit, hne, hea⟩ := st
    obtain ⟨xs, x, hq, hx⟩ := hg
    obtain ⟨its, rv, p, hz⟩ := I.tuple hq
    obtain ⟨u, hu, ru⟩ := rv.get hx
    have hel : e < s.heap.objs.size := Heap.lt_size he
    have hil : it < s.heap.objs.size := by obtain ⟨_, q, _⟩ := hit; exact Heap.lt_size q
    have D := Draws.tuple (prog := X.prog) (w := X.w) (A := X.A.in1) (I.ok.hd hc) it a hai its.toArray
    have hlt : i < its.toArray.size := by
      have := (List.getElem?_eq_some_iff.mp hu).1
      simpa using this
    refine wpAny_pyNext_enum_itemC D he ⟨hit, (show s.heap.IsTuple a its.toArray from p)⟩ hlt hne (by simp [hne, hea]) fun x' h' tk hP ho hst' hT hsz hk => ?_
    have hx' : x' = u := by
      have q : its.toArray[i]? = some u := by simpa using hu
      exact Option.some.inj (hP.symm.trans q)
    subst hx'
    have hit' := hst'.1
    refine ⟨_, rfl, wpAny_letOwnedTupleGo_enum (s := { s with heap := h', toks := tk + 1 }) ho fun h'' he' sb => ?_⟩
    have hT2 : h''.get? s.heap.objs.size = some { cls := .type "tuple", data := .seq #[.int i tk, x'] } := (sb.2 _ (Nat.ne_of_gt hel)).trans hT
    have new : ObjOk X.prog X.w (upd H s.heap.objs.size (.tup [.int (i : Nat), x])) h'' s.heap.objs.size (.tup [.int (i : Nat), x]) :=
      ⟨by show 2 ≤ sizeLine; decide, [.int i tk, x'], .cons ⟨_, rfl⟩ (.cons ru .nil), ⟨_, hT2, rfl, _, rfl⟩⟩
    have I1 : Inv X pins σ (upd H s.heap.objs.size (.tup [.int (i : Nat), x])) { s with heap := h'', toks := tk + 1 } :=
      I.turnedNew (ch := [e, it]) (fun b ob hb q => (sb.2 b (fun z => hb (by simp [z]))).trans (hk b ob (fun z => hb (by simp [z])) (fun z => hb (by simp [z])) q)) hf (Nat.le_refl _) new
    refine ⟨.ref s.heap.objs.size, _, I1, rfl, ⟨_, x, rfl, I.hok.fresh (Nat.le_refl _), rfl, fun ys hy => by rw [I.tuple_inj hy hq]; exact hx⟩, ⟨⟨x', ?_⟩, hit'.at fun o q => (sb.2 it (Ne.symm hne)).trans q, hne, hea⟩, fun b hb => ?_⟩
    · have e1 : ((i + 1 : Nat) : Int) = (i : Int) + 1 := by omega
      rw [e1]; exact he'
    · have hb' : b < s.heap.objs.size := by
        have e' : b = e ∨ b = it := by simpa using hb
        rcases e' with z | z
        · rw [z]; exact hel
        · rw [z]; exact hil
      rw [upd_ne (Nat.ne_of_lt hb')]
      exact (hf b hb).1
  done := by
    intro X hP hw hK hc i pins s σ H E I hf st hg
    subst hP hw hK
    obtain ⟨⟨old, he⟩, hit, hne, hea⟩ := st
    obtain ⟨xs, hq, hx⟩ := hg
    obtain ⟨its, rv, p, hz⟩ := I.tuple hq
    obtain ⟨f0, f1, f2, f3, f4, f5⟩ := hf it (by simp)
    have hl := rv.length
    have hT : s.TypeIs (.ref e) "enumerate" := ⟨_, he, rfl⟩
    unfold pyNext
    refine wpAny_bind (wpAny_attempt (wpAny_callSpecial?_slot (name := Str.ofString "__next__") hT F.slot_enumerate_next
      (wpAny_call_entry F.slot_enumerate_next hT F.entry_enumerate_next ?_ (F.args_enumerate_next_1 _))))
    show wpAny _ _ (field (.ref e) 2 >>= _) _ _ _
    refine wpAny_bind (wpAny_field he rfl (x := .ref it) rfl ?_)
    refine wpAny_bind (wpAny_nextOf_tuple_end (A := X.A.in1) (I.ok.hd hc) hit (show s.heap.IsTuple a its.toArray from p) (by simp; omega) fun h' x he' hx' => ?_)
    obtain ⟨o, ho, hc'⟩ := hx'
    refine wpAny_bind (wpAny_isInstance (T := "StopIteration") (b := true) ⟨o, ho, hc'⟩ isSubtype_stop ?_)
    exact wpAny_pure ⟨rfl, I.turned (t' := s.toks) (fun b o hb q => he' b o hb q) f0 f1 f3 f4 f5⟩
  self := fun A i s Q E st h => let ⟨⟨_, he⟩, _⟩ := st; wpAny_pyIter_enum he h
/-- enumerate(v), v a list or a tuple -/
def iEnum2 (K : PySem.W.Frag) (ta : TA) : TI := fun σ H R => ta σ H fun vs H1 => ∃ a, vs = [.ref a] ∧ ((∃ xs, SqL K H1 a xs ∧ R (Ite K a) H1) ∨ ∃ xs, SqT K H1 a xs ∧ R (IteT K a) H1)
theorem pi_enum2 {X : Cx} {e : Expr} {ta : TA} {p pos tpos : Pos} {elts : List Expr} {kk : Nat} (hg : Gl X "enumerate") (hm : X.mg "enumerate" = none) (ha : PA X [e] ta) (hs : starEach [e] X.env = [(false, eval e X.env)] := by rfl) :
    PI X (.Tuple elts kk tpos) (.Call (.Name "enumerate" p) [e] [] pos) (iEnum2 X.K ta) := by
  refine ⟨fun pins s σ H R I h => ?_⟩
  refine Call_ (ld_blt I hg hm boot_enumerate (PyProof.Rows.callWith_type1 (thn (ha.run pos pins s σ H _ I h) fun us s1 ⟨vs, H1, I1, r1, q1⟩ => ?_) hs rfl))
  obtain ⟨a, ex, q⟩ := q1
  subst ex
  cases r1 with
  | cons r rr =>
    cases rr
    cases r
    have fresh : ∀ (b : Addr), b ∈ [s1.heap.objs.size + 1, s1.heap.objs.size] → FpOk X pins H1 b := fun b hb => by
      have e' : b = s1.heap.objs.size + 1 ∨ b = s1.heap.objs.size := by simpa using hb
      have hle : s1.heap.objs.size ≤ b := by
        rcases e' with z | z
        · rw [z]; exact Nat.le_add_right _ _
        · rw [z]; exact Nat.le_refl _
      exact I1.fpOk hle (I1.hok.fresh hle)
    rcases q with ⟨xs, hq, q⟩ | ⟨xs, hq, q⟩
    · obtain ⟨its, rv, p', hz⟩ := I1.list hq
      refine call_enumerate_list p'.isList fun h' he hit hsz hk => wpAny_pyIter_enum he ?_
      have I2 : Inv X pins σ H1 { s1 with heap := h' } := I1.kept (t' := s1.toks) hk
      exact ⟨s1.heap.objs.size + 1, [s1.heap.objs.size + 1, s1.heap.objs.size], _, _, H1, rfl, I2, turn_enum a (s1.heap.objs.size + 1) s1.heap.objs.size, ⟨⟨.none, he⟩, hit, Nat.succ_ne_self _⟩, fresh, q⟩
    · obtain ⟨its, rv, p', hz⟩ := I1.tuple hq
      have hT : s1.heap.IsTuple a its.toArray := p'
      have hal : a < s1.heap.objs.size := by obtain ⟨_, q, _⟩ := hT; exact Heap.lt_size q
      refine el_enumT hT fun h' he hit hsz hk => wpAny_pyIter_enum he ?_
      have I2 : Inv X pins σ H1 { s1 with heap := h' } := I1.kept (t' := s1.toks) hk
      exact ⟨s1.heap.objs.size + 1, [s1.heap.objs.size + 1, s1.heap.objs.size], _, _, H1, rfl, I2, turn_enumT a (s1.heap.objs.size + 1) s1.heap.objs.size (Nat.ne_of_lt hal), ⟨⟨.none, he⟩, hit, Nat.succ_ne_self _, Nat.ne_of_gt (Nat.lt_succ_of_lt hal)⟩, fresh, q⟩
end EL
/-! EL2c: enumerate over a text. -/
namespace EL
open PySem PySem.Spec L2
open PyProof.Rows hiding St
open PySem.Sem (wp)
/-- the text's signs, each in a new pair -/
def IteS (x : Str) : It :=
  ⟨fun i _ => i < x.cps.size, fun i H v H' => ∃ T c, v = .ref T ∧ H T = none ∧ H' = upd H T (.tup [.int (i : Nat), .str ⟨#[c]⟩]) ∧ x.cps[i]? = some c, fun i _ => x.cps.size ≤ i⟩
theorem turn_enumS {P : Program} {w : World} {K : PySem.W.Frag} {elts : List Expr} {kk : Nat} {tpos : Pos} (x : Str) (t : Tok) (e it : Addr) :
    Turn P w K (.Tuple elts kk tpos) (IteS x) [e, it] e (fun i h => (∃ old, IsEnum h e it ((i : Nat) : Int) old) ∧ h.IsStrIter it (strIterType x) x t (min i x.cps.size) ∧ e ≠ it) where
  mem := by simp
  obj := fun i h st b hb => by
    obtain ⟨⟨old, he⟩, ⟨o, ho, hc, hd⟩, _⟩ := st
    have e' : b = e ∨ b = it := by simpa using hb
    rcases e' with z | z
    · rw [z]; exact ⟨_, he, fun v q => nomatch q⟩
    · rw [z]; exact ⟨o, ho, fun v q => by rw [hd] at q; cases q⟩
  keep := fun i h h' st k => let ⟨⟨old, he⟩, ⟨o, ho, r⟩, hne⟩ := st; ⟨⟨old, k e (by simp) _ he⟩, ⟨o, k it (by simp) o ho, r⟩, hne⟩
  item := by
    intro X hP hw hK hc i pins s σ H E I hf st hg
    subst hP hw hK
    obtain ⟨⟨old, he⟩, hit, hne⟩ := st
    have hlt : i < x.cps.size := hg
    rw [Nat.min_eq_left (Nat.le_of_lt hlt)] at hit
    have hel : e < s.heap.objs.size := Heap.lt_size he
    have hil : it < s.heap.objs.size := by obtain ⟨_, q, _⟩ := hit; exact Heap.lt_size q
    have D := Draws.text (prog := X.prog) (w := X.w) (A := X.A.in1) (I.ok.hd hc) it x t
    refine wpAny_pyNext_enum_itemC D he hit hlt hne (by simp [hne]) fun x' h' tk hP ho hst' hT hsz hk => ?_
    obtain ⟨c, u, hc', rfl⟩ := hP
    refine ⟨_, rfl, wpAny_letOwnedTupleGo_enum (s := { s with heap := h', toks := tk + 1 }) ho fun h'' he' sb => ?_⟩
    have hT2 : h''.get? s.heap.objs.size = some { cls := .type "tuple", data := .seq #[.int i tk, .str ⟨#[c]⟩ u] } := (sb.2 _ (Nat.ne_of_gt hel)).trans hT
    have new : ObjOk X.prog X.w (upd H s.heap.objs.size (.tup [.int (i : Nat), .str ⟨#[c]⟩])) h'' s.heap.objs.size (.tup [.int (i : Nat), .str ⟨#[c]⟩]) :=
      ⟨by show 2 ≤ sizeLine; decide, [.int i tk, .str ⟨#[c]⟩ u], .cons ⟨_, rfl⟩ (.cons ⟨_, rfl⟩ .nil), ⟨_, hT2, rfl, _, rfl⟩⟩
    have I1 : Inv X pins σ (upd H s.heap.objs.size (.tup [.int (i : Nat), .str ⟨#[c]⟩])) { s with heap := h'', toks := tk + 1 } :=
      I.turnedNew (ch := [e, it]) (fun b ob hb q => (sb.2 b (fun z => hb (by simp [z]))).trans (hk b ob (fun z => hb (by simp [z])) (fun z => hb (by simp [z])) q)) hf (Nat.le_refl _) new
    refine ⟨.ref s.heap.objs.size, _, I1, rfl, ⟨_, c, rfl, I.hok.fresh (Nat.le_refl _), rfl, hc'⟩, ⟨⟨.str ⟨#[c]⟩ u, ?_⟩, ?_, hne⟩, fun b hb => ?_⟩
    · have e1 : ((i + 1 : Nat) : Int) = (i : Int) + 1 := by omega
      rw [e1]; exact he'
    · rw [Nat.min_eq_left hlt]
      obtain ⟨o, ho2, r⟩ := hst'
      exact ⟨o, (sb.2 it (Ne.symm hne)).trans ho2, r⟩
    · have hb' : b < s.heap.objs.size := by
        have e' : b = e ∨ b = it := by simpa using hb
        rcases e' with z | z
        · rw [z]; exact hel
        · rw [z]; exact hil
      rw [upd_ne (Nat.ne_of_lt hb')]
      exact (hf b hb).1
  done := by
    intro X hP hw hK hc i pins s σ H E I hf st hg
    subst hP hw hK
    obtain ⟨⟨old, he⟩, hit, hne⟩ := st
    rw [Nat.min_eq_right hg] at hit
    obtain ⟨f0, f1, f2, f3, f4, f5⟩ := hf it (by simp)
    have hT : s.TypeIs (.ref e) "enumerate" := ⟨_, he, rfl⟩
    have D := Draws.text (prog := X.prog) (w := X.w) (A := X.A.in1) (I.ok.hd hc) it x t
    unfold pyNext
    refine wpAny_bind (wpAny_attempt (wpAny_callSpecial?_slot (name := Str.ofString "__next__") hT F.slot_enumerate_next
      (wpAny_call_entry F.slot_enumerate_next hT F.entry_enumerate_next ?_ (F.args_enumerate_next_1 _))))
    show wpAny _ _ (field (.ref e) 2 >>= _) _ _ _
    refine wpAny_bind (wpAny_field he rfl (x := .ref it) rfl ?_)
    refine wpAny_bind (D.done s _ _ hit fun h' y he' hx' => ?_)
    obtain ⟨o, ho, hc'⟩ := hx'
    refine wpAny_bind (wpAny_isInstance (T := "StopIteration") (b := true) ⟨o, ho, hc'⟩ isSubtype_stop ?_)
    exact wpAny_pure ⟨rfl, I.turned (t' := s.toks) (fun b o hb q => he' b o hb q) f0 f1 f3 f4 f5⟩
  self := fun A i s Q E st h => let ⟨⟨_, he⟩, _⟩ := st; wpAny_pyIter_enum he h
/-- enumerate(v), v a text -/
def iEnumS (ta : TA) : TI := fun σ H R => ta σ H fun vs H1 => ∃ x, vs = [.str x] ∧ R (IteS x) H1
theorem pi_enumS {X : Cx} {e : Expr} {ta : TA} {p pos tpos : Pos} {elts : List Expr} {kk : Nat} (hg : Gl X "enumerate") (hm : X.mg "enumerate" = none) (ha : PA X [e] ta) (hs : starEach [e] X.env = [(false, eval e X.env)] := by rfl) :
    PI X (.Tuple elts kk tpos) (.Call (.Name "enumerate" p) [e] [] pos) (iEnumS ta) := by
  refine ⟨fun pins s σ H R I h => ?_⟩
  refine Call_ (ld_blt I hg hm boot_enumerate (PyProof.Rows.callWith_type1 (thn (ha.run pos pins s σ H _ I h) fun us s1 ⟨vs, H1, I1, r1, q1⟩ => ?_) hs rfl))
  obtain ⟨x, ex, q⟩ := q1
  subst ex
  cases r1 with
  | cons r rr =>
    cases rr
    obtain ⟨t, rfl⟩ := (show ∃ t, _ = Value.str x t from r)
    have fresh : ∀ (b : Addr), b ∈ [s1.heap.objs.size + 1, s1.heap.objs.size] → FpOk X pins H1 b := fun b hb => by
      have e' : b = s1.heap.objs.size + 1 ∨ b = s1.heap.objs.size := by simpa using hb
      have hle : s1.heap.objs.size ≤ b := by
        rcases e' with z | z
        · rw [z]; exact Nat.le_add_right _ _
        · rw [z]; exact Nat.le_refl _
      exact I1.fpOk hle (I1.hok.fresh hle)
    refine call_enumerate_str fun h' he hit hsz hk => wpAny_pyIter_enum he ?_
    have I2 : Inv X pins σ H1 { s1 with heap := h' } := I1.kept (t' := s1.toks) hk
    exact ⟨s1.heap.objs.size + 1, [s1.heap.objs.size + 1, s1.heap.objs.size], _, _, H1, rfl, I2, turn_enumS x t (s1.heap.objs.size + 1) s1.heap.objs.size, ⟨⟨.none, he⟩, by rw [Nat.zero_min]; exact hit, Nat.succ_ne_self _⟩, fresh, q⟩
end EL
set_option maxHeartbeats 4000000
/-! EL2d: zip over any two sources; of a text and a list. -/
namespace EL
open PySem PySem.Spec L2
open PyProof.Rows hiding St
open PySem.Sem (wp)
structure ZA (z TI TO i1 i2 : Addr) (fp1 fp2 : List Addr) : Prop where
  TIz : TI ≠ z
  TOz : TO ≠ z
  i1z : i1 ≠ z
  i2z : i2 ≠ z
  TITO : TI ≠ TO
  TIi1 : TI ≠ i1
  TIi2 : TI ≠ i2
  TOi1 : TO ≠ i1
  TOi2 : TO ≠ i2
  i12 : i1 ≠ i2
  z1 : z ∉ fp1
  T1 : TO ∉ fp1
  j1 : i2 ∉ fp1
  z2 : z ∉ fp2
  T2 : TO ∉ fp2
  j2 : i1 ∉ fp2
section
variable {prog : Program} {w : World} {A : Around} {E : Value → Shared → Prop} {s : Shared} {z TI TO i1 i2 : Addr} {fp1 fp2 : List Addr} {n1 n2 i : Nat} {P1 P2 : Nat → Value → Prop} {S1 S2 : Nat → Heap → Prop} {a b : Value}
theorem ne_out {x : Addr} {l : List Addr} (h : x ∉ l) {y : Addr} (hy : y ∈ l) : y ≠ x := fun e => h (e ▸ hy)
theorem zd_item {Q : Value → Shared → Prop} (D1 : Draws prog w A i1 fp1 n1 P1 S1) (D2 : Draws prog w A i2 fp2 n2 P2 S2) (D : ZA z TI TO i1 i2 fp1 fp2)
    (hz : IsZip s.heap z TI TO .none) (hTI : IsPair s.heap TI (.ref i1) (.ref i2)) (hTO : IsPair s.heap TO a b) (h1 : S1 i s.heap) (h2 : S2 i s.heap) (l1 : i < n1) (l2 : i < n2)
    (hQ : ∀ x y h' tk, P1 i x → P2 i y → IsZip h' z TI TO (rawInt s.heap.objs.size) → IsPair h' TO x y → S1 (i + 1) h' → S2 (i + 1) h' → IsPair h' s.heap.objs.size x y → h'.objs.size = s.heap.objs.size + 1 →
      (∀ c o, c ≠ z → c ≠ TO → c ≠ i1 → c ≠ i2 → s.heap.get? c = some o → h'.get? c = some o) → Q (.ref s.heap.objs.size) { s with heap := h', toks := tk }) :
    wpAny (model prog w) A (Builtin.«zip.__next__» ⟨[.ref z], []⟩) (fun fin s' => ∃ v, fin = .done (.ret v) ∧ Q v s') E s := by
  obtain ⟨hp, g, d, tk0, os⟩ := s
  show wpAny _ _ (field (.ref z) 2 >>= _) _ _ _
  refine wpAny_bind (wpAny_field hz rfl (x := .bool false) rfl ?_)
  show wpAny _ _ (field (.ref z) 3 >>= _) _ _ _
  refine wpAny_bind (wpAny_field hz rfl (x := .ref TI) rfl ?_)
  refine wpAny_bind (wpAny_seqItems hTI rfl ?_)
  show wpAny _ _ (Builtin.SmallTypes.ownedTupleIsFree (.ref z) >>= _) _ _ _
  refine wpAny_bind ?_
  unfold Builtin.SmallTypes.ownedTupleIsFree
  refine wpAny_bind (wpAny_field hz rfl (x := .none) rfl (wpAny_pure ?_))
  simp only [if_true]
  refine wpAny_bind (wpAny_rule ?_)
  refine wpAny_bind (wpAny_field hz rfl (x := .ref TO) rfl ?_)
  refine wpAny_bind (wpAny_setField_rec hz (by simp) fun h₁ hz₁ hs₁ => ?_)
  replace hz₁ : IsZip h₁ z TI TO .ellipsis := hz₁
  replace hs₁ : Heap.SameBut z hp h₁ := hs₁
  refine wpAny_bind ?_
  simp only [List.zipIdx_cons, List.zipIdx_nil, List.forIn_cons, List.forIn_nil]
  refine wpAny_bind (wpAny_bind (wpAny_onRaise ?_))
  show wpAny _ _ (Builtin.SmallTypes.nextOf (.ref i1) >>= _) _ _ _
  refine wpAny_bind (D1.item i ⟨h₁, g, d, tk0, os⟩ _ _ l1 (D1.frame _ _ _ h1 fun b hb o e => hs₁.extBut _ _ (ne_out D.z1 hb) e) fun x h₂ tk1 px h1₂ hs₂ => wpAny_pure ?_)
  replace hs₂ : Heap.SameBut i1 h₁ h₂ := hs₂
  have hTO₂ : IsPair h₂ TO a b := hs₂.extBut _ _ D.TOi1 (hs₁.extBut _ _ D.TOz hTO)
  refine wpAny_bind (wpAny_seqItems hTO₂ rfl ?_)
  refine wpAny_bind (wpAny_updateSeq_pair hTO₂ fun h₃ hTO₃ hs₃ => ?_)
  replace hTO₃ : IsPair h₃ TO x b := hTO₃
  replace hs₃ : Heap.SameBut TO h₂ h₃ := hs₃
  refine wpAny_bind (wpAny_letGo (wpAny_pure ?_))
  refine wpAny_bind (wpAny_bind (wpAny_onRaise ?_))
  show wpAny _ _ (Builtin.SmallTypes.nextOf (.ref i2) >>= _) _ _ _
  refine wpAny_bind (D2.item i ⟨h₃, g, d, tk1, os⟩ _ _ l2 (D2.frame _ _ _ h2 fun b hb o e => hs₃.extBut _ _ (ne_out D.T2 hb) (hs₂.extBut _ _ (ne_out D.j2 hb) (hs₁.extBut _ _ (ne_out D.z2 hb) e))) fun y h₄ tk2 py h2₄ hs₄ => wpAny_pure ?_)
  replace hs₄ : Heap.SameBut i2 h₃ h₄ := hs₄
  have hTO₄ : IsPair h₄ TO x b := hs₄.extBut _ _ D.TOi2 hTO₃
  refine wpAny_bind (wpAny_seqItems hTO₄ rfl ?_)
  refine wpAny_bind (wpAny_updateSeq_pair hTO₄ fun h₅ hTO₅ hs₅ => ?_)
  replace hTO₅ : IsPair h₅ TO x y := hTO₅
  replace hs₅ : Heap.SameBut TO h₄ h₅ := hs₅
  refine wpAny_bind (wpAny_letGo (wpAny_pure (wpAny_pure ?_)))
  refine wpAny_bind (wpAny_seqItems hTO₅ rfl ?_)
  refine wpAny_bind (wpAny_newTuple ?_)
  have hsz : h₅.objs.size = hp.objs.size := by rw [hs₅.1, hs₄.1, hs₃.1, hs₂.1, hs₁.1]
  have hz₅ : IsZip h₅ z TI TO .ellipsis := hs₅.extBut _ _ D.TOz.symm (hs₄.extBut _ _ D.i2z.symm (hs₃.extBut _ _ D.TOz.symm (hs₂.extBut _ _ D.i1z.symm hz₁)))
  have hk₅ : ∀ c o, c ≠ z → c ≠ TO → c ≠ i1 → c ≠ i2 → hp.get? c = some o → h₅.get? c = some o := fun c o c1 c2 c3 c4 e =>
    hs₅.extBut _ _ c2 (hs₄.extBut _ _ c4 (hs₃.extBut _ _ c2 (hs₂.extBut _ _ c3 (hs₁.extBut _ _ c1 e))))
  have h1₅ : S1 (i + 1) h₅ := D1.frame _ _ _ h1₂ fun b hb o e => hs₅.extBut _ _ (ne_out D.T1 hb) (hs₄.extBut _ _ (ne_out D.j1 hb) (hs₃.extBut _ _ (ne_out D.T1 hb) e))
  have h2₅ : S2 (i + 1) h₅ := D2.frame _ _ _ h2₄ fun b hb o e => hs₅.extBut _ _ (ne_out D.T2 hb) e
  have hzlt : z < h₅.objs.size := Heap.lt_size hz₅
  show wpAny _ _ (Builtin.SmallTypes.ownedTupleHandOut (.ref z) (.ref h₅.objs.size) >>= _) _ _ _
  refine wpAny_bind ?_
  unfold Builtin.SmallTypes.ownedTupleHandOut
  have hz₆ : IsZip (h₅.push { cls := .type "tuple", data := .seq #[x, y] }) z TI TO .ellipsis := Heap.get?_push_of_some _ hz₅
  refine wpAny_bind (wpAny_setField_rec hz₆ (by simp) fun h₇ hz₇ hs₇ => ?_)
  replace hz₇ : IsZip h₇ z TI TO (rawInt h₅.objs.size) := hz₇
  refine wpAny_setField_rec hz₇ (by simp) fun h₈ hz₈ hs₈ => ?_
  replace hz₈ : IsZip h₈ z TI TO (rawInt h₅.objs.size) := hz₈
  have up : ∀ c o, c ≠ z → h₅.get? c = some o → h₈.get? c = some o := fun c o c1 e => hs₈.extBut _ _ c1 (hs₇.extBut _ _ c1 (Heap.get?_push_of_some _ e))
  have hT₈ : IsPair h₈ h₅.objs.size x y := hs₈.extBut _ _ (Nat.ne_of_gt hzlt) (hs₇.extBut _ _ (Nat.ne_of_gt hzlt) (Heap.get?_push_size _ rfl))
  have hz8 : h₈.objs.size = h₅.objs.size + 1 := by rw [hs₈.1, hs₇.1, Heap.size_push]
  rw [hsz] at hz₈ hT₈ hz8
  refine wpAny_pure ⟨_, rfl, ?_⟩
  show Q (.ref h₅.objs.size) _
  rw [hsz]
  exact hQ x y h₈ tk2 px py hz₈ (up _ _ D.TOz hTO₅) (D1.frame _ _ _ h1₅ fun b hb o e => up _ o (ne_out D.z1 hb) e) (D2.frame _ _ _ h2₅ fun b hb o e => up _ o (ne_out D.z2 hb) e) hT₈ hz8 fun c o c1 c2 c3 c4 e => up c o c1 (hk₅ c o c1 c2 c3 c4 e)
theorem zd_end {Q : Fin → Shared → Prop} (D1 : Draws prog w A i1 fp1 n1 P1 S1) {Se : Heap → Prop} (fr : ∀ h h', Se h → (∀ b ∈ fp2, ∀ o, h.get? b = some o → h'.get? b = some o) → Se h')
    (dn : ∀ (s : Shared) (Q : Value → Shared → Prop) (E : Value → Shared → Prop), Se s.heap → (∀ h' e, Heap.ExtBut i2 s.heap h' → (∃ o, h'.get? e = some o ∧ o.cls = .type "StopIteration") → E (.ref e) { s with heap := h' }) → wpAny (model prog w) A (Builtin.SmallTypes.nextOf (.ref i2)) Q E s) (D : ZA z TI TO i1 i2 fp1 fp2)
    (hz : IsZip s.heap z TI TO .none) (hTI : IsPair s.heap TI (.ref i1) (.ref i2)) (hTO : IsPair s.heap TO a b) (hend : S1 n1 s.heap ∨ i < n1 ∧ S1 i s.heap ∧ Se s.heap)
    (hE : ∀ h' tk e, (∀ c o, c ≠ z → c ≠ TO → c ≠ i1 → c ≠ i2 → s.heap.get? c = some o → h'.get? c = some o) → (∃ o, h'.get? e = some o ∧ o.cls = .type "StopIteration") → E (.ref e) { s with heap := h', toks := tk }) :
    wpAny (model prog w) A (Builtin.«zip.__next__» ⟨[.ref z], []⟩) Q E s := by
  obtain ⟨hp, g, d, tk0, os⟩ := s
  show wpAny _ _ (field (.ref z) 2 >>= _) _ _ _
  refine wpAny_bind (wpAny_field hz rfl (x := .bool false) rfl ?_)
  show wpAny _ _ (field (.ref z) 3 >>= _) _ _ _
  refine wpAny_bind (wpAny_field hz rfl (x := .ref TI) rfl ?_)
  refine wpAny_bind (wpAny_seqItems hTI rfl ?_)
  show wpAny _ _ (Builtin.SmallTypes.ownedTupleIsFree (.ref z) >>= _) _ _ _
  refine wpAny_bind ?_
  unfold Builtin.SmallTypes.ownedTupleIsFree
  refine wpAny_bind (wpAny_field hz rfl (x := .none) rfl (wpAny_pure ?_))
  simp only [if_true]
  refine wpAny_bind (wpAny_rule ?_)
  refine wpAny_bind (wpAny_field hz rfl (x := .ref TO) rfl ?_)
  refine wpAny_bind (wpAny_setField_rec hz (by simp) fun h₁ hz₁ hs₁ => ?_)
  replace hz₁ : IsZip h₁ z TI TO .ellipsis := hz₁
  replace hs₁ : Heap.SameBut z hp h₁ := hs₁
  refine wpAny_bind ?_
  simp only [List.zipIdx_cons, List.zipIdx_nil, List.forIn_cons, List.forIn_nil]
  refine wpAny_bind (wpAny_bind (wpAny_onRaise ?_))
  show wpAny _ _ (Builtin.SmallTypes.nextOf (.ref i1) >>= _) _ _ _
  rcases hend with h1 | ⟨l1, h1, h2⟩
  · refine wpAny_bind (D1.done ⟨h₁, g, d, tk0, os⟩ _ _ (D1.frame _ _ _ h1 fun b hb o e => hs₁.extBut _ _ (ne_out D.z1 hb) e) fun h₂ e hs₂ he => ?_)
    replace hs₂ : Heap.ExtBut i1 h₁ h₂ := hs₂
    obtain ⟨oe, hoe, hce⟩ := he
    have hz₂ : IsZip h₂ z TI TO .ellipsis := hs₂ _ _ D.i1z.symm hz₁
    have hez : e ≠ z := fun x => by subst x; rw [hz₂] at hoe; cases hoe; simp at hce
    refine wpAny_setField_rec hz₂ (by simp) fun h₃ _ hs₃ => hE h₃ _ e (fun c o c1 _ c3 _ x => hs₃.extBut _ _ c1 (hs₂ _ _ c3 (hs₁.extBut _ _ c1 x))) ⟨oe, hs₃.extBut _ _ hez hoe, hce⟩
  · refine wpAny_bind (D1.item i ⟨h₁, g, d, tk0, os⟩ _ _ l1 (D1.frame _ _ _ h1 fun b hb o e => hs₁.extBut _ _ (ne_out D.z1 hb) e) fun x h₂ tk1 px h1₂ hs₂ => wpAny_pure ?_)
    replace hs₂ : Heap.SameBut i1 h₁ h₂ := hs₂
    have hTO₂ : IsPair h₂ TO a b := hs₂.extBut _ _ D.TOi1 (hs₁.extBut _ _ D.TOz hTO)
    refine wpAny_bind (wpAny_seqItems hTO₂ rfl ?_)
    refine wpAny_bind (wpAny_updateSeq_pair hTO₂ fun h₃ hTO₃ hs₃ => ?_)
    replace hs₃ : Heap.SameBut TO h₂ h₃ := hs₃
    refine wpAny_bind (wpAny_letGo (wpAny_pure ?_))
    refine wpAny_bind (wpAny_bind (wpAny_onRaise ?_))
    show wpAny _ _ (Builtin.SmallTypes.nextOf (.ref i2) >>= _) _ _ _
    refine wpAny_bind (dn ⟨h₃, g, d, tk1, os⟩ _ _ (fr _ _ h2 fun b hb o e => hs₃.extBut _ _ (ne_out D.T2 hb) (hs₂.extBut _ _ (ne_out D.j2 hb) (hs₁.extBut _ _ (ne_out D.z2 hb) e))) fun h₄ e hs₄ he => ?_)
    replace hs₄ : Heap.ExtBut i2 h₃ h₄ := hs₄
    obtain ⟨oe, hoe, hce⟩ := he
    have hz₄ : IsZip h₄ z TI TO .ellipsis := hs₄ _ _ D.i2z.symm (hs₃.extBut _ _ D.TOz.symm (hs₂.extBut _ _ D.i1z.symm hz₁))
    have hez : e ≠ z := fun x => by subst x; rw [hz₄] at hoe; cases hoe; simp at hce
    refine wpAny_setField_rec hz₄ (by simp) fun h₅ _ hs₅ => hE h₅ _ e (fun c o c1 c2 c3 c4 x => hs₅.extBut _ _ c1 (hs₄ _ _ c4 (hs₃.extBut _ _ c2 (hs₂.extBut _ _ c3 (hs₁.extBut _ _ c1 x))))) ⟨oe, hs₅.extBut _ _ hez hoe, hce⟩
end
section
variable {prog : Program} {w : World} {A : Around} {E : Value → Shared → Prop} {s : Shared} {z TI TO i1 i2 : Addr} {fp1 fp2 : List Addr} {n1 n2 i : Nat} {P1 P2 : Nat → Value → Prop} {S1 S2 : Nat → Heap → Prop} {a b : Value}
theorem py_zd_item {Q : Option Value → Shared → Prop} (D1 : Draws prog w A.in1 i1 fp1 n1 P1 S1) (D2 : Draws prog w A.in1 i2 fp2 n2 P2 S2) (D : ZA z TI TO i1 i2 fp1 fp2)
    (hz : IsZip s.heap z TI TO .none) (hTI : IsPair s.heap TI (.ref i1) (.ref i2)) (hTO : IsPair s.heap TO a b) (h1 : S1 i s.heap) (h2 : S2 i s.heap) (l1 : i < n1) (l2 : i < n2)
    (hQ : ∀ x y h' tk, P1 i x → P2 i y → IsZip h' z TI TO (rawInt s.heap.objs.size) → IsPair h' TO x y → S1 (i + 1) h' → S2 (i + 1) h' → IsPair h' s.heap.objs.size x y → h'.objs.size = s.heap.objs.size + 1 →
      (∀ c o, c ≠ z → c ≠ TO → c ≠ i1 → c ≠ i2 → s.heap.get? c = some o → h'.get? c = some o) → Q (some (.ref s.heap.objs.size)) { s with heap := h', toks := tk }) :
    wpAny (model prog w) A (pyNext (.ref z)) Q E s := by
  have hT : s.TypeIs (.ref z) "zip" := ⟨_, hz, rfl⟩
  unfold pyNext
  exact wpAny_bind (wpAny_attempt (wpAny_callSpecial?_slot (name := Str.ofString "__next__") hT F.slot_zip_next
    (wpAny_call_entry F.slot_zip_next hT F.entry_zip_next
      (zd_item D1 D2 D hz hTI hTO h1 h2 l1 l2 fun x y h' tk a1 a2 a3 a4 a5 a6 a7 a8 a9 => wpAny_pure (hQ x y h' tk a1 a2 a3 a4 a5 a6 a7 a8 a9)) (F.args_zip_next_1 _))))
theorem py_zd_end {Q : Option Value → Shared → Prop} (D1 : Draws prog w A.in1 i1 fp1 n1 P1 S1) {Se : Heap → Prop} (fr : ∀ h h', Se h → (∀ b ∈ fp2, ∀ o, h.get? b = some o → h'.get? b = some o) → Se h')
    (dn : ∀ (s : Shared) (Q : Value → Shared → Prop) (E : Value → Shared → Prop), Se s.heap → (∀ h' e, Heap.ExtBut i2 s.heap h' → (∃ o, h'.get? e = some o ∧ o.cls = .type "StopIteration") → E (.ref e) { s with heap := h' }) → wpAny (model prog w) A.in1 (Builtin.SmallTypes.nextOf (.ref i2)) Q E s) (D : ZA z TI TO i1 i2 fp1 fp2)
    (hz : IsZip s.heap z TI TO .none) (hTI : IsPair s.heap TI (.ref i1) (.ref i2)) (hTO : IsPair s.heap TO a b) (hend : S1 n1 s.heap ∨ i < n1 ∧ S1 i s.heap ∧ Se s.heap)
    (hQ : ∀ h' tk, (∀ c o, c ≠ z → c ≠ TO → c ≠ i1 → c ≠ i2 → s.heap.get? c = some o → h'.get? c = some o) → Q none { s with heap := h', toks := tk }) : wpAny (model prog w) A (pyNext (.ref z)) Q E s := by
  have hT : s.TypeIs (.ref z) "zip" := ⟨_, hz, rfl⟩
  unfold pyNext
  refine wpAny_bind (wpAny_attempt (wpAny_callSpecial?_slot (name := Str.ofString "__next__") hT F.slot_zip_next
    (wpAny_call_entry F.slot_zip_next hT F.entry_zip_next (zd_end D1 fr dn D hz hTI hTO hend fun h' tk e hk he => ?_) (F.args_zip_next_1 _))))
  obtain ⟨o, ho, hc⟩ := he
  refine wpAny_bind (wpAny_isInstance (T := "StopIteration") (b := true) ⟨o, ho, hc⟩ isSubtype_stop ?_)
  exact wpAny_pure (hQ _ _ hk)
end
/-- the text's signs and the list's items, each two in a new pair -/
def ItzSL (K : PySem.W.Frag) (x : Str) (b : Addr) : It :=
  ⟨fun i H => i < x.cps.size ∧ ∃ (ys : List V) (y : V), SqL K H b ys ∧ ys[i]? = some y,
    fun i H v H' => ∃ T c y, v = .ref T ∧ H T = none ∧ H' = upd H T (.tup [.str ⟨#[c]⟩, y]) ∧ x.cps[i]? = some c ∧ ∀ ys, SqL K H b ys → ys[i]? = some y,
    fun i H => x.cps.size ≤ i ∨ i < x.cps.size ∧ ∃ ys : List V, SqL K H b ys ∧ ys.length ≤ i⟩
theorem turn_zipSL {P : Program} {w : World} {K : PySem.W.Frag} {elts : List Expr} {kk : Nat} {tpos : Pos} (x : Str) (t : Tok) {b z TI TO i1 i2 : Addr} (D : ZA z TI TO i1 i2 [i1] [i2, b]) (nb : b ≠ i2) :
    Turn P w K (.Tuple elts kk tpos) (ItzSL K x b) [z, TI, TO, i1, i2] z (fun i h => IsZip h z TI TO .none ∧ IsPair h TI (.ref i1) (.ref i2) ∧ (∃ x y, IsPair h TO x y) ∧ h.IsStrIter i1 (strIterType x) x t (min i x.cps.size) ∧ h.IsListIter i2 b i) where
  mem := by simp
  obj := fun i h st c hc => by
    obtain ⟨hz, hTI, ⟨x, y, hTO⟩, ⟨o1, e1, _, d1⟩, ⟨o2, e2, _, d2⟩⟩ := st
    have e' : c = z ∨ c = TI ∨ c = TO ∨ c = i1 ∨ c = i2 := by simpa using hc
    rcases e' with q | q | q | q | q
    · rw [q]; exact ⟨_, hz, fun v q => nomatch q⟩
    · rw [q]; exact ⟨_, hTI, fun v q => nomatch q⟩
    · rw [q]; exact ⟨_, hTO, fun v q => nomatch q⟩
    · rw [q]; exact ⟨o1, e1, fun v q => by rw [d1] at q; cases q⟩
    · rw [q]; exact ⟨o2, e2, fun v q => by rw [d2] at q; cases q⟩
  keep := fun i h h' st k => by
    obtain ⟨hz, hTI, ⟨x, y, hTO⟩, ⟨o1, e1, r1⟩, h2⟩ := st
    exact ⟨k z (by simp) _ hz, k TI (by simp) _ hTI, ⟨x, y, k TO (by simp) _ hTO⟩, ⟨o1, k i1 (by simp) _ e1, r1⟩, h2.at fun o q => k i2 (by simp) o q⟩
  item := by
    intro X hP hw hK hc i pins s σ H E I hf st hg
    subst hP hw hK
    obtain ⟨hz, hTI, ⟨x0, y0, hTO⟩, h1, h2⟩ := st
    obtain ⟨hlt, ys, y, hqy, hy⟩ := hg
    obtain ⟨its2, rv2, p2, _⟩ := I.list hqy
    obtain ⟨u2, hu2, ru2⟩ := rv2.get hy
    have hzl : z < s.heap.objs.size := Heap.lt_size hz
    rw [Nat.min_eq_left (Nat.le_of_lt hlt)] at h1
    have D1 := Draws.text (prog := X.prog) (w := X.w) (A := X.A.in1) (I.ok.hd hc) i1 x t
    have D2 := Draws.list (prog := X.prog) (w := X.w) (A := X.A.in1) (I.ok.hd hc) i2 b nb its2.toArray
    have l2 : i < its2.toArray.size := by
      have := (List.getElem?_eq_some_iff.mp hu2).1
      simpa using this
    refine py_zd_item D1 D2 D hz hTI hTO h1 ⟨h2, p2.isList⟩ hlt l2 fun vx vy h' tk px py z' TO' h1' h2' hT hsz hk => ?_
    obtain ⟨c, u, hc', rfl⟩ := px
    have hvy : vy = u2 := by
      have q : its2.toArray[i]? = some u2 := by simpa using hu2
      exact Option.some.inj (py.symm.trans q)
    subst hvy
    refine ⟨_, rfl, wpAny_letOwnedTupleGo_zip (s := { s with heap := h', toks := tk }) z' fun h'' z'' sb => ?_⟩
    have hT2 : h''.get? s.heap.objs.size = some { cls := .type "tuple", data := .seq #[.str ⟨#[c]⟩ u, vy] } := (sb.2 _ (Nat.ne_of_gt hzl)).trans hT
    have new : ObjOk X.prog X.w (upd H s.heap.objs.size (.tup [.str ⟨#[c]⟩, y])) h'' s.heap.objs.size (.tup [.str ⟨#[c]⟩, y]) :=
      ⟨by show 2 ≤ sizeLine; decide, [.str ⟨#[c]⟩ u, vy], .cons ⟨_, rfl⟩ (.cons ru2 .nil), ⟨_, hT2, rfl, _, rfl⟩⟩
    have I1 : Inv X pins σ (upd H s.heap.objs.size (.tup [.str ⟨#[c]⟩, y])) { s with heap := h'', toks := tk } :=
      I.turnedNew (t' := tk) (ch := [z, TI, TO, i1, i2]) (fun c o hb q => (sb.2 c (fun q' => hb (by simp [q']))).trans (hk c o (fun q' => hb (by simp [q'])) (fun q' => hb (by simp [q'])) (fun q' => hb (by simp [q'])) (fun q' => hb (by simp [q'])) q)) hf (Nat.le_refl _) new
    refine ⟨.ref s.heap.objs.size, _, I1, rfl, ⟨_, c, y, rfl, I.hok.fresh (Nat.le_refl _), rfl, hc', fun l hl => by rw [I.list_inj hl hqy]; exact hy⟩, ⟨z'', ?_, ⟨.str ⟨#[c]⟩ u, vy, ?_⟩, ?_, ?_⟩, fun c hcm => ?_⟩
    · exact (sb.2 _ D.TIz).trans (hk _ _ D.TIz D.TITO D.TIi1 D.TIi2 hTI)
    · exact (sb.2 _ D.TOz).trans TO'
    · rw [Nat.min_eq_left hlt]
      obtain ⟨o, ho2, r⟩ := h1'
      exact ⟨o, (sb.2 i1 D.i1z).trans ho2, r⟩
    · exact h2'.1.at fun o q => (sb.2 _ D.i2z).trans q
    · have hlt : c < s.heap.objs.size := by
        have e' : c = z ∨ c = TI ∨ c = TO ∨ c = i1 ∨ c = i2 := by simpa using hcm
        rcases e' with q | q | q | q | q
        · rw [q]; exact hzl
        · rw [q]; exact Heap.lt_size hTI
        · rw [q]; exact Heap.lt_size hTO
        · rw [q]; obtain ⟨_, e1, _⟩ := h1; exact Heap.lt_size e1
        · rw [q]; obtain ⟨_, e2, _⟩ := h2; exact Heap.lt_size e2
      rw [upd_ne (Nat.ne_of_lt hlt)]
      exact (hf c hcm).1
  done := by
    intro X hP hw hK hc i pins s σ H E I hf st hg
    subst hP hw hK
    obtain ⟨hz, hTI, ⟨x0, y0, hTO⟩, h1, h2⟩ := st
    have D1 := Draws.text (prog := X.prog) (w := X.w) (A := X.A.in1) (I.ok.hd hc) i1 x t
    rcases hg with hg | ⟨hlt, ys, hqy, hend⟩
    · rw [Nat.min_eq_right hg] at h1
      exact py_zd_end (i := 0) (Se := fun _ => False) D1 (fun _ _ f _ => f) (fun _ _ _ f _ => f.elim) D hz hTI hTO (.inl h1) fun h' tk hk => ⟨rfl, I.turnedL (t' := tk) (ch := [z, TI, TO, i1, i2]) (fun c o hb q =>
        hk c o (fun q' => hb (by simp [q'])) (fun q' => hb (by simp [q'])) (fun q' => hb (by simp [q'])) (fun q' => hb (by simp [q'])) q) hf⟩
    · rw [Nat.min_eq_left (Nat.le_of_lt hlt)] at h1
      obtain ⟨its2, rv2, p2, _⟩ := I.list hqy
      have l2 := rv2.length
      have hn : its2.toArray[i]? = none := by simp; omega
      exact py_zd_end (i := i) (Se := fun h => h.IsListIter i2 b i ∧ h.IsList b its2.toArray) D1 (fun _ _ f k => ⟨f.1.at fun o q => k i2 (by simp) o q, f.2.at fun o q => k b (by simp) o q⟩)
        (fun s Q E f k => wpAny_nextOf_list_end (I.ok.hd hc) f.1 f.2 hn k) D hz hTI hTO (.inr ⟨hlt, h1, h2, p2.isList⟩) fun h' tk hk => ⟨rfl, I.turnedL (t' := tk) (ch := [z, TI, TO, i1, i2]) (fun c o hb q =>
        hk c o (fun q' => hb (by simp [q'])) (fun q' => hb (by simp [q'])) (fun q' => hb (by simp [q'])) (fun q' => hb (by simp [q'])) q) hf⟩
  self := fun A i s Q E st h => wpAny_pyIter_zip st.1 h
abbrev zsH1 (h : Heap) (x : Str) (t : Tok) : Heap := h.push { cls := .type (strIterType x), data := .fields #[.str x t, .int 0 0] }
abbrev zsH2 (h : Heap) (x : Str) (t : Tok) (l2 : Addr) : Heap := (zsH1 h x t).push { cls := .type "list_iterator", data := .fields #[.ref l2, .int 0 0] }
abbrev zsH3 (h : Heap) (x : Str) (t : Tok) (l2 : Addr) : Heap := (zsH2 h x t l2).push { cls := .type "tuple", data := .seq #[.ref h.objs.size, .ref (zsH1 h x t).objs.size] }
abbrev zsH4 (h : Heap) (x : Str) (t : Tok) (l2 : Addr) : Heap := (zsH3 h x t l2).push { cls := .type "tuple", data := .seq #[.none, .none] }
abbrev zsH5 (h : Heap) (x : Str) (t : Tok) (l2 : Addr) : Heap := (zsH4 h x t l2).push { cls := .type "zip", data := .fields #[.none, .bool false, .bool false, .ref (zsH2 h x t l2).objs.size, .ref (zsH3 h x t l2).objs.size] }
theorem meets_zipSL_new (x : Str) (t : Tok) (l2 : Addr) (ys : Array Value) :
    Meets (Builtin.«zip.__new__» ⟨[.type "zip", .str x t, .ref l2], []⟩) (fun _ R s => s.heap.IsList l2 ys ∧
      R (.ok (.ret (.ref (zsH4 s.heap x t l2).objs.size))) { s with heap := zsH5 s.heap x t l2 }) :=
  .of_wp fun prog w A R s h => by
    obtain ⟨hp, g, d, tk, os⟩ := s; obtain ⟨hl2, h⟩ := h
    have hsub := sub_zip
    have hL2 : Heap.IsList (Shared.heap ⟨hp.push { cls := .type (strIterType x), data := .fields #[.str x t, .int 0 0] }, g, d, tk, os⟩) l2 ys := Heap.IsList.push hl2 _
    wp_walk using wpAny_pyIter_strU, wpAny_pyIter_list hL2
    exact ⟨_, rfl, h⟩
section
variable {prog : Program} {w : World} {A : Around} {E : Value → Shared → Prop} {s : Shared}
theorem call_zipSL {x : Str} {t : Tok} {l2 : Addr} {ys : Array Value} {Q : Value → Shared → Prop} (hl2 : s.heap.IsList l2 ys)
    (h : ∀ h', IsZip h' (s.heap.objs.size + 4) (s.heap.objs.size + 2) (s.heap.objs.size + 3) .none → IsPair h' (s.heap.objs.size + 2) (.ref s.heap.objs.size) (.ref (s.heap.objs.size + 1)) →
      IsPair h' (s.heap.objs.size + 3) .none .none → h'.IsStrIter s.heap.objs.size (strIterType x) x t 0 → h'.IsListIter (s.heap.objs.size + 1) l2 0 → h'.objs.size = s.heap.objs.size + 5 →
      (∀ c o, s.heap.get? c = some o → h'.get? c = some o) → Q (.ref (s.heap.objs.size + 4)) { s with heap := h' }) :
    wpAny (model prog w) A (call (.type "zip") [.str x t, .ref l2]) Q E s := by
  refine callType_new F.called_zip (by decide) (F.typeCall_zip_2 _ _) (F.newCall_zip_2 _ _) (fun obj => F.args_object_init_3 obj _ _) F.entry_zip_new
    (meets_zipSL_new x t l2 ys) ⟨hl2, ?_⟩
  have z1 : (zsH1 s.heap x t).objs.size = s.heap.objs.size + 1 := Heap.size_push ..
  have z2 : (zsH2 s.heap x t l2).objs.size = s.heap.objs.size + 2 := by rw [Heap.size_push, z1]
  have z3 : (zsH3 s.heap x t l2).objs.size = s.heap.objs.size + 3 := by rw [Heap.size_push, z2]
  have z4 : (zsH4 s.heap x t l2).objs.size = s.heap.objs.size + 4 := by rw [Heap.size_push, z3]
  have z5 : (zsH5 s.heap x t l2).objs.size = s.heap.objs.size + 5 := by rw [Heap.size_push, z4]
  have g5 : (zsH5 s.heap x t l2).get? (zsH4 s.heap x t l2).objs.size = some _ := Heap.get?_push_size _ rfl
  have g4 : (zsH5 s.heap x t l2).get? (zsH3 s.heap x t l2).objs.size = some _ := Heap.get?_push_of_some _ (Heap.get?_push_size _ rfl)
  have g3 : (zsH5 s.heap x t l2).get? (zsH2 s.heap x t l2).objs.size = some _ := Heap.get?_push_of_some _ (Heap.get?_push_of_some _ (Heap.get?_push_size _ rfl))
  have g2 : (zsH5 s.heap x t l2).get? (zsH1 s.heap x t).objs.size = some _ := Heap.get?_push_of_some _ (Heap.get?_push_of_some _ (Heap.get?_push_of_some _ (Heap.get?_push_size _ rfl)))
  have g1 : (zsH5 s.heap x t l2).get? s.heap.objs.size = some _ := Heap.get?_push_of_some _ (Heap.get?_push_of_some _ (Heap.get?_push_of_some _ (Heap.get?_push_of_some _ (Heap.get?_push_size _ rfl))))
  show _ ∧ _
  rw [z2, z3, z4] at g5
  rw [z1, z2] at g3
  rw [z3] at g4
  rw [z1] at g2
  rw [z4]
  exact ⟨⟨_, g5, rfl⟩, h _ g5 g3 g4 ⟨_, g1, rfl, rfl⟩ ⟨_, g2, rfl, rfl⟩ z5 fun c o x =>
    Heap.get?_push_of_some _ (Heap.get?_push_of_some _ (Heap.get?_push_of_some _ (Heap.get?_push_of_some _ (Heap.get?_push_of_some _ x))))⟩
end
def iZipSL (K : PySem.W.Frag) (ta : TA) : TI := fun σ H R => ta σ H fun vs H1 => ∃ x b ys, vs = [.str x, .ref b] ∧ SqL K H1 b ys ∧ R (ItzSL K x b) H1
theorem pi_zipSL {X : Cx} {e e2 : Expr} {ta : TA} {p pos tpos : Pos} {elts : List Expr} {kk : Nat} (hg : Gl X "zip") (hm : X.mg "zip" = none) (ha : PA X [e, e2] ta)
    (hs : starEach [e, e2] X.env = (false, eval e X.env) :: starEach [e2] X.env := by rfl) (hpl : (backTo pos (starEach [e2] X.env)).any (·.1) = false := by rfl) :
    PI X (.Tuple elts kk tpos) (.Call (.Name "zip" p) [e, e2] [] pos) (iZipSL X.K ta) := by
  refine ⟨fun pins s σ H R I h => ?_⟩
  refine Call_ (ld_blt I hg hm PyProof.Rows.boot_zip (PyProof.Rows.callWith_type1 (thn (ha.run pos pins s σ H _ I h) fun us s1 ⟨vs, H1, I1, r1, q1⟩ => ?_) hs hpl))
  obtain ⟨x, b, ys, ex, hqy, q⟩ := q1
  subst ex
  cases r1 with
  | cons r rr =>
    cases rr with
    | cons r' rr =>
      cases rr
      obtain ⟨t, rfl⟩ := (show ∃ t, _ = Value.str x t from r)
      cases r'
      obtain ⟨its2, rv2, p2, _⟩ := I1.list hqy
      have lb : b < s1.heap.objs.size := p2.lt
      have fresh5 : ∀ c, c ∈ [s1.heap.objs.size + 4, s1.heap.objs.size + 2, s1.heap.objs.size + 3, s1.heap.objs.size, s1.heap.objs.size + 1] → FpOk X pins H1 c := fun c hcm => by
        have e' : c = s1.heap.objs.size + 4 ∨ c = s1.heap.objs.size + 2 ∨ c = s1.heap.objs.size + 3 ∨ c = s1.heap.objs.size ∨ c = s1.heap.objs.size + 1 := by simpa using hcm
        have hle : s1.heap.objs.size ≤ c := by
          rcases e' with z | z | z | z | z <;> rw [z] <;> first | exact Nat.le_refl _ | exact Nat.le_add_right _ _
        exact I1.fpOk hle (I1.hok.fresh hle)
      have nn : ∀ {m n : Nat}, m < n → m ≠ n := Nat.ne_of_lt
      refine call_zipSL p2.isList fun h' hz hTI hTO h1 h2 hsz hk => wpAny_pyIter_zip hz ?_
      have I2 : Inv X pins σ H1 { s1 with heap := h' } := I1.kept (t' := s1.toks) hk
      have D := PySem.W.ktu_apart s1.heap.objs.size b b lb lb
      refine ⟨s1.heap.objs.size + 4, [s1.heap.objs.size + 4, s1.heap.objs.size + 2, s1.heap.objs.size + 3, s1.heap.objs.size, s1.heap.objs.size + 1], _, _, H1, rfl, I2, turn_zipSL x t ⟨D.TIz, D.TOz, D.i1z, D.i2z, D.TITO, D.TIi1, D.TIi2, D.TOi1, D.TOi2, D.i12, ?_, ?_, ?_, ?_, ?_, ?_⟩ D.l2i2, ⟨hz, hTI, ⟨_, _, hTO⟩, by rw [Nat.zero_min]; exact h1, h2⟩, fresh5, q⟩
      · exact fun hm => D.i1z.symm (List.mem_singleton.mp hm)
      · exact fun hm => D.TOi1 (List.mem_singleton.mp hm)
      · exact fun hm => D.i12.symm (List.mem_singleton.mp hm)
      · exact fun hm => (List.mem_cons.mp hm).elim D.i2z.symm fun h => D.l2z.symm (List.mem_singleton.mp h)
      · exact fun hm => (List.mem_cons.mp hm).elim D.TOi2 fun h => D.l2TO.symm (List.mem_singleton.mp h)
      · exact fun hm => (List.mem_cons.mp hm).elim D.i12 fun h => D.l2i1.symm (List.mem_singleton.mp h)
end EL
namespace EL
open PySem PySem.Spec L2
open PyProof.Rows hiding St

/-! ### statements -/
section
variable {X : Cx} {cm : Cm} {e a b c tg : Expr} {st : Stmt} {sts sts' : List Stmt} {ma mb mc : ME} {mr : MA} {mt : MT} {m m1 m2 : MS} {g : MG} {pos : Pos} {vs : List Nat}
theorem rss_nil : RSs X cm [] sNil := by
  refine pssM pss_nil fun D σ H q => ?_
  obtain ⟨ρ, h, sw, f, h', rh, rs, e, k⟩ := q
  cases e
  exact k ρ H σ .refl rh rs
theorem rss_cons (h1 : RS X cm st m1) (h2 : RSs X cm sts m2) : RSs X cm (st :: sts) (sSeq m1 m2) := by
  refine pssM (pss_cons h1 h2) fun D σ H q => ?_
  obtain ⟨ρ, h, sw, f, h', rh, rs, e, k⟩ := q
  obtain ⟨f1, h1, e1, e2⟩ := bnd_ok e
  refine ⟨ρ, h, sw, f1, h1, rh, rs, e1, ?_⟩
  cases f1 with
  | nx s => exact fun ρ1 H1 σ1 l1 rh1 rs1 => ⟨ρ1, h1, s, f, h', rh1, rs1, e2, k.le l1⟩
  | rt w => cases e2; exact k
  | bk s => cases e2; exact k
  | ct s => cases e2; exact k
theorem rss_one (h1 : RS X cm st m1) : RSs X cm [st] m1 := pss_one h1
theorem rs_if (hc : RT X cm c mt) (ha : RSs X cm sts m1) (hb : RSs X cm sts' m2) : RS X cm (.If c sts sts' pos) (sIf mt m1 m2) := by
  refine psM (ps_if hc ha hb) fun D σ H q => ?_
  obtain ⟨ρ, h, sw, f, h', rh, rs, e, k⟩ := q
  obtain ⟨x, h1, e1, e2⟩ := bnd_ok e
  refine ⟨ρ, h, sw, x, h1, rh, rs, e1, fun ρ1 H1 l1 rh1 => ?_⟩
  cases x with
  | true => exact iteT ⟨ρ1, h1, sw, f, h', rh1, rs.mono l1, e2, k.le l1⟩
  | false => exact iteF ⟨ρ1, h1, sw, f, h', rh1, rs.mono l1, e2, k.le l1⟩
theorem rs_ret (ha : RE X cm e ma) : RS X cm (.Return (some e) pos) (sRet ma) := by
  refine psM (ps_ret ha) fun D σ H q => ?_
  obtain ⟨ρ, h, sw, f, h', rh, rs, e, k⟩ := q
  obtain ⟨x, h1, e1, e2⟩ := bnd_ok e
  cases e2
  exact ⟨ρ, h, sw, x, h', rh, rs, e1, k⟩
def sRetN : MS := fun _ => rtn (.rt .non)
theorem rs_retN : RS X cm (.Return none pos) sRetN := by
  refine psM ps_retN fun D σ H q => ?_
  obtain ⟨ρ, h, sw, f, h', rh, rs, e, k⟩ := q
  cases e
  exact k ρ H .non .refl rh .non
theorem rs_expr (ha : RE X cm e ma) (hs : swapsWith e none pos.line X.env = pure false := by rfl) : RS X cm (.Expr e pos) (sExp ma) := by
  refine psM (ps_expr ha hs) fun D σ H q => ?_
  obtain ⟨ρ, h, sw, f, h', rh, rs, e, k⟩ := q
  obtain ⟨x, h1, e1, e2⟩ := bnd_ok e
  cases e2
  exact ⟨ρ, h, sw, x, h', rh, rs, e1, fun ρ1 H1 v l1 rh1 _ => k ρ1 H1 σ l1 rh1 (rs.mono l1)⟩
theorem rs_pass : RS X cm (.Pass pos) sNil := by
  refine psM ps_pass fun D σ H q => ?_
  obtain ⟨ρ, h, sw, f, h', rh, rs, e, k⟩ := q
  cases e
  exact k ρ H σ .refl rh rs
theorem rs_brk : RS X cm (.Break pos) sBrk := by
  refine psM ps_break fun D σ H q => ?_
  obtain ⟨ρ, h, sw, f, h', rh, rs, e, k⟩ := q
  cases e
  exact k ρ H σ .refl rh rs
theorem rs_cnt : RS X cm (.Continue pos) sCnt := by
  refine psM ps_continue fun D σ H q => ?_
  obtain ⟨ρ, h, sw, f, h', rh, rs, e, k⟩ := q
  cases e
  exact k ρ H σ .refl rh rs
/-- what is never reached -/
theorem rs_bad : RS X cm st (fun _ => bad) := by
  refine psM ps_never fun D σ H q => ?_
  obtain ⟨ρ, h, sw, f, h', rh, rs, e, k⟩ := q
  cases e
theorem rg_name (i : Nat) {x : Str} (hN : X.N.Nodup) (hv : i ∈ vs := by decide) (hi : X.N[i]? = some x := by rfl) (hx : Loc X.env.scope x := by first | exact Or.inl rfl | exact Or.inr rfl) (hf : X.fn x = true ∨ X.env.scope.names.lookup x = some .local := by first | exact .inl rfl | exact .inr rfl | assumption) : RG X cm vs (.Name x pos) (gNm i) := by
  refine pgM (pg_name (i := i) hN hi hx hf) fun v σ H Q q => ?_
  obtain ⟨ρ, h, sw, w, s, h', rh, rs, rw', e, k⟩ := q
  cases e
  exact k ρ H _ (.set hv) .refl rh (rs.set rw' i)
/-- targets one after another -/
def gsNil : List W → SW → M SW := fun ws sw => if ws.isEmpty then rtn sw else bad
def gsCons (g : MG) (r : List W → SW → M SW) : List W → SW → M SW := fun ws sw => match ws with
  | w :: ws => bnd (g w sw) fun s => r ws s
  | [] => bad
def tGs (K : PySem.W.Frag) (cm : Cm) (ps : List Nat) (m : List W → SW → M SW) : TGs := fun vs σ H Q => ∃ ρ h sw ws s h', RelH K cm ρ h H ∧ RelS K ρ H sw σ ∧ Rels K ρ H ws vs ∧ m ws sw h = .ok s h' ∧ ∀ ρ' H' σ', But ps σ σ' → Le K ρ H ρ' H' → RelH K cm ρ' h' H' → RelS K ρ' H' s σ' → Q σ' H'
abbrev RGs (X : Cx) (cm : Cm) (vs : List Nat) (tg : List Expr) (m : List W → SW → M SW) : Prop := PGs X tg (tGs X.K cm vs m)
theorem rgs_nil : RGs X cm vs [] gsNil := ⟨fun pins s σ H xs us Q I r q => by
  refine pgs_nil.run pins s σ H xs us Q I r ?_
  obtain ⟨ρ, h, sw, ws, s, h', rh, rs, rw', e, k⟩ := q
  cases rw' with
  | nil =>
    cases e
    exact ⟨rfl, k ρ H σ .refl .refl rh rs⟩
  | cons _ _ => cases e⟩
theorem rgs_cons {es : List Expr} {g : MG} {r : List W → SW → M SW} (h1 : RG X cm vs e g) (h2 : RGs X cm vs es r) (hs : (assignEach (e :: es) X.env).map (·.2) = assign e X.env :: (assignEach es X.env).map (·.2) := by rfl) : RGs X cm vs (e :: es) (gsCons g r) := ⟨fun pins s σ H xs us Q I r q => by
  refine (pgs_cons h1 h2 hs).run pins s σ H xs us Q I r ?_
  obtain ⟨ρ, h, sw, ws, s, h', rh, rs, rw', e, k⟩ := q
  cases rw' with
  | nil => cases e
  | cons q1 q2 =>
    obtain ⟨s1, h1, e1, e2⟩ := bnd_ok e
    refine ⟨_, _, rfl, ρ, h, sw, _, s1, h1, rh, rs, q1, e1, fun ρ1 H1 σ1 b1 l1 rh1 rs1 => ?_⟩
    exact ⟨ρ1, h1, s1, _, s, h', rh1, rs1, q2.mono l1, e2, fun ρ2 H2 σ2 b2 l2 => k ρ2 H2 σ2 (b1.trans b2) (l1.trans l2)⟩⟩
def gTu (n : Nat) (r : List W → SW → M SW) : MG := fun w sw => match w with
  | .tup ws => if ws.length = n then r ws sw else bad
  | _ => bad
theorem rg_tup {es : List Expr} {r : List W → SW → M SW} {k0 : Nat} {n : Nat} (hc : X.calm = true) (h : RGs X cm vs es r) (hn : (assignEach es X.env).length = n := by rfl) (hst : (assignEach es X.env).findIdx? (·.1) = none := by rfl) : RG X cm vs (.Tuple es k0 pos) (gTu n r) := by
  refine pgM (pg_tup hc h hn hst) fun v σ H Q q => ?_
  obtain ⟨ρ, h, sw, w, s, h', rh, rs, rw', e, k⟩ := q
  cases rw' with
  | tup hq r =>
    have e' : (if _ then _ else bad) h = R.ok s h' := e
    split at e'
    · rename_i hl
      exact ⟨_, _, rfl, hq, by rw [← r.length]; exact hl, ρ, h, sw, _, s, h', rh, rs, r, e', k⟩
    · cases e'
  | _ => cases e
theorem rs_asg (he : RE X cm e ma) (hg : RG X cm vs tg g) (hs : swapsWithSole [tg] e pos.line X.env = pure false := by rfl) (hw : swappedStores [tg] e X.env = pure none := by rfl)
    (h1 : (assignEach [tg] X.env).map (·.2) = [assign tg X.env] := by rfl) : RS X cm (.Assign [tg] e pos) (sAsg g ma) := by
  refine psM (ps_asg he hg hs hw h1) fun D σ H q => ?_
  obtain ⟨ρ, h, sw, f, h', rh, rs, e, k⟩ := q
  obtain ⟨x, h1, e1, e2⟩ := bnd_ok e
  obtain ⟨s, h2, e3, e4⟩ := bnd_ok e2
  cases e4
  refine ⟨ρ, h, sw, x, h1, rh, rs, e1, fun ρ1 H1 v l1 rh1 rv => ?_⟩
  exact ⟨ρ1, h1, sw, x, s, h', rh1, rs.mono l1, rv, e3, fun ρ2 H2 σ2 _ l2 => k ρ2 H2 σ2 (l1.trans l2)⟩
/-- name op= e -/
def sAug (i : Nat) (f : W → W → M W) (ma : ME) : MS := fun sw => bnd (mVar i sw) fun x => bnd (ma sw) fun y => bnd (f x y) fun z => rtn (.nx (sw.set i (some z)))
def IpW (K : PySem.W.Frag) (cm : Cm) (r : TIp) (f : W → W → M W) : Prop :=
  ∀ ρ h H x y x' y' z h' Q, RelH K cm ρ h H → Rel K ρ H x x' → Rel K ρ H y y' → f x y h = .ok z h' → KE K cm ρ H z h' Q → r x' y' H Q
theorem rs_aug (i : Nat) {x : Str} {op : Operator} {ti : TIp} {f : W → W → M W} {pos' : Pos} (hN : X.N.Nodup) (he : RE X cm e ma) (ho : PIp X op ti) (ow : IpW X.K cm ti f) (hi : X.N[i]? = some x := by rfl) (hx : Loc X.env.scope x := by first | exact Or.inl rfl | exact Or.inr rfl)
    (hf : X.fn x = true ∨ X.env.scope.names.lookup x = some .local := by first | exact .inl rfl | exact .inr rfl | assumption) : RS X cm (.AugAssign (.Name x pos') op e pos) (sAug i f ma) := by
  refine psM (ps_aug (i := i) hN hi hx he ho hf) fun D σ H q => ?_
  obtain ⟨ρ, h, sw, fl, h', rh, rs, e, k⟩ := q
  obtain ⟨x0, h0, e0, e⟩ := bnd_ok e
  obtain ⟨y, h1, e1, e2⟩ := bnd_ok e
  obtain ⟨z, h2, e3, e4⟩ := bnd_ok e2
  cases e4
  unfold mVar at e0
  split at e0
  · cases e0
    obtain ⟨v, hv, rv⟩ := rs.2 i _ (by assumption)
    refine ⟨v, hv, ρ, h, sw, y, h1, rh, rs, e1, fun ρ1 H1 y' l1 rh1 ry => ?_⟩
    refine ow ρ1 h1 H1 _ _ _ _ _ _ _ rh1 (rv.mono l1) ry e3 fun ρ2 H2 z' l2 rh2 rz => ?_
    exact k ρ2 H2 _ (l1.trans l2) rh2 ((rs.mono (l1.trans l2)).set rz i)
  · cases e0
/-- o[i] = e, o[i] of a list -/
def wSet (o i v : W) : M Unit := fun h => match o, i with
  | .ref p, .int k => match h[p]? with
    | some (.lst xs) => match ixN xs.length k with
      | some j => .ok () (h.set p (.lst (xs.set j v)))
      | none => .no
    | _ => .no
  | _, _ => .no
def gSubL (mo mi : ME) : MG := fun w sw => bnd (mo sw) fun o => bnd (mi sw) fun i => bnd (wSet o i w) fun _ => rtn sw
theorem rg_sub {o i : Expr} {mo mi : ME} (ho : RE X cm o mo) (hi : RE X cm i mi)
    (ha : ∀ v, assign (.Subscript o i pos) X.env v = (do
      let ov ← holding [v] (eval o X.env)
      let iv ← holding [v, ov] (eval i X.env)
      standAt pos
      holding [v, ov, iv] (setItem ov iv v)
      release [v, ov, iv] []) := by intro _; rfl) : RG X cm vs (.Subscript o i pos) (gSubL mo mi) := by
  refine pgM (pg_sub ho hi set_list ha) fun v σ H Q q => ?_
  obtain ⟨ρ, h, sw, w, s, h', rh, rs, rw', e, k⟩ := q
  obtain ⟨x, h1, e1, e2⟩ := bnd_ok e
  obtain ⟨y, h2, e3, e4⟩ := bnd_ok e2
  obtain ⟨u, h3, e5, e6⟩ := bnd_ok e4
  cases e6
  refine ⟨ρ, h, sw, x, h1, rh, rs, e1, fun ρ1 H1 x' l1 rh1 rx => ?_⟩
  refine ⟨ρ1, h1, sw, y, h2, rh1, rs.mono l1, e3, fun ρ2 H2 y' l2 rh2 ry => ?_⟩
  cases rx with
  | @ref p a hp =>
    cases ry with
    | int j =>
      have e5' : (match h2[p]? with
        | some (.lst xs) => (match ixN xs.length j with
          | some j => R.ok () (h2.set p (.lst (xs.set j w)))
          | none => R.no)
        | _ => R.no) = .ok u h' := e5
      obtain ⟨o, ho, ro⟩ := rh2.at (w := .non) (pre_get l2.pre hp)
      rw [ho] at e5'
      cases o with
      | lst xs =>
        obtain ⟨ys, ea, rxs⟩ := ro
        simp only at e5'
        split at e5'
        · rename_i jj hj
          cases e5'
          have lu : Le X.K ρ2 H2 ρ2 (upd H2 a (.lst (ys.set jj v))) := le_mut ea trivial
          refine ⟨a, ys, j, jj, rfl, rfl, ea, by rw [← rxs.length]; exact hj, ?_⟩
          refine k ρ2 _ σ .refl (l1.trans (l2.trans lu)) (rh2.set (pre_get l2.pre hp) ea trivial ⟨_, upd_same, ?_⟩) (rs.mono (l1.trans (l2.trans lu)))
          exact (rxs.set (rw'.mono (l1.trans l2)) jj).mono lu
        · cases e5'
      | _ => cases e5'
    | _ => cases e5
  | _ => cases ry <;> cases e5
end

/-! ### while -/
def sWhile (c : MT) (b : MS) : Nat → MS
  | 0 => fun _ => bad
  | n + 1 => fun sw => bnd (c sw) fun x => if x = true then bnd (b sw) fun f => match f with
      | .nx s => sWhile c b n s
      | .ct s => sWhile c b n s
      | .bk s => rtn (.nx s)
      | .rt w => rtn (.rt w)
    else rtn (.nx sw)
section
variable {X : Cx} {cm : Cm} {c : Expr} {body : List Stmt} {mt : MT} {m : MS} {pos : Pos}
theorem rs_while (N : Nat) (hp : PassesOwn (model X.prog X.w) X.A X.env X.xe) (hc : RT X cm c mt) (hb : RSs X cm body m) : RS X cm (.While c body [] pos) (sWhile mt m N) := by
  refine psM (ps_while hp hc hb) fun D σ H q => ?_
  obtain ⟨ρ, h, sw, f, h', rh, rs, e, k⟩ := q
  refine ⟨fun n σ1 H1 => ∃ ρ1 h1 sw1, Le X.K ρ H ρ1 H1 ∧ RelH X.K cm ρ1 h1 H1 ∧ RelS X.K ρ1 H1 sw1 σ1 ∧ sWhile mt m n sw1 h1 = .ok f h', ⟨N, ρ, h, sw, .refl, rh, rs, e⟩, fun n σ1 H1 w => ?_⟩
  obtain ⟨ρ1, h1, sw1, l1, rh1, rs1, e1⟩ := w
  cases n with
  | zero => cases e1
  | succ n =>
    obtain ⟨x, h2, e2, e3⟩ := bnd_ok e1
    refine ⟨ρ1, h1, sw1, x, h2, rh1, rs1, e2, fun ρ2 H2 l2 rh2 => ?_⟩
    cases x with
    | false =>
      cases e3
      exact iteF (k ρ2 H2 σ1 (l1.trans l2) rh2 (rs1.mono l2))
    | true =>
      obtain ⟨f1, h3, e4, e5⟩ := bnd_ok e3
      refine iteT ⟨fun σ3 H3 => ∃ ρ3 h3 sw3, Le X.K ρ H ρ3 H3 ∧ RelH X.K cm ρ3 h3 H3 ∧ RelS X.K ρ3 H3 sw3 σ3 ∧ sWhile mt m n sw3 h3 = .ok f h', fun σ3 H3 z => ⟨n, Nat.lt_succ_self n, z⟩, ?_⟩
      refine ⟨ρ2, h2, sw1, f1, h3, rh2, rs1.mono l2, e4, ?_⟩
      cases f1 with
      | nx s => exact fun ρ3 H3 σ3 l3 rh3 rs3 => ⟨ρ3, h3, s, l1.trans (l2.trans l3), rh3, rs3, e5⟩
      | ct s => exact fun ρ3 H3 σ3 l3 rh3 rs3 => ⟨ρ3, h3, s, l1.trans (l2.trans l3), rh3, rs3, e5⟩
      | bk s =>
        cases e5
        exact fun ρ3 H3 σ3 l3 rh3 rs3 => k ρ3 H3 σ3 (l1.trans (l2.trans l3)) rh3 rs3
      | rt w =>
        cases e5
        exact fun ρ3 H3 v l3 rh3 rv => k ρ3 H3 v (l1.trans (l2.trans l3)) rh3 rv
end

/-! ### for -/
/-- what is walked: the items, and what must stand still meanwhile -/
inductive Src where
  | lst (p : Nat) | tup (xs : List W) | rol (xs : List W) | rng (lo : Int) (n : Nat) | str (x : Str) | dit (p : Nat) | dky (p : Nat) | dvl (p : Nat) | enu (p : Nat) | enr (xs : List W) | enuT (xs : List W) | enuS (x : Str) | zSL (x : Str) (p : Nat) | zTT (xs ys : List W)
def kW : Key → W
  | .inl i => .int i
  | .inr x => .str x
/-- the item at a turn; none: the end -/
def Src.item (s : Src) (i : Nat) (h : Hw) : Option (Option W) := match s with
  | .lst p => match h[p]? with
    | some (.lst xs) => some xs[i]?
    | _ => none
  | .tup xs => some xs[i]?
  | .rol xs => some xs[i]?
  | .rng lo n => some (if i < n then some (.int (lo + i)) else none)
  | .str x => some (x.cps[i]?.map fun c => .str ⟨#[c]⟩)
  | .dit p => match h[p]? with
    | some (.dF kvs) => some (kvs[i]?.map fun kv => .tup [kW kv.1, kv.2])
    | _ => none
  | .dky p => match h[p]? with
    | some (.dF kvs) => some (kvs[i]?.map fun kv => kW kv.1)
    | _ => none
  | .dvl p => match h[p]? with
    | some (.dF kvs) => some (kvs[i]?.map fun kv => kv.2)
    | _ => none
  | .enu p => match h[p]? with
    | some (.lst xs) => some (xs[i]?.map fun x => .tup [.int i, x])
    | _ => none
  | .enr xs => some (xs[i]?.map fun x => .tup [.int i, x])
  | .enuT xs => some (xs[i]?.map fun x => .tup [.int i, x])
  | .enuS x => some (x.cps[i]?.map fun c => .tup [.int i, .str ⟨#[c]⟩])
  | .zSL x p => match h[p]? with
    | some (.lst ys) => some (match x.cps[i]?, ys[i]? with
      | some c, some y => some (.tup [.str ⟨#[c]⟩, y])
      | _, _ => none)
    | _ => none
  | .zTT xs ys => some (match xs[i]?, ys[i]? with
    | some x, some y => some (.tup [x, y])
    | _, _ => none)
def sFor (src : Src) (g : MG) (b : MS) : Nat → Nat → MS
  | _, 0 => fun _ => bad
  | i, n + 1 => fun sw h => match src.item i h with
    | none => .no
    | some none => .ok (.nx sw) h
    | some (some x) => bnd (g x sw) (fun s => bnd (b s) fun f => match f with
      | .nx s => sFor src g b (i + 1) n s
      | .ct s => sFor src g b (i + 1) n s
      | .bk s => rtn (.nx s)
      | .rt w => rtn (.rt w)) h
/-- how a source lies: its iterator -/
def SrcR (K : PySem.W.Frag) (ρ : List Addr) (H : Hp) (src : Src) (J : It) : Prop := match src with
  | .lst p => ∃ a, ρ[p]? = some a ∧ J = Itl K a
  | .tup xs => ∃ a vs, SqT K H a vs ∧ Rels K ρ H xs vs ∧ J = Itt K a
  | .rol xs => ∃ a vs, SqP K H a vs ∧ Rels K ρ H xs vs ∧ J = Itl K a
  | .rng lo n => J = Itr lo n
  | .str x => J = Its x
  | .dit p => ∃ a o kv, ρ[p]? = some a ∧ H a = some (.frz o (.dK kv)) ∧ J = Iti a o kv
  | .dky p => ∃ a o kv, ρ[p]? = some a ∧ H a = some (.frz o (.dK kv)) ∧ J = Itk a o kv
  | .dvl p => ∃ a o kv, ρ[p]? = some a ∧ H a = some (.frz o (.dK kv)) ∧ J = Itd a o kv
  | .enu p => ∃ a, ρ[p]? = some a ∧ J = Ite K a
  | .enr xs => ∃ a vs, SqP K H a vs ∧ Rels K ρ H xs vs ∧ J = Ite K a
  | .enuT xs => ∃ a vs, SqT K H a vs ∧ Rels K ρ H xs vs ∧ J = IteT K a
  | .enuS x => J = IteS x
  | .zSL x p => ∃ a, ρ[p]? = some a ∧ J = ItzSL K x a
  | .zTT xs ys => ∃ a vs b us, SqT K H a vs ∧ Rels K ρ H xs vs ∧ SqT K H b us ∧ Rels K ρ H ys us ∧ J = RZ.ItzT K a b
theorem SrcR.mono {K : PySem.W.Frag} {ρ ρ' : List Addr} {H H' : Hp} {src : Src} {J : It} (l : Le K ρ H ρ' H') (r : SrcR K ρ H src J) : SrcR K ρ' H' src J := by
  cases src with
  | lst p => obtain ⟨a, h1, h2⟩ := r; exact ⟨a, pre_get l.pre h1, h2⟩
  | tup xs => obtain ⟨a, vs, h1, h2, h3⟩ := r; exact ⟨a, vs, l.sq _ _ h1, h2.mono l, h3⟩
  | rol xs => obtain ⟨a, vs, h1, h2, h3⟩ := r; exact ⟨a, vs, l.sl _ _ h1, h2.mono l, h3⟩
  | rng lo n => exact r
  | str x => exact r
  | dit p => obtain ⟨a, o, kv, h1, h2, h3⟩ := r; exact ⟨a, o, kv, pre_get l.pre h1, l.fz _ _ _ h2, h3⟩
  | dky p => obtain ⟨a, o, kv, h1, h2, h3⟩ := r; exact ⟨a, o, kv, pre_get l.pre h1, l.fz _ _ _ h2, h3⟩
  | dvl p => obtain ⟨a, o, kv, h1, h2, h3⟩ := r; exact ⟨a, o, kv, pre_get l.pre h1, l.fz _ _ _ h2, h3⟩
  | enu p => obtain ⟨a, h1, h2⟩ := r; exact ⟨a, pre_get l.pre h1, h2⟩
  | enr xs => obtain ⟨a, vs, h1, h2, h3⟩ := r; exact ⟨a, vs, l.sl _ _ h1, h2.mono l, h3⟩
  | enuT xs => obtain ⟨a, vs, h1, h2, h3⟩ := r; exact ⟨a, vs, l.sq _ _ h1, h2.mono l, h3⟩
  | enuS x => exact r
  | zSL x p => obtain ⟨a, h1, h2⟩ := r; exact ⟨a, pre_get l.pre h1, h2⟩
  | zTT xs ys => obtain ⟨a, vs, b, us, h1, h2, h3, h4, h5⟩ := r; exact ⟨a, vs, b, us, l.sq _ _ h1, h2.mono l, l.sq _ _ h3, h4.mono l, h5⟩
theorem get_none {K : PySem.W.Frag} {ρ : List Addr} {H : Hp} {ws : List W} {vs : List V} {i : Nat} (r : Rels K ρ H ws vs) (e : ws[i]? = none) : vs.length ≤ i := by
  rw [← r.length]
  exact List.getElem?_eq_none_iff.mp e
theorem SqT.one {K : PySem.W.Frag} {H : Hp} {a : Addr} {xs ys : List V} (h : SqT K H a xs) (h' : SqT K H a ys) : True := trivial
theorem rel_kW {K : PySem.W.Frag} {ρ : List Addr} {H : Hp} (k : Key) : Rel K ρ H (kW k) (kV k) := by
  cases k
  · exact .int _
  · exact .str _
theorem kv_get {κ : Type} {K : PySem.W.Frag} {ρ : List Addr} {H : Hp} {kvs : List (κ × W)} {kv : List (κ × V)} {i : Nat} {p : κ × W} (ek : kv.map (·.1) = kvs.map (·.1)) (rl : Rels K ρ H (kvs.map (·.2)) (kv.map (·.2))) (e : kvs[i]? = some p) : ∃ v, kv[i]? = some (p.1, v) ∧ Rel K ρ H p.2 v := by
  obtain ⟨v, hv, rv⟩ := rl.get (i := i) (w := p.2) (by rw [List.getElem?_map, e]; rfl)
  rw [List.getElem?_map] at hv
  have ek' : (kv.map (·.1))[i]? = some p.1 := by rw [ek, List.getElem?_map, e]; rfl
  rw [List.getElem?_map] at ek'
  cases q : kv[i]? with
  | none => rw [q] at hv; cases hv
  | some q2 =>
    rw [q] at hv ek'
    cases q2
    cases hv
    cases ek'
    exact ⟨_, rfl, rv⟩
theorem dict_src {K : PySem.W.Frag} {cm : Cm} {ρ : List Addr} {h : Hw} {H : Hp} {J : It} {p : Nat} {F : List (Key × W) → Option (Option W)} {r : Option W} {it : Addr → Obj → List (Key × V) → It} (rh : RelH K cm ρ h H) (hr : ∃ a o kv, ρ[p]? = some a ∧ H a = some (.frz o (.dK kv)) ∧ J = it a o kv)
    (e : (match h[p]? with
      | some (.dF kvs) => F kvs
      | _ => none) = some r) : ∃ kvs kv a o, H a = some (.frz o (.dK kv)) ∧ J = it a o kv ∧ kv.map (·.1) = kvs.map (·.1) ∧ Rels K ρ H (kvs.map (·.2)) (kv.map (·.2)) ∧ F kvs = some r ∧ True := by
  obtain ⟨a, o, kv, hp, ea, ej⟩ := hr
  obtain ⟨ob, ho, ro⟩ := rh.at (w := .non) hp
  rw [ho] at e
  cases ob with
  | dF kvs =>
    obtain ⟨o', kv', ea', ek, rl⟩ := ro
    rw [ea] at ea'
    cases ea'
    exact ⟨kvs, kv, a, o, ea, ej, ek, rl, e, trivial⟩
  | _ => cases e
theorem enu_go {K : PySem.W.Frag} {cm : Cm} {ρ : List Addr} {h : Hw} {H : Hp} {a : Addr} {xs : List W} {vs : List V} {i : Nat} {x : W} (rh : RelH K cm ρ h H) (hq : SqL K H a vs) (rx : Rels K ρ H xs vs) (e : (xs[i]?.map fun x => W.tup [.int i, x]) = some x) :
    (Ite K a).go i H ∧ ∀ v H', (Ite K a).yld i H v H' → Le K ρ H ρ H' ∧ RelH K cm ρ h H' ∧ Rel K ρ H' x v := by
  cases q1 : xs[i]? with
  | none => rw [q1] at e; cases e
  | some y =>
    rw [q1] at e
    cases e
    obtain ⟨v, hv, rv⟩ := rx.get q1
    refine ⟨⟨vs, v, hq, hv⟩, fun u H' z => ?_⟩
    obtain ⟨T, x', rfl, hT, rfl, hx⟩ := z
    have := hx vs hq
    rw [hv] at this
    cases this
    exact ⟨le_new hT, rh.new hT, .tup (.of upd_same) (.cons (.int _) (.cons (rv.mono (le_new hT)) .nil))⟩
/-- a turn of the iterator -/
theorem enuT_go {K : PySem.W.Frag} {cm : Cm} {ρ : List Addr} {h : Hw} {H : Hp} {a : Addr} {xs : List W} {vs : List V} {i : Nat} {x : W} (rh : RelH K cm ρ h H) (hq : SqT K H a vs) (rx : Rels K ρ H xs vs) (e : (xs[i]?.map fun x => W.tup [.int i, x]) = some x) :
    (IteT K a).go i H ∧ ∀ v H', (IteT K a).yld i H v H' → Le K ρ H ρ H' ∧ RelH K cm ρ h H' ∧ Rel K ρ H' x v := by
  cases q1 : xs[i]? with
  | none => rw [q1] at e; cases e
  | some y =>
    rw [q1] at e
    cases e
    obtain ⟨v, hv, rv⟩ := rx.get q1
    refine ⟨⟨vs, v, hq, hv⟩, fun u H' z => ?_⟩
    obtain ⟨T, x', rfl, hT, rfl, hx⟩ := z
    have := hx vs hq
    rw [hv] at this
    cases this
    exact ⟨le_new hT, rh.new hT, .tup (.of upd_same) (.cons (.int _) (.cons (rv.mono (le_new hT)) .nil))⟩
/-- a turn of the iterator -/
theorem src_go {K : PySem.W.Frag} {cm : Cm} {ρ : List Addr} {h : Hw} {H : Hp} {src : Src} {J : It} {i : Nat} {x : W} (rh : RelH K cm ρ h H) (r : SrcR K ρ H src J) (e : src.item i h = some (some x)) :
    J.go i H ∧ ∀ v H', J.yld i H v H' → Le K ρ H ρ H' ∧ RelH K cm ρ h H' ∧ Rel K ρ H' x v := by
  cases src with
  | lst p =>
    obtain ⟨a, hp, rfl⟩ := r
    obtain ⟨o, ho, ro⟩ := rh.at (w := .non) hp
    have e' : (match h[p]? with
      | some (.lst xs) => some xs[i]?
      | _ => none) = some (some x) := e
    rw [ho] at e'
    cases o with
    | lst xs =>
      obtain ⟨vs, ea, rx⟩ := ro
      have e2 : xs[i]? = some x := Option.some.inj e'
      obtain ⟨v, hv, rv⟩ := rx.get e2
      refine ⟨⟨vs, v, .of ea, hv⟩, fun v' H' y => ?_⟩
      obtain ⟨y1, y2⟩ := y
      subst y1
      refine ⟨.refl, rh, ?_⟩
      have := y2 vs (.of ea)
      rw [hv] at this
      cases this
      exact rv
    | _ => cases e'
  | tup xs =>
    obtain ⟨a, vs, hq, rx, rfl⟩ := r
    have e2 : xs[i]? = some x := Option.some.inj e
    obtain ⟨v, hv, rv⟩ := rx.get e2
    refine ⟨⟨vs, v, hq, hv⟩, fun v' H' y => ?_⟩
    obtain ⟨y1, y2⟩ := y
    subst y1
    refine ⟨.refl, rh, ?_⟩
    have := y2 vs hq
    rw [hv] at this
    cases this
    exact rv
  | rol xs =>
    obtain ⟨a, vs, hq, rx, rfl⟩ := r
    have e2 : xs[i]? = some x := Option.some.inj e
    obtain ⟨v, hv, rv⟩ := rx.get e2
    refine ⟨⟨vs, v, hq.sq, hv⟩, fun v' H' y => ?_⟩
    obtain ⟨y1, y2⟩ := y
    subst y1
    refine ⟨.refl, rh, ?_⟩
    have := y2 vs hq.sq
    rw [hv] at this
    cases this
    exact rv
  | rng lo n =>
    have r' : J = Itr lo n := r
    subst r'
    have e2 : (if i < n then some (W.int (lo + i)) else none) = some x := Option.some.inj e
    split at e2
    · cases e2
      refine ⟨by assumption, fun v H' y => ?_⟩
      obtain ⟨y1, y2⟩ := y
      subst y1
      refine ⟨.refl, rh, ?_⟩
      rw [y2]
      exact .int _
    · cases e2
  | str z =>
    have r' : J = Its z := r
    subst r'
    have e2 : (z.cps[i]?.map fun c => W.str ⟨#[c]⟩) = some x := Option.some.inj e
    cases q : z.cps[i]? with
    | none => rw [q] at e2; cases e2
    | some c =>
      rw [q] at e2
      cases e2
      refine ⟨(Array.getElem?_eq_some_iff.mp q).1, fun v H' y => ?_⟩
      obtain ⟨y1, c', h1, h2⟩ := y
      subst y1
      refine ⟨.refl, rh, ?_⟩
      rw [q] at h1
      cases h1
      rw [h2]
      exact .str _
  | dit p =>
    obtain ⟨kvs, kv, a, o, ea, rfl, ek, rl, e2, q⟩ := dict_src rh r e
    have e3 : ((kvs[i]?).map fun kv => W.tup [kW kv.1, kv.2]) = some x := Option.some.inj e2
    cases q1 : kvs[i]? with
    | none => rw [q1] at e3; cases e3
    | some p1 =>
      rw [q1] at e3
      cases e3
      obtain ⟨v, hv, rv⟩ := kv_get ek rl q1
      refine ⟨⟨ea, (List.getElem?_eq_some_iff.mp hv).1⟩, fun u H' y => ?_⟩
      obtain ⟨T, k, v', h1, rfl, hT, rfl⟩ := y
      rw [hv] at h1
      cases h1
      exact ⟨le_new hT, rh.new hT, .tup (.of upd_same) (.cons (rel_kW _) (.cons (rv.mono (le_new hT)) .nil))⟩
  | dky p =>
    obtain ⟨kvs, kv, a, o, ea, rfl, ek, rl, e2, q⟩ := dict_src rh r e
    have e3 : ((kvs[i]?).map fun kv => kW kv.1) = some x := Option.some.inj e2
    cases q1 : kvs[i]? with
    | none => rw [q1] at e3; cases e3
    | some p1 =>
      rw [q1] at e3
      cases e3
      obtain ⟨v, hv, rv⟩ := kv_get ek rl q1
      refine ⟨⟨ea, (List.getElem?_eq_some_iff.mp hv).1⟩, fun u H' y => ?_⟩
      obtain ⟨y1, k, v', h1, rfl⟩ := y
      subst y1
      rw [hv] at h1
      cases h1
      exact ⟨.refl, rh, rel_kW _⟩
  | dvl p =>
    obtain ⟨kvs, kv, a, o, ea, rfl, ek, rl, e2, q⟩ := dict_src rh r e
    have e3 : ((kvs[i]?).map fun kv => kv.2) = some x := Option.some.inj e2
    cases q1 : kvs[i]? with
    | none => rw [q1] at e3; cases e3
    | some p1 =>
      rw [q1] at e3
      cases e3
      obtain ⟨v, hv, rv⟩ := kv_get ek rl q1
      refine ⟨⟨ea, (List.getElem?_eq_some_iff.mp hv).1⟩, fun u H' y => ?_⟩
      obtain ⟨y1, k, h1⟩ := y
      subst y1
      rw [hv] at h1
      cases h1
      exact ⟨.refl, rh, rv⟩
  | enu p =>
    obtain ⟨a, hp, rfl⟩ := r
    obtain ⟨o, ho, ro⟩ := rh.at (w := .non) hp
    have e' : (match h[p]? with
      | some (.lst xs) => some (xs[i]?.map fun x => W.tup [.int i, x])
      | _ => none) = some (some x) := e
    rw [ho] at e'
    cases o with
    | lst xs =>
      obtain ⟨vs, ea, rx⟩ := ro
      exact enu_go rh (.of ea) rx (Option.some.inj e')
    | _ => cases e'
  | enr xs =>
    obtain ⟨a, vs, hq, rx, rfl⟩ := r
    exact enu_go rh hq.sq rx (Option.some.inj e)
  | enuT xs =>
    obtain ⟨a, vs, hq, rx, rfl⟩ := r
    exact enuT_go rh hq rx (Option.some.inj e)
  | enuS y =>
    have r' : J = IteS y := r
    subst r'
    have e' : (y.cps[i]?.map fun c => W.tup [.int i, .str ⟨#[c]⟩]) = some x := Option.some.inj e
    cases q1 : y.cps[i]? with
    | none => rw [q1] at e'; cases e'
    | some c =>
      rw [q1] at e'
      cases e'
      refine ⟨(Array.getElem?_eq_some_iff.mp q1).1, fun v H' z => ?_⟩
      obtain ⟨T, c', rfl, hT, rfl, hc⟩ := z
      rw [q1] at hc
      cases hc
      exact ⟨le_new hT, rh.new hT, .tup (.of upd_same) (.cons (.int _) (.cons (.str _) .nil))⟩
  | zSL y p =>
    obtain ⟨a, hp, rfl⟩ := r
    obtain ⟨o, ho, ro⟩ := rh.at (w := .non) hp
    have e' : (match h[p]? with
      | some (.lst ys) => some (match y.cps[i]?, ys[i]? with
        | some c, some z => some (W.tup [.str ⟨#[c]⟩, z])
        | _, _ => none)
      | _ => none) = some (some x) := e
    rw [ho] at e'
    cases o with
    | lst ys =>
      obtain ⟨vs, ea, rx⟩ := ro
      have e2 : (match y.cps[i]?, ys[i]? with
        | some c, some z => some (W.tup [.str ⟨#[c]⟩, z])
        | _, _ => none) = some x := Option.some.inj e'
      split at e2
      · rename_i c z q1 q2
        cases e2
        obtain ⟨v, hv, rv⟩ := rx.get q2
        refine ⟨⟨(Array.getElem?_eq_some_iff.mp q1).1, vs, v, .of ea, hv⟩, fun u H' zz => ?_⟩
        obtain ⟨T, c', y', rfl, hT, rfl, hc, hy⟩ := zz
        rw [q1] at hc
        cases hc
        have := hy vs (.of ea)
        rw [hv] at this
        cases this
        exact ⟨le_new hT, rh.new hT, .tup (.of upd_same) (.cons (.str _) (.cons (rv.mono (le_new hT)) .nil))⟩
      · cases e2
    | _ => cases e'
  | zTT xs ys =>
    obtain ⟨a, vs, b, us, hqx, rx, hqy, ry, rfl⟩ := r
    have e2 : (match xs[i]?, ys[i]? with
      | some x, some y => some (W.tup [x, y])
      | _, _ => none) = some x := Option.some.inj e
    split at e2
    · rename_i x1 y1 q1 q2
      cases e2
      obtain ⟨v, hv, rv⟩ := rx.get q1
      obtain ⟨v2, hv2, rv2⟩ := ry.get q2
      refine ⟨⟨vs, us, v, v2, hqx, hqy, hv, hv2⟩, fun u H' zz => ?_⟩
      obtain ⟨T, x', y', rfl, hT, rfl, hx, hy⟩ := zz
      have t1 := hx vs hqx
      have t2 := hy us hqy
      rw [hv] at t1
      rw [hv2] at t2
      cases t1
      cases t2
      exact ⟨le_new hT, rh.new hT, .tup (.of upd_same) (.cons (rv.mono (le_new hT)) (.cons (rv2.mono (le_new hT)) .nil))⟩
    · cases e2
theorem kv_end {κ : Type} {kvs : List (κ × W)} {kv : List (κ × V)} {i : Nat} (ek : kv.map (·.1) = kvs.map (·.1)) (e : kvs.length ≤ i) : kv.length ≤ i := by
  have := congrArg List.length ek
  simp at this
  omega
theorem src_stop {K : PySem.W.Frag} {cm : Cm} {ρ : List Addr} {h : Hw} {H : Hp} {src : Src} {J : It} {i : Nat} (rh : RelH K cm ρ h H) (r : SrcR K ρ H src J) (e : src.item i h = some none) : J.stop i H := by
  cases src with
  | lst p =>
    obtain ⟨a, hp, rfl⟩ := r
    obtain ⟨o, ho, ro⟩ := rh.at (w := .non) hp
    have e' : (match h[p]? with
      | some (.lst xs) => some xs[i]?
      | _ => none) = some none := e
    rw [ho] at e'
    cases o with
    | lst xs =>
      obtain ⟨vs, ea, rx⟩ := ro
      exact ⟨vs, .of ea, get_none rx (Option.some.inj e')⟩
    | _ => cases e'
  | tup xs =>
    obtain ⟨a, vs, hq, rx, rfl⟩ := r
    exact ⟨vs, hq, get_none rx (Option.some.inj e)⟩
  | rol xs =>
    obtain ⟨a, vs, hq, rx, rfl⟩ := r
    exact ⟨vs, hq.sq, get_none rx (Option.some.inj e)⟩
  | rng lo n =>
    have r' : J = Itr lo n := r
    subst r'
    have e2 : (if i < n then some (W.int (lo + i)) else none) = none := Option.some.inj e
    split at e2
    · cases e2
    · exact Nat.le_of_not_lt (by assumption)
  | str z =>
    have r' : J = Its z := r
    subst r'
    have e2 : (z.cps[i]?.map fun c => W.str ⟨#[c]⟩) = none := Option.some.inj e
    cases q : z.cps[i]? with
    | none => exact Array.getElem?_eq_none_iff.mp q
    | some c => rw [q] at e2; cases e2
  | dit p =>
    obtain ⟨kvs, kv, a, o, ea, rfl, ek, rl, e2, q⟩ := dict_src rh r e
    exact ⟨ea, kv_end ek (by simpa using (Option.some.inj e2))⟩
  | dky p =>
    obtain ⟨kvs, kv, a, o, ea, rfl, ek, rl, e2, q⟩ := dict_src rh r e
    exact ⟨ea, kv_end ek (by simpa using (Option.some.inj e2))⟩
  | dvl p =>
    obtain ⟨kvs, kv, a, o, ea, rfl, ek, rl, e2, q⟩ := dict_src rh r e
    exact ⟨ea, kv_end ek (by simpa using (Option.some.inj e2))⟩
  | enu p =>
    obtain ⟨a, hp, rfl⟩ := r
    obtain ⟨o, ho, ro⟩ := rh.at (w := .non) hp
    have e' : (match h[p]? with
      | some (.lst xs) => some (xs[i]?.map fun x => W.tup [.int i, x])
      | _ => none) = some none := e
    rw [ho] at e'
    cases o with
    | lst xs =>
      obtain ⟨vs, ea, rx⟩ := ro
      exact ⟨vs, .of ea, get_none rx (List.getElem?_eq_none_iff.mpr (by simpa using (Option.some.inj e')))⟩
    | _ => cases e'
  | enr xs =>
    obtain ⟨a, vs, hq, rx, rfl⟩ := r
    exact ⟨vs, hq.sq, get_none rx (List.getElem?_eq_none_iff.mpr (by simpa using (Option.some.inj e)))⟩
  | enuT xs =>
    obtain ⟨a, vs, hq, rx, rfl⟩ := r
    exact ⟨vs, hq, get_none rx (List.getElem?_eq_none_iff.mpr (by simpa using (Option.some.inj e)))⟩
  | enuS y =>
    have r' : J = IteS y := r
    subst r'
    have e' : (y.cps[i]?.map fun c => W.tup [.int i, .str ⟨#[c]⟩]) = none := Option.some.inj e
    cases q1 : y.cps[i]? with
    | none => exact Array.getElem?_eq_none_iff.mp q1
    | some c => rw [q1] at e'; cases e'
  | zSL y p =>
    obtain ⟨a, hp, rfl⟩ := r
    obtain ⟨o, ho, ro⟩ := rh.at (w := .non) hp
    have e' : (match h[p]? with
      | some (.lst ys) => some (match y.cps[i]?, ys[i]? with
        | some c, some z => some (W.tup [.str ⟨#[c]⟩, z])
        | _, _ => none)
      | _ => none) = some none := e
    rw [ho] at e'
    cases o with
    | lst ys =>
      obtain ⟨vs, ea, rx⟩ := ro
      have e2 : (match y.cps[i]?, ys[i]? with
        | some c, some z => some (W.tup [.str ⟨#[c]⟩, z])
        | _, _ => none) = none := Option.some.inj e'
      cases q1 : y.cps[i]? with
      | none => exact .inl (Array.getElem?_eq_none_iff.mp q1)
      | some c =>
        cases q2 : ys[i]? with
        | none => exact .inr ⟨(Array.getElem?_eq_some_iff.mp q1).1, vs, .of ea, get_none rx q2⟩
        | some z => rw [q1, q2] at e2; cases e2
    | _ => cases e'
  | zTT xs ys =>
    obtain ⟨a, vs, b, us, hqx, rx, hqy, ry, rfl⟩ := r
    have e2 : (match xs[i]?, ys[i]? with
      | some x, some y => some (W.tup [x, y])
      | _, _ => none) = none := Option.some.inj e
    cases q1 : xs[i]? with
    | none => exact ⟨vs, us, hqx, hqy, .inl (get_none rx q1)⟩
    | some x =>
      cases q2 : ys[i]? with
      | none => exact ⟨vs, us, hqx, hqy, .inr (get_none ry q2)⟩
      | some y => rw [q1, q2] at e2; cases e2
/-- a walk's start: the source, and how many turns it has at most -/
abbrev MI := SW → M (Src × Nat)
def tI (K : PySem.W.Frag) (cm : Cm) (m : MI) : TI := fun σ H R => ∃ ρ h sw src h', RelH K cm ρ h H ∧ RelS K ρ H sw σ ∧ m sw h = .ok src h' ∧ ∀ ρ' H' J, Le K ρ H ρ' H' → RelH K cm ρ' h' H' → SrcR K ρ' H' src.1 J → R J H'
abbrev RI (X : Cx) (cm : Cm) (tg it : Expr) (m : MI) : Prop := PI X tg it (tI X.K cm m)
theorem piM {X : Cx} {tg it : Expr} {t t' : TI} (p : PI X tg it t) (f : ∀ σ H R, t' σ H R → t σ H R) : PI X tg it t' := ⟨fun pins s σ H R I q => p.run pins s σ H R I (f σ H R q)⟩
def sForI (mi : MI) (g : MG) (b : MS) : MS := fun sw => bnd (mi sw) fun src => sFor src.1 g b 0 (src.2 + 1) sw
section
variable {X : Cx} {cm : Cm} {tg it : Expr} {body : List Stmt} {mi : MI} {g : MG} {m : MS} {pos : Pos} {vs : List Nat}
theorem rs_for (hp : PassesOwn (model X.prog X.w) X.A X.env X.xe) (hc : X.calm = true) (hi : RI X cm tg it mi) (hg : RG X cm vs tg g) (hb : RSs X cm body m) (hs : ∀ x, foldedSetIterable it X.env x = pure x := by intro _; rfl) : RS X cm (.For tg it body [] pos) (sForI mi g m) := by
  refine psM (ps_for hp hc hi hg hb hs) fun D σ H q => ?_
  obtain ⟨ρ, h, sw, f, h', rh, rs, e, k⟩ := q
  obtain ⟨src, h0, e0, e⟩ := bnd_ok e
  refine ⟨ρ, h, sw, src, h0, rh, rs, e0, fun ρ0 H0 J l0 rh0 rj => ?_⟩
  refine ⟨fun i n σ1 H1 => ∃ ρ1 h1 sw1, Le X.K ρ H ρ1 H1 ∧ RelH X.K cm ρ1 h1 H1 ∧ RelS X.K ρ1 H1 sw1 σ1 ∧ SrcR X.K ρ1 H1 src.1 J ∧ sFor src.1 g m i n sw1 h1 = .ok f h', ⟨_, ρ0, h0, sw, l0, rh0, rs.mono l0, rj, e⟩, fun i n σ1 H1 w => ?_⟩
  obtain ⟨ρ1, h1, sw1, l1, rh1, rs1, rj1, e1⟩ := w
  cases n with
  | zero => cases e1
  | succ n =>
    have e1' : (match src.1.item i h1 with
      | none => (EL.R.no : EL.R Fl)
      | some none => .ok (Fl.nx sw1) h1
      | some (some x) => bnd (g x sw1) (fun s => bnd (m s) fun f => match f with
        | .nx s => sFor src.1 g m (i + 1) n s
        | .ct s => sFor src.1 g m (i + 1) n s
        | .bk s => rtn (.nx s)
        | .rt w => rtn (.rt w)) h1) = .ok f h' := e1
    split at e1'
    · cases e1'
    · rename_i he
      cases e1'
      exact .inl ⟨src_stop rh1 rj1 he, k ρ1 H1 σ1 l1 rh1 rs1⟩
    · rename_i x he
      obtain ⟨s2, h2, e2, e3⟩ := bnd_ok e1'
      obtain ⟨f1, h3, e4, e5⟩ := bnd_ok e3
      obtain ⟨go, yl⟩ := src_go rh1 rj1 he
      refine .inr ⟨go, fun σ3 H3 => ∃ ρ3 h3 sw3, Le X.K ρ H ρ3 H3 ∧ RelH X.K cm ρ3 h3 H3 ∧ RelS X.K ρ3 H3 sw3 σ3 ∧ SrcR X.K ρ3 H3 src.1 J ∧ sFor src.1 g m (i + 1) n sw3 h3 = .ok f h', fun σ3 H3 z => ⟨n, Nat.lt_succ_self n, z⟩, fun v H' y => ?_⟩
      obtain ⟨ly, rhy, rv⟩ := yl v H' y
      have l1 := l1.trans ly
      have rj1 := rj1.mono ly
      refine ⟨ρ1, h1, sw1, x, s2, h2, rhy, rs1.mono ly, rv, e2, fun ρ2 H2 σ2 _ l2 rh2 rs2 => ?_⟩
      refine ⟨ρ2, h2, s2, f1, h3, rh2, rs2, e4, ?_⟩
      cases f1 with
      | nx s => exact fun ρ3 H3 σ3 l3 rh3 rs3 => ⟨ρ3, h3, s, l1.trans (l2.trans l3), rh3, rs3, (rj1.mono l2).mono l3, e5⟩
      | ct s => exact fun ρ3 H3 σ3 l3 rh3 rs3 => ⟨ρ3, h3, s, l1.trans (l2.trans l3), rh3, rs3, (rj1.mono l2).mono l3, e5⟩
      | bk s =>
        cases e5
        exact fun ρ3 H3 σ3 l3 rh3 rs3 => k ρ3 H3 σ3 (l1.trans (l2.trans l3)) rh3 rs3
      | rt w =>
        cases e5
        exact fun ρ3 H3 v l3 rh3 rv => k ρ3 H3 v (l1.trans (l2.trans l3)) rh3 rv
/-- over a list -/
def iSeq (a : ME) : MI := fun sw => bnd (a sw) fun x h => match x with
  | .ref p => match h[p]? with
    | some (.lst xs) => .ok (.lst p, xs.length) h
    | _ => .no
  | .rol xs => .ok (.rol xs, xs.length) h
  | _ => .no
theorem ri_lst {ma : ME} (ha : RE X cm it ma) : RI X cm tg it (iSeq ma) := by
  refine piM (pi_list ha) fun σ H R q => ?_
  obtain ⟨ρ, h, sw, src, h', rh, rs, e, k⟩ := q
  obtain ⟨x, h1, e1, e2⟩ := bnd_ok e
  refine ⟨ρ, h, sw, x, h1, rh, rs, e1, fun ρ1 H1 v l1 rh1 rx => ?_⟩
  cases rx with
  | @ref p a hp =>
    obtain ⟨o, ho, ro⟩ := rh1.at (w := .non) hp
    simp only at e2
    rw [ho] at e2
    cases o with
    | lst xs =>
      obtain ⟨vs, ea, rx⟩ := ro
      cases e2
      exact ⟨a, rfl, ⟨vs, .of ea⟩, k ρ1 H1 _ l1 rh1 ⟨a, hp, rfl⟩⟩
    | _ => cases e2
  | rol hq r =>
    cases e2
    exact ⟨_, rfl, ⟨_, hq.sq⟩, k ρ1 H1 _ l1 rh1 ⟨_, _, hq, r, rfl⟩⟩
  | _ => cases e2
def iTu (a : ME) : MI := fun sw => bnd (a sw) fun x h => match x with
  | .tup xs => .ok (.tup xs, xs.length) h
  | _ => .no
theorem ri_tup {ma : ME} (ha : RE X cm it ma) : RI X cm tg it (iTu ma) := by
  refine piM (pi_tup ha) fun σ H R q => ?_
  obtain ⟨ρ, h, sw, src, h', rh, rs, e, k⟩ := q
  obtain ⟨x, h1, e1, e2⟩ := bnd_ok e
  refine ⟨ρ, h, sw, x, h1, rh, rs, e1, fun ρ1 H1 v l1 rh1 rx => ?_⟩
  cases rx with
  | tup hq r =>
    cases e2
    exact ⟨_, rfl, ⟨_, hq⟩, k ρ1 H1 _ l1 rh1 ⟨_, _, hq, r, rfl⟩⟩
  | _ => cases e2
/-- over whatever it is: a list, a tuple, a text -/
def itAny (K : PySem.W.Frag) (tl : TE) : TI := fun σ H R => tl σ H fun x H1 =>
  (∃ a, x = .ref a ∧ (∃ xs, SqL K H1 a xs) ∧ R (Itl K a) H1) ∨ (∃ a, x = .ref a ∧ (∃ xs, SqT K H1 a xs) ∧ R (Itt K a) H1) ∨ ∃ z, x = .str z ∧ R (Its z) H1
theorem pi_any {l : Expr} {tl : TE} (hl : PE X l tl) : PI X tg l (itAny X.K tl) := by
  refine ⟨fun pins s σ H R I q => thn (hl.run pins s σ H _ I q) fun v s1 z => ?_⟩
  obtain ⟨x, H1, I1, r1, z⟩ := z
  rcases z with ⟨a, rfl, ⟨xs, hx⟩, z⟩ | ⟨a, rfl, ⟨xs, hx⟩, z⟩ | ⟨y, rfl, z⟩
  · cases r1
    obtain ⟨its, _, pl, _⟩ := I1.list hx
    exact wpAny_pyIter_list pl.isList (pi_one (tk := s1.toks) I1 _ (turn_list a _) ⟨_, Heap.get?_push_size _ rfl, rfl, rfl⟩ z)
  · cases r1
    obtain ⟨its, _, pl, _⟩ := I1.tuple hx
    exact wpAny_pyIter_tuple pl (pi_one (tk := s1.toks) I1 _ (turn_tuple a _) ⟨_, Heap.get?_push_size _ rfl, rfl, rfl⟩ z)
  · obtain ⟨t, rfl⟩ := r1
    cases hw : y.cps.all (· < 128) with
    | true => exact wpAny_pyIter_ascii hw (pi_one (tk := s1.toks) I1 _ (turn_str _ y t _ (.inl rfl)) ⟨_, Heap.get?_push_size _ rfl, rfl, rfl⟩ z)
    | false => exact wpAny_pyIter_wide hw (pi_one (tk := s1.toks) I1 _ (turn_str _ y t _ (.inr rfl)) ⟨_, Heap.get?_push_size _ rfl, rfl, rfl⟩ z)
def iAny (a : ME) : MI := fun sw => bnd (a sw) fun x h => match x with
  | .ref p => match h[p]? with
    | some (.lst xs) => .ok (.lst p, xs.length) h
    | _ => .no
  | .rol xs => .ok (.rol xs, xs.length) h
  | .tup xs => .ok (.tup xs, xs.length) h
  | .str x => .ok (.str x, x.cps.size) h
  | _ => .no
theorem ri_any {ma : ME} (ha : RE X cm it ma) : RI X cm tg it (iAny ma) := by
  refine piM (pi_any ha) fun σ H R q => ?_
  obtain ⟨ρ, h, sw, src, h', rh, rs, e, k⟩ := q
  obtain ⟨x, h1, e1, e2⟩ := bnd_ok e
  refine ⟨ρ, h, sw, x, h1, rh, rs, e1, fun ρ1 H1 v l1 rh1 rx => ?_⟩
  cases rx with
  | @ref p a hp =>
    obtain ⟨o, ho, ro⟩ := rh1.at (w := .non) hp
    simp only at e2
    rw [ho] at e2
    cases o with
    | lst xs =>
      obtain ⟨vs, ea, rx⟩ := ro
      cases e2
      exact .inl ⟨a, rfl, ⟨vs, .of ea⟩, k ρ1 H1 _ l1 rh1 ⟨a, hp, rfl⟩⟩
    | _ => cases e2
  | rol hq r =>
    cases e2
    exact .inl ⟨_, rfl, ⟨_, hq.sq⟩, k ρ1 H1 _ l1 rh1 ⟨_, _, hq, r, rfl⟩⟩
  | tup hq r =>
    cases e2
    exact .inr (.inl ⟨_, rfl, ⟨_, hq⟩, k ρ1 H1 _ l1 rh1 ⟨_, _, hq, r, rfl⟩⟩)
  | str z =>
    cases e2
    exact .inr (.inr ⟨z, rfl, k ρ1 H1 _ l1 rh1 rfl⟩)
  | _ => cases e2
def big : Int := 4611686018427387904
def iRg1 (a : ME) : MI := fun sw => bnd (a sw) fun x h => match x with
  | .int j => if -big ≤ j ∧ j < big then .ok (.rng 0 j.toNat, j.toNat) h else .no
  | _ => .no
theorem ri_rng1 {a : Expr} {ma : ME} {p : Pos} (hm : X.mg "range" = none) (ha : RE X cm a ma) (hg : Gl X "range" := by rfl) (hs : starEach [a] X.env = [(false, eval a X.env)] := by rfl) (hs' : starEach (a :: []) X.env = (false, eval a X.env) :: starEach [] X.env := by rfl) : RI X cm tg (.Call (.Name "range" p) [a] [] pos) (iRg1 ma) := by
  refine piM (pi_range1 hg hm (ra_cons ha ra_nil hs') hs) fun σ H R q => ?_
  obtain ⟨ρ, h, sw, src, h', rh, rs, e, k⟩ := q
  obtain ⟨x, h1, e1, e2⟩ := bnd_ok e
  refine ⟨ρ, h, sw, [x], h1, rh, rs, ?_, fun ρ1 H1 vs l1 rh1 rx => ?_⟩
  · show bnd (ma sw) _ h = _
    unfold bnd
    rw [e1]
    rfl
  · cases x with
    | int j =>
      cases rx with
      | cons r t =>
        cases r
        cases t
        have e2' : (if -big ≤ j ∧ j < big then EL.R.ok (Src.rng 0 j.toNat, j.toNat) h1 else EL.R.no) = EL.R.ok src h' := e2
        split at e2'
        · rename_i hj
          cases e2'
          exact ⟨j, rfl, hj.1, hj.2, k ρ1 H1 _ l1 rh1 rfl⟩
        · cases e2'
    | _ => cases e2
def iRg2 (a b : ME) : MI := fun sw => bnd (a sw) fun x => bnd (b sw) fun y h => match x, y with
  | .int i, .int j => if (-big ≤ i ∧ i < big) ∧ -big ≤ j ∧ j < big then .ok (.rng i (j - i).toNat, (j - i).toNat) h else .no
  | _, _ => .no
theorem ri_rng2 {a b : Expr} {ma mb : ME} {p : Pos} (hm : X.mg "range" = none) (ha : RE X cm a ma) (hb : RE X cm b mb) (hg : Gl X "range" := by rfl) (hs : starEach [a, b] X.env = [(false, eval a X.env), (false, eval b X.env)] := by rfl) (hs2 : starEach [b] X.env = [(false, eval b X.env)] := by rfl)
    (hs' : starEach (a :: [b]) X.env = (false, eval a X.env) :: starEach [b] X.env := by rfl) (hs'' : starEach (b :: []) X.env = (false, eval b X.env) :: starEach [] X.env := by rfl) : RI X cm tg (.Call (.Name "range" p) [a, b] [] pos) (iRg2 ma mb) := by
  refine piM (pi_range2 hg hm (ra_cons ha (ra_cons hb ra_nil hs'') hs') hs hs2) fun σ H R q => ?_
  obtain ⟨ρ, h, sw, src, h', rh, rs, e, k⟩ := q
  obtain ⟨x, h1, e1, e2⟩ := bnd_ok e
  obtain ⟨y, h2, e3, e4⟩ := bnd_ok e2
  refine ⟨ρ, h, sw, [x, y], h2, rh, rs, ?_, fun ρ1 H1 vs l1 rh1 rx => ?_⟩
  · show bnd (ma sw) (fun x => bnd (bnd (mb sw) _) _) h = _
    simp only [bnd, e1, e3]
    rfl
  · cases x with
    | int i =>
      cases y with
      | int j =>
        cases rx with
        | cons r t =>
          cases r
          cases t with
          | cons r t =>
            cases r
            cases t
            have e2' : (if (-big ≤ i ∧ i < big) ∧ -big ≤ j ∧ j < big then EL.R.ok (Src.rng i (j - i).toNat, (j - i).toNat) h2 else EL.R.no) = EL.R.ok src h' := e4
            split at e2'
            · rename_i hj
              cases e2'
              exact ⟨i, j, rfl, ⟨hj.1.1, hj.1.2, hj.2.1, hj.2.2⟩, k ρ1 H1 _ l1 rh1 rfl⟩
            · cases e2'
      | _ => cases e4
    | _ => cases e4
end
end EL
namespace EL
open PySem PySem.Spec L2
open PyProof.Rows hiding St

/-! ### a def -/
def finF (f : Fl) : M W := match f with
  | .rt w => rtn w
  | .nx _ => rtn .non
  | _ => bad
def mFn (n N : Nat) (m : MS) : List W → M W := fun ws => if ws.length = n then bnd (m (ws.map some ++ List.replicate (N - n) none)) finF else bad
theorem relS_start {K : PySem.W.Frag} {ρ : List Addr} {H : Hp} {ws : List W} {vs : List V} {N : List Str} (r : Rels K ρ H ws vs) : RelS K ρ H (ws.map some ++ List.replicate (N.length - ws.length) none) (L2.start N vs) := by
  unfold L2.start
  rw [← r.length]
  refine ⟨by simp [r.length], fun i w e => ?_⟩
  by_cases hi : i < ws.length
  · rw [List.getElem?_append_left (by simpa using hi), List.getElem?_map] at e
    cases hw : ws[i]? with
    | none => rw [hw] at e; cases e
    | some w' =>
      rw [hw] at e
      cases e
      obtain ⟨v, hv, rv⟩ := r.get hw
      refine ⟨v, ?_, rv⟩
      rw [List.getElem?_append_left (by rw [List.length_map, ← r.length]; exact hi), List.getElem?_map, hv]
      rfl
  · rw [List.getElem?_append_right (by simpa using hi)] at e
    rw [List.getElem?_replicate] at e
    split at e <;> cases e
section
variable {P : Program} {w : World} {K : PySem.W.Frag} {mg : Str → Option Value} {base : Heap}
theorem efn {x qual : Str} {st : Stmt} {f : Addr} {fd : FuncData} {N ps : List Str} {k : Nat} {cm : Cm} {m : MS} (F : Fun K x qual st f fd) (S : FnScope N ps (defScope st))
    (hb : ∀ (cdv : Value) (A : Around) (outer : List Env) (s : Shared) (H : Hp) (E : XK), Room k (A.deeper (envOfC qual (defScope st) s.heap.objs.size f cdv)) → RSs (cxOf CX0 P w K mg base N qual (defScope st) f cdv A outer s H E).nox cm (defBody st) m) :
    FnOk P w K mg base CX0 (k + 1) f fd ps (spM K cm (mFn ps.length N.length m)) := by
  refine F.ok S (fun vs H Q E h => ?_) (fun cdv A outer s H vs Q E hr h => ?_)
  · obtain ⟨ρ, h, ws, w, h', rh, rs, e, k⟩ := h
    unfold mFn at e
    split at e
    · rw [← rs.length]
      assumption
    · cases e
  · refine ⟨_, hb cdv A outer s H E hr, ?_⟩
    obtain ⟨ρ, h, ws, w, h', rh, rs, e, k⟩ := h
    unfold mFn at e
    split at e
    · rename_i hl
      obtain ⟨fl, h1, e1, e2⟩ := bnd_ok e
      refine ⟨ρ, h, _, fl, h1, rh, ?_, e1, ?_⟩
      · have q := relS_start (N := N) rs
        rw [hl] at q
        exact q
      · cases fl with
        | rt w =>
          cases e2
          exact k
        | nx s =>
          cases e2
          exact fun ρ' H' σ' l rh' _ => k ρ' H' .non l rh' .non
        | bk s => cases e2
        | ct s => cases e2
    · cases e
end

/-! ### a comprehension -/
def wipeW (σ : SW) : List Nat → SW
  | [] => σ
  | v :: vs => (wipeW σ vs).set v none
theorem wipeW_get {sw : SW} {i : Nat} {w : W} : ∀ {vs : List Nat}, (wipeW sw vs)[i]? = some (some w) → sw[i]? = some (some w) ∧ i ∉ vs
  | [], h => ⟨h, by simp⟩
  | v :: vs, h => by
    unfold wipeW at h
    by_cases e : v = i
    · subst e
      rw [List.getElem?_set] at h
      rw [if_pos rfl] at h
      split at h <;> cases h
    · rw [List.getElem?_set_ne e] at h
      obtain ⟨h1, h2⟩ := wipeW_get h
      refine ⟨h1, fun z => ?_⟩
      rcases List.mem_cons.mp z with z | z
      · exact e z.symm
      · exact h2 z
theorem wipeW_len (sw : SW) : ∀ vs : List Nat, (wipeW sw vs).length = sw.length
  | [] => rfl
  | v :: vs => by
    unfold wipeW
    rw [List.length_set]
    exact wipeW_len sw vs
theorem relS_wipe {K : PySem.W.Frag} {ρ : List Addr} {H : Hp} {sw : SW} {σ : St} (r : RelS K ρ H sw σ) (vs : List Nat) : RelS K ρ H (wipeW sw vs) (wipe σ vs) := by
  refine ⟨by rw [wipeW_len, wipe_length]; exact r.1, fun i w e => ?_⟩
  obtain ⟨h1, h2⟩ := wipeW_get e
  obtain ⟨v, hv, rv⟩ := r.2 i w h1
  exact ⟨v, by rw [wipe_out h2]; exact hv, rv⟩
theorem wipe_in {σ : St} {i : Nat} (hi : i < σ.length) : ∀ {vs : List Nat}, i ∈ vs → (wipe σ vs)[i]? = some none
  | [], h => by cases h
  | v :: vs, h => by
    unfold wipe
    by_cases e : v = i
    · subst e
      rw [List.getElem?_set, if_pos rfl, if_pos (by rw [wipe_length]; exact hi)]
    · rw [List.getElem?_set_ne e]
      refine wipe_in hi ?_
      rcases List.mem_cons.mp h with z | z
      · exact absurd z.symm e
      · exact z
theorem wipe_ext {σ σ' : St} {vs : List Nat} (b : But vs (wipe σ vs) σ') : wipe σ' vs = wipe σ vs := by
  have hl : σ'.length = σ.length := b.1.trans (wipe_length σ vs)
  refine List.ext_getElem? fun i => ?_
  by_cases hi : i ∈ vs
  · by_cases hlt : i < σ.length
    · rw [wipe_in (by rw [hl]; exact hlt) hi, wipe_in hlt hi]
    · rw [List.getElem?_eq_none (by rw [wipe_length, hl]; omega), List.getElem?_eq_none (by rw [wipe_length]; omega)]
  · rw [wipe_out hi, b.2 i hi]
def app (d y : W) : M Unit := fun h => match d with
  | .ref p => match h[p]? with
    | some (.lst acc) => if acc.length < lim then .ok () (h.set p (.lst (acc ++ [y]))) else .no
    | _ => .no
  | _ => .no
def lcGo (src : Src) (g : MG) (t : MT) (e : ME) (vs : List Nat) (d : W) (sw : SW) : Nat → Nat → M Unit
  | _, 0 => bad
  | i, n + 1 => fun h => match src.item i h with
    | none => .no
    | some none => .ok () h
    | some (some x) => bnd (g x (wipeW sw vs)) (fun s => bnd (t s) fun b => if b = true then bnd (e s) (fun y => bnd (app d y) fun _ => lcGo src g t e vs d sw (i + 1) n) else lcGo src g t e vs d sw (i + 1) n) h
def mLc (mi : MI) (g : MG) (t : MT) (e : ME) (vs : List Nat) : ME := fun sw => bnd (mi sw) fun src => bnd (alloc (.lst [])) fun d => bnd (lcGo src.1 g t e vs d sw 0 (src.2 + 1)) fun _ => rtn d
def tYs : MT := fun _ => rtn true
theorem app_ok {K : PySem.W.Frag} {cm : Cm} {ρ : List Addr} {h h' : Hw} {H : Hp} {p : Nat} {D : Addr} {y : W} {v : V} (rh : RelH K cm ρ h H) (hp : ρ[p]? = some D) (rv : Rel K ρ H y v) (e : app (.ref p) y h = .ok () h') :
    ∃ acc, H D = some (.lst acc) ∧ acc.length < sizeLine ∧ RelH K cm ρ h' (upd H D (.lst (acc ++ [v]))) ∧ Le K ρ H ρ (upd H D (.lst (acc ++ [v]))) := by
  have e' : (match h[p]? with
    | some (.lst acc) => if acc.length < lim then EL.R.ok () (h.set p (.lst (acc ++ [y]))) else EL.R.no
    | _ => .no) = .ok () h' := e
  obtain ⟨o, ho, ro⟩ := rh.at (w := .non) hp
  rw [ho] at e'
  cases o with
  | lst xs =>
    obtain ⟨vs, ea, rx⟩ := ro
    simp only at e'
    split at e'
    · rename_i hl
      cases e'
      have lu : Le K ρ H ρ (upd H D (.lst (vs ++ [v]))) := le_mut ea trivial
      refine ⟨vs, ea, by rw [← rx.length, ← lim_eq]; exact hl, rh.set hp ea trivial ⟨_, upd_same, ?_⟩, lu⟩
      exact (rx.append (.cons rv .nil)).mono lu
    · cases e'
  | _ => cases e'
section
variable {X : Cx} {cm : Cm} {elt tg it : Expr} {ifs : List Expr} {scope : Scope} {own : List (Str × Nat)} {pos spos : Pos} {mi : MI} {g : MG} {t : MT} {me : ME}
theorem lc_tE {σ : St} {H : Hp} {Q : VK} {vs : List Nat} {G : TG} {T : TT} {E : TE} (q : tE X.K cm (mLc mi g t me vs) σ H Q)
    (hG : ∀ v σ H Q, tG X.K cm vs g v σ H Q → G v σ H Q) (hT : ∀ σ H Q, tT X.K cm t σ H Q → T σ H Q) (hE : ∀ σ H Q, tE X.K cm me σ H Q → E σ H Q) : tLc (tI X.K cm mi) G T E vs σ H Q := by
  obtain ⟨ρ, h, sw, w, h', rh, rs, e, k⟩ := q
  obtain ⟨src, h1, e1, e2⟩ := bnd_ok e
  obtain ⟨d, h2, e3, e4⟩ := bnd_ok e2
  obtain ⟨u, h3, e5, e6⟩ := bnd_ok e4
  cases e6
  cases e3
  refine ⟨ρ, h, sw, src, h1, rh, rs, e1, fun ρ1 H1 J l1 rh1 rj => ?_⟩
  intro D hD
  have l2 : Le X.K ρ1 H1 (ρ1 ++ [D]) (upd H1 D (.lst [])) := (le_new hD).trans (le_app D)
  have rh2 : RelH X.K cm (ρ1 ++ [D]) (h1 ++ [.lst []]) (upd H1 D (.lst [])) := rh1.push hD ⟨[], upd_same, .nil⟩
  refine ⟨fun i n H3 => ∃ ρ3 h3, Le X.K ρ H ρ3 H3 ∧ Le X.K (ρ1 ++ [D]) (upd H1 D (.lst [])) ρ3 H3 ∧ RelH X.K cm ρ3 h3 H3 ∧ SrcR X.K ρ3 H3 src.1 J ∧ lcGo src.1 g t me vs (.ref h1.length) sw i n h3 = .ok u h', ⟨_, ρ1 ++ [D], _, l1.trans l2, .refl, rh2, rj.mono l2, e5⟩, fun i n H3 w => ?_⟩
  obtain ⟨ρ3, h3, l3, m3, rh3, rj3, e7⟩ := w
  have hp : ρ3[h1.length]? = some D := pre_get m3.pre (push_at rh1)
  cases n with
  | zero => cases e7
  | succ n =>
    have e7' : (match src.1.item i h3 with
      | none => (EL.R.no : EL.R Unit)
      | some none => .ok () h3
      | some (some x) => bnd (g x (wipeW sw vs)) (fun s => bnd (t s) fun b => if b = true then bnd (me s) (fun y => bnd (app (.ref h1.length) y) fun _ => lcGo src.1 g t me vs (.ref h1.length) sw (i + 1) n) else lcGo src.1 g t me vs (.ref h1.length) sw (i + 1) n) h3) = .ok u h' := e7
    split at e7'
    · cases e7'
    · rename_i he
      cases e7'
      exact .inl ⟨src_stop rh3 rj3 he, k ρ3 H3 _ l3 rh3 (.ref hp)⟩
    · rename_i x he
      obtain ⟨s2, h4, e8, e9⟩ := bnd_ok e7'
      obtain ⟨b, h5, e10, e11⟩ := bnd_ok e9
      obtain ⟨go, yl⟩ := src_go rh3 rj3 he
      refine .inr ⟨go, fun H6 => ∃ ρ6 h6, Le X.K ρ H ρ6 H6 ∧ Le X.K (ρ1 ++ [D]) (upd H1 D (.lst [])) ρ6 H6 ∧ RelH X.K cm ρ6 h6 H6 ∧ SrcR X.K ρ6 H6 src.1 J ∧ lcGo src.1 g t me vs (.ref h1.length) sw (i + 1) n h6 = .ok u h', fun H6 z => ⟨n, Nat.lt_succ_self n, z⟩, fun v H6 y => ?_⟩
      obtain ⟨ly, rhy, rv⟩ := yl v H6 y
      have l3 := l3.trans ly
      have m3 := m3.trans ly
      have rj3 := rj3.mono ly
      refine hG _ _ _ _ ⟨ρ3, h3, _, x, s2, h4, rhy, relS_wipe (rs.mono l3) vs, rv, e8, fun ρ4 H4 σ4 b4 l4 rh4 rs4 => ⟨wipe_ext b4, ?_⟩⟩
      refine hT _ _ _ ⟨ρ4, h4, s2, b, h5, rh4, rs4, e10, fun ρ5 H5 l5 rh5 => ?_⟩
      have l45 := l4.trans l5
      cases b with
      | false => exact iteF ⟨ρ5, h5, l3.trans l45, m3.trans l45, rh5, rj3.mono l45, e11⟩
      | true =>
        obtain ⟨yw, h6, e12, e13⟩ := bnd_ok e11
        obtain ⟨u2, h7, e14, e15⟩ := bnd_ok e13
        refine iteT (hE _ _ _ ⟨ρ5, h5, s2, yw, h6, rh5, rs4.mono l5, e12, fun ρ6 H6 v6 l6 rh6 rv6 => ?_⟩)
        have l46 := l45.trans l6
        obtain ⟨acc, ea, hl, rh7, l7⟩ := app_ok rh6 (pre_get l46.pre hp) rv6 e14
        have l47 := l46.trans l7
        exact ⟨acc, ea, hl, ρ6, h7, l3.trans l47, m3.trans l47, rh7, rj3.mono l47, e15⟩
theorem re_lc (own : List (Str × Nat)) (hc : X.calm = true) (hN : X.N.Nodup) (hi : RI X cm tg it mi) {N0 : List Str} {sc0 : Scope} (ok : blkC N0 sc0 scope own = true)
    (hg : ∀ (s : Shared) (H : Hp) (C : Addr) (cl : List (Str × Addr)) (fp : List Addr), RG (X.blk s H scope (compEnvC scope cl C X.env) fp) cm (own.map (·.2)) tg g)
    (he : ∀ (s : Shared) (H : Hp) (C : Addr) (cl : List (Str × Addr)) (fp : List Addr), RE (X.blk s H scope (compEnvC scope cl C X.env) fp) cm elt me) (hs : ∀ x, foldedSetIterable it X.env x = pure x := by intro _; rfl) (eN : N0 = X.N := by rfl) (eS : sc0 = X.env.scope := by rfl) :
    RE X cm (.ListComp elt [⟨tg, it, [], 0⟩] scope pos) (mLc mi g tYs me (own.map (·.2))) :=
  peM (pe_lc (own := own) hc hN hi (by rw [← eN, ← eS]; exact blkOk_by ok) hg (fun _ _ _ _ _ => pts_nil) he hs) fun σ H Q q => lc_tE q (fun _ _ _ _ z => z) (fun _ _ _ z => by
    obtain ⟨ρ, h, sw, b, h', rh, rs, e, k⟩ := z
    cases e
    exact k ρ _ .refl rh) (fun _ _ _ z => z)
theorem re_lc1 {c : Expr} (own : List (Str × Nat)) (hc : X.calm = true) (hN : X.N.Nodup) (hi : RI X cm tg it mi) {N0 : List Str} {sc0 : Scope} (ok : blkC N0 sc0 scope own = true)
    (hg : ∀ (s : Shared) (H : Hp) (C : Addr) (cl : List (Str × Addr)) (fp : List Addr), RG (X.blk s H scope (compEnvC scope cl C X.env) fp) cm (own.map (·.2)) tg g)
    (ht : ∀ (s : Shared) (H : Hp) (C : Addr) (cl : List (Str × Addr)) (fp : List Addr), RT (X.blk s H scope (compEnvC scope cl C X.env) fp) cm c t)
    (he : ∀ (s : Shared) (H : Hp) (C : Addr) (cl : List (Str × Addr)) (fp : List Addr), RE (X.blk s H scope (compEnvC scope cl C X.env) fp) cm elt me) (hs : ∀ x, foldedSetIterable it X.env x = pure x := by intro _; rfl) (eN : N0 = X.N := by rfl) (eS : sc0 = X.env.scope := by rfl) :
    RE X cm (.ListComp elt [⟨tg, it, [c], 0⟩] scope pos) (mLc mi g t me (own.map (·.2))) :=
  peM (pe_lc (own := own) hc hN hi (by rw [← eN, ← eS]; exact blkOk_by ok) hg (fun _ _ _ _ _ => pts_one (ht _ _ _ _ _)) he hs) fun σ H Q q => lc_tE q (fun _ _ _ _ z => z) (fun _ _ _ z => z) (fun _ _ _ z => z)
/-- name = [..] -/
theorem rs_setLc {i : Nat} {y : Str} {py : Pos} (own : List (Str × Nat)) (hc : X.calm = true) (hN : X.N.Nodup) (hi : RI X cm tg it mi) {N0 : List Str} {sc0 : Scope} (ok : blkC N0 sc0 scope own = true)
    (hg : ∀ (s : Shared) (H : Hp) (C : Addr) (cl : List (Str × Addr)) (fp : List Addr), RG (X.blk s H scope (compEnvC scope cl C X.env) fp) cm (own.map (·.2)) tg g)
    (he : ∀ (s : Shared) (H : Hp) (C : Addr) (cl : List (Str × Addr)) (fp : List Addr), RE (X.blk s H scope (compEnvC scope cl C X.env) fp) cm elt me)
    (hy : X.N[i]? = some y := by rfl) (hyl : X.env.scope.names.lookup y = some .local := by rfl) (hsw : swapsWith (.ListComp elt [⟨tg, it, [], 0⟩] scope pos) (some (.Name y py)) spos.line X.env = pure true := by exact sw_true rfl rfl rfl (by decide +kernel)) (hs : ∀ x, foldedSetIterable it X.env x = pure x := by intro _; rfl) (eN : N0 = X.N := by rfl) (eS : sc0 = X.env.scope := by rfl) :
    RS X cm (.Assign [.Name y py] (.ListComp elt [⟨tg, it, [], 0⟩] scope pos) spos) (sAsg (gNm i) (mLc mi g tYs me (own.map (·.2)))) := by
  refine psM (ps_setLc (own := own) (te := tE X.K cm me) (g := tG X.K cm (own.map (·.2)) g) hc hN hy hyl hsw hi (by rw [← eN, ← eS]; exact blkOk_by ok) hg (fun _ _ _ _ _ => pts_nil) he hs) fun D σ H q => ?_
  obtain ⟨ρ, h, sw, f, h', rh, rs, e, k⟩ := q
  obtain ⟨x, h1, e1, e2⟩ := bnd_ok e
  obtain ⟨s, h2, e3, e4⟩ := bnd_ok e2
  cases e4
  cases e3
  refine lc_tE (g := g) (t := tYs) (me := me) ⟨ρ, h, sw, x, h', rh, rs, e1, fun ρ1 H1 v l1 rh1 rv => ?_⟩ (fun _ _ _ _ z => z) (fun _ _ _ z => by
    obtain ⟨ρ, h, sw, b, h', rh, rs, e, k⟩ := z
    cases e
    exact k ρ _ .refl rh) (fun _ _ _ z => z)
  exact k ρ1 H1 _ l1 rh1 ((rs.mono l1).set rv i)
theorem rs_setLc1 {c : Expr} {i : Nat} {y : Str} {py : Pos} (own : List (Str × Nat)) (hc : X.calm = true) (hN : X.N.Nodup) (hi : RI X cm tg it mi) {N0 : List Str} {sc0 : Scope} (ok : blkC N0 sc0 scope own = true)
    (hg : ∀ (s : Shared) (H : Hp) (C : Addr) (cl : List (Str × Addr)) (fp : List Addr), RG (X.blk s H scope (compEnvC scope cl C X.env) fp) cm (own.map (·.2)) tg g)
    (ht : ∀ (s : Shared) (H : Hp) (C : Addr) (cl : List (Str × Addr)) (fp : List Addr), RT (X.blk s H scope (compEnvC scope cl C X.env) fp) cm c t)
    (he : ∀ (s : Shared) (H : Hp) (C : Addr) (cl : List (Str × Addr)) (fp : List Addr), RE (X.blk s H scope (compEnvC scope cl C X.env) fp) cm elt me)
    (hy : X.N[i]? = some y := by rfl) (hyl : X.env.scope.names.lookup y = some .local := by rfl) (hsw : swapsWith (.ListComp elt [⟨tg, it, [c], 0⟩] scope pos) (some (.Name y py)) spos.line X.env = pure true := by exact sw_true rfl rfl rfl (by decide +kernel)) (hs : ∀ x, foldedSetIterable it X.env x = pure x := by intro _; rfl) (eN : N0 = X.N := by rfl) (eS : sc0 = X.env.scope := by rfl) :
    RS X cm (.Assign [.Name y py] (.ListComp elt [⟨tg, it, [c], 0⟩] scope pos) spos) (sAsg (gNm i) (mLc mi g t me (own.map (·.2)))) := by
  refine psM (ps_setLc (own := own) (te := tE X.K cm me) (g := tG X.K cm (own.map (·.2)) g) (tt := tT X.K cm t) hc hN hy hyl hsw hi (by rw [← eN, ← eS]; exact blkOk_by ok) hg (fun _ _ _ _ _ => pts_one (ht _ _ _ _ _)) he hs) fun D σ H q => ?_
  obtain ⟨ρ, h, sw, f, h', rh, rs, e, k⟩ := q
  obtain ⟨x, h1, e1, e2⟩ := bnd_ok e
  obtain ⟨s, h2, e3, e4⟩ := bnd_ok e2
  cases e4
  cases e3
  refine lc_tE (g := g) (t := t) (me := me) ⟨ρ, h, sw, x, h', rh, rs, e1, fun ρ1 H1 v l1 rh1 rv => ?_⟩ (fun _ _ _ _ z => z) (fun _ _ _ z => z) (fun _ _ _ z => z)
  exact k ρ1 H1 _ l1 rh1 ((rs.mono l1).set rv i)
end
end EL
namespace EL
open PySem PySem.Spec L2
open PyProof.Rows hiding St

section
variable {K : PySem.W.Frag} {cm : Cm} {ρ : List Addr} {h h' : Hw} {H : Hp}
/-- a value that leaves the heap as it is -/
theorem KE.at {w : W} {v : V} {Q : VK} (k : KE K cm ρ H w h Q) (rh : RelH K cm ρ h H) (r : Rel K ρ H w v) : Q v H := k ρ H v .refl rh r
/-- a list's items by its place -/
theorem RelH.lst {p : Nat} {a : Addr} {xs : List W} (rh : RelH K cm ρ h H) (hp : ρ[p]? = some a) (e : h[p]? = some (.lst xs)) : ∃ vs, H a = some (.lst vs) ∧ Rels K ρ H xs vs := rh.obj p _ a e hp
end
/-- the items of a list, at a place or standing fast -/
def items (h : Hw) (x : W) : Option (List W) := match x with
  | .ref p => match h[p]? with
    | some (.lst xs) => some xs
    | _ => none
  | .rol xs => some xs
  | _ => none
theorem items_of {K : PySem.W.Frag} {cm : Cm} {ρ : List Addr} {h : Hw} {H : Hp} {x : W} {v : V} {xs : List W} (rh : RelH K cm ρ h H) (r : Rel K ρ H x v) (e : items h x = some xs) :
    ∃ a vs, v = .ref a ∧ SqL K H a vs ∧ Rels K ρ H xs vs := by
  cases r with
  | @ref p a hp =>
    have e' : (match h[p]? with
      | some (.lst xs) => some xs
      | _ => none) = some xs := e
    split at e'
    · rename_i ys hy
      cases e'
      obtain ⟨vs, ea, rx⟩ := rh.lst hp hy
      exact ⟨a, vs, rfl, .of ea, rx⟩
    · cases e'
  | rol hq r =>
    cases e
    exact ⟨_, _, rfl, hq.sq, r⟩
  | _ => cases e

/-! ### arithmetic -/
def mulOk (i j : Int) : Bool := decide (i.natAbs.log2 + j.natAbs.log2 < 1000000) || (decide (-18446744073709551616 < i) && decide (i < 18446744073709551616)) || (decide (-18446744073709551616 < j) && decide (j < 18446744073709551616))
def fAdd : W → W → M W
  | .int i, .int j => rtn (.int (i + j))
  | .str x, .str y => if x.length + y.length ≤ lim then rtn (.str (x ++ y)) else bad
  | .ref p, .ref q => fun h => match h[p]?, h[q]? with
    | some (.lst xs), some (.lst ys) => if xs.length + ys.length ≤ lim then alloc (.lst (xs ++ ys)) h else .no
    | _, _ => .no
  | .tup xs, .tup ys => if xs.isEmpty = false ∧ xs.length + ys.length ≤ lim then rtn (.tup (xs ++ ys)) else bad
  | _, _ => bad
def fSub : W → W → M W
  | .int i, .int j => rtn (.int (i - j))
  | _, _ => bad
def fMul : W → W → M W
  | .int i, .int j => if mulOk i j = true then rtn (.int (i * j)) else bad
  | _, _ => bad
def fDiv : W → W → M W
  | .int i, .int j => if 0 < j ∧ j.natAbs.log2 < 9000 then rtn (.int (i / j)) else bad
  | _, _ => bad
def fMod : W → W → M W
  | .int i, .int j => if 0 < j then rtn (.int (i % j)) else bad
  | _, _ => bad
def fPow : W → W → M W
  | .int i, .int j => if (0 ≤ j ∧ j ≤ 1000000) ∧ i.natAbs < 18446744073709551616 then rtn (.int (i ^ j.toNat)) else bad
  | _, _ => bad
section
variable {X : Cx} {cm : Cm}
theorem oAdd : OpR X (binaryOp .Add) (fun x y H Q => rI0 (fun i j => .int (i + j)) x y H Q ∨ (∃ i j, x = .str i ∧ y = .str j ∧ i.length + j.length ≤ sizeLine ∧ Q (.str (i ++ j)) H) ∨ rCat x y H Q ∨ rCatT X.K x y H Q) := op_add.or (op_add_str.or (op_cat.or op_catT))
theorem wAdd : OpW X.K cm (fun x y H Q => rI0 (fun i j => .int (i + j)) x y H Q ∨ (∃ i j, x = .str i ∧ y = .str j ∧ i.length + j.length ≤ sizeLine ∧ Q (.str (i ++ j)) H) ∨ rCat x y H Q ∨ rCatT X.K x y H Q) fAdd := by
  intro ρ h H x y x' y' z h' Q rh rx ry e k
  cases rx with
  | int i =>
    cases ry with
    | int j => cases e; exact .inl ⟨i, j, rfl, rfl, k.at rh (.int _)⟩
    | _ => cases e
  | str i =>
    cases ry with
    | str j =>
      have e' : (if i.length + j.length ≤ lim then rtn (W.str (i ++ j)) else bad) h = .ok z h' := e
      split at e'
      · rename_i hl
        cases e'
        exact .inr (.inl ⟨i, j, rfl, rfl, by rw [← lim_eq]; exact hl, k.at rh (.str _)⟩)
      · cases e'
    | _ => cases e
  | @ref p a hp =>
    cases ry with
    | @ref q b hq =>
      have e' : (match h[p]?, h[q]? with
        | some (.lst xs), some (.lst ys) => if xs.length + ys.length ≤ lim then alloc (.lst (xs ++ ys)) h else EL.R.no
        | _, _ => EL.R.no) = .ok z h' := e
      split at e'
      · rename_i xs ys h1 h2
        obtain ⟨vs, ea, r1⟩ := rh.lst hp h1
        obtain ⟨us, eb, r2⟩ := rh.lst hq h2
        split at e'
        · rename_i hl
          cases e'
          exact .inr (.inr (.inl ⟨a, b, vs, us, rfl, rfl, ea, eb, by rw [← r1.length, ← r2.length, ← lim_eq]; exact hl, fun p' hp' => new_lst rh (r1.append r2) hp' k⟩))
        · cases e'
      · cases e'
    | _ => cases e
  | @tup ws vs a hq r1 =>
    cases ry with
    | @tup us ts b hq2 r2 =>
      have e' : (if ws.isEmpty = false ∧ ws.length + us.length ≤ lim then rtn (W.tup (ws ++ us)) else bad) h = .ok z h' := e
      split at e'
      · rename_i hl
        cases e'
        refine .inr (.inr (.inr ⟨a, b, vs, ts, rfl, rfl, hq, hq2, fun z => ?_, by rw [← r1.length, ← r2.length, ← lim_eq]; exact hl.2, fun z => ?_, fun _ p hp => ?_⟩))
        · subst z
          cases r1
          simp at hl
        · subst z
          cases r2
          refine k.at rh (.tup hq ?_)
          rw [List.append_nil]
          exact r1
        · exact new_tup rh (r1.append r2) hp k
      · cases e'
    | _ => cases e
  | _ => cases e
theorem wInt {g : Int → Int → W} {gv : Int → Int → V} {f : W → W → M W} (hg : ∀ ρ H i j, Rel X.K ρ H (g i j) (gv i j)) (hf : ∀ x y h z h', f x y h = .ok z h' → ∃ i j, x = .int i ∧ y = .int j ∧ z = g i j ∧ h' = h) : OpW X.K cm (rI0 gv) f := by
  intro ρ h H x y x' y' z h' Q rh rx ry e k
  obtain ⟨i, j, rfl, rfl, rfl, rfl⟩ := hf _ _ _ _ _ e
  cases rx
  cases ry
  exact ⟨i, j, rfl, rfl, k.at rh (hg ρ H i j)⟩
theorem wIntC {C : Int → Int → Prop} {g : Int → Int → W} {gv : Int → Int → V} {f : W → W → M W} (hg : ∀ ρ H i j, Rel X.K ρ H (g i j) (gv i j)) (hf : ∀ x y h z h', f x y h = .ok z h' → ∃ i j, x = .int i ∧ y = .int j ∧ C i j ∧ z = g i j ∧ h' = h) : OpW X.K cm (rI C gv) f := by
  intro ρ h H x y x' y' z h' Q rh rx ry e k
  obtain ⟨i, j, rfl, rfl, c, rfl, rfl⟩ := hf _ _ _ _ _ e
  cases rx
  cases ry
  exact ⟨i, j, rfl, rfl, c, k.at rh (hg ρ H i j)⟩
theorem wSub : OpW X.K cm (rI0 fun i j => .int (i - j)) fSub := wInt (g := fun i j => .int (i - j)) (fun _ _ _ _ => .int _) fun x y h z h' e => by
  cases x <;> cases y <;> cases e
  exact ⟨_, _, rfl, rfl, rfl, rfl⟩
theorem oMul : OpR X (binaryOp .Mult) (fun x y H Q => rI CMulW (fun i j => .int (i * j)) x y H Q ∨ rI CMul (fun i j => .int (i * j)) x y H Q) := op_mulW.or op_mul
theorem wMul : OpW X.K cm (fun x y H Q => rI CMulW (fun i j => .int (i * j)) x y H Q ∨ rI CMul (fun i j => .int (i * j)) x y H Q) fMul := by
  intro ρ h H x y x' y' z h' Q rh rx ry e k
  cases rx with
  | int i =>
    cases ry with
    | int j =>
      have e' : (if mulOk i j = true then rtn (W.int (i * j)) else bad) h = .ok z h' := e
      split at e'
      · rename_i hl
        cases e'
        have q := k.at rh (.int (i * j))
        unfold mulOk at hl
        simp only [Bool.or_eq_true, Bool.and_eq_true, decide_eq_true_eq] at hl
        rcases hl with (hl | hl) | hl
        · exact .inl ⟨i, j, rfl, rfl, hl, q⟩
        · exact .inr ⟨i, j, rfl, rfl, .inl ⟨by omega, by omega⟩, q⟩
        · exact .inr ⟨i, j, rfl, rfl, .inr ⟨by omega, by omega⟩, q⟩
      · cases e'
    | _ => cases e
  | _ => cases ry <;> cases e
theorem wDiv : OpW X.K cm (rI CDivW fun i j => .int (i / j)) fDiv := wIntC (g := fun i j => .int (i / j)) (fun _ _ _ _ => .int _) fun x y h z h' e => by
  cases x <;> cases y <;> first | cases e | skip
  rename_i i j
  have e' : (if 0 < j ∧ j.natAbs.log2 < 9000 then rtn (W.int (i / j)) else bad) h = .ok z h' := e
  split at e'
  · rename_i hl
    cases e'
    exact ⟨_, _, rfl, rfl, hl, rfl, rfl⟩
  · cases e'
theorem wMod : OpW X.K cm (rI (fun _ j => 0 < j) fun i j => .int (i % j)) fMod := wIntC (g := fun i j => .int (i % j)) (fun _ _ _ _ => .int _) fun x y h z h' e => by
  cases x <;> cases y <;> first | cases e | skip
  rename_i i j
  have e' : (if 0 < j then rtn (W.int (i % j)) else bad) h = .ok z h' := e
  split at e'
  · rename_i hl
    cases e'
    exact ⟨_, _, rfl, rfl, hl, rfl, rfl⟩
  · cases e'
theorem wPow : OpW X.K cm (rI CPow fun i j => .int (i ^ j.toNat)) fPow := wIntC (g := fun i j => .int (i ^ j.toNat)) (fun _ _ _ _ => .int _) fun x y h z h' e => by
  cases x <;> cases y <;> first | cases e | skip
  rename_i i j
  have e' : (if (0 ≤ j ∧ j ≤ 1000000) ∧ i.natAbs < 18446744073709551616 then rtn (W.int (i ^ j.toNat)) else bad) h = .ok z h' := e
  split at e'
  · rename_i hl
    cases e'
    exact ⟨_, _, rfl, rfl, ⟨hl.1.1, hl.1.2, by omega⟩, rfl, rfl⟩
  · cases e'
end

def fNeg : W → M W
  | .int i => rtn (.int (-i))
  | _ => bad
section
variable {X : Cx} {cm : Cm}
theorem re_neg {a : Expr} {ma : ME} {pos : Pos} (ha : RE X cm a ma) : RE X cm (.UnaryOp .USub a pos) (mUn fNeg ma) := by
  refine peM (pe_un un_neg ha) fun σ H Q q => ?_
  obtain ⟨ρ, h, sw, w, h', rh, rs, e, k⟩ := q
  obtain ⟨x, h1, e1, e2⟩ := bnd_ok e
  refine ⟨ρ, h, sw, x, h1, rh, rs, e1, fun ρ1 H1 v l1 rh1 rx => ?_⟩
  cases rx with
  | int i =>
    cases e2
    exact ⟨i, rfl, k ρ1 H1 _ l1 rh1 (.int _)⟩
  | _ => cases e2
theorem hu65 {k : Nat} {A : Around} (r : Room k A) : A.units + 65 < cLine := by
  have := r.un
  omega
end
/-! ### comparisons -/
def fCmp (pi : Int → Int → Bool) (ps : List Nat → List Nat → Bool) : W → W → M W
  | .int i, .int j => rtn (.bl (pi i j))
  | .str x, .str y => rtn (.bl (ps x.cps.toList y.cps.toList))
  | _, _ => bad
def fLt := fCmp (fun i j => decide (i < j)) (fun x y => decide (x < y))
def fLe := fCmp (fun i j => decide (i ≤ j)) (fun x y => !decide (y < x))
def fGt := fCmp (fun i j => decide (j < i)) (fun x y => decide (y < x))
def fGe := fCmp (fun i j => decide (j ≤ i)) (fun x y => !decide (x < y))
def rCmp (pi : Int → Int → Bool) (ps : List Nat → List Nat → Bool) : R2 := fun x y H Q => rI0 (fun i j => .bl (pi i j)) x y H Q ∨ ∃ i j : Str, x = .str i ∧ y = .str j ∧ Q (.bl (ps i.cps.toList j.cps.toList)) H
section
variable {X : Cx} {cm : Cm}
theorem wCmp {pi : Int → Int → Bool} {ps : List Nat → List Nat → Bool} : OpW X.K cm (rCmp pi ps) (fCmp pi ps) := by
  intro ρ h H x y x' y' z h' Q rh rx ry e k
  cases rx with
  | int i =>
    cases ry with
    | int j => cases e; exact .inl ⟨i, j, rfl, rfl, k.at rh (.bl _)⟩
    | _ => cases e
  | str i =>
    cases ry with
    | str j => cases e; exact .inr ⟨i, j, rfl, rfl, k.at rh (.bl _)⟩
    | _ => cases e
  | _ => cases ry <;> cases e
theorem oLt : OpR X (compareOp .Lt) (rCmp (fun i j => decide (i < j)) (fun x y => decide (x < y))) := op_lt.or op_lt_str
theorem oLe : OpR X (compareOp .LtE) (rCmp (fun i j => decide (i ≤ j)) (fun x y => !decide (y < x))) := op_le.or op_le_str
theorem oGt : OpR X (compareOp .Gt) (rCmp (fun i j => decide (j < i)) (fun x y => decide (y < x))) := op_gt.or op_gt_str
theorem oGe : OpR X (compareOp .GtE) (rCmp (fun i j => decide (j ≤ i)) (fun x y => !decide (x < y))) := op_ge.or op_ge_str
end
/-- is, is not: None and truths -/
def fIs (neg : Bool) : W → W → M W
  | .bl a, .bl b => rtn (.bl (neg != decide (a = b)))
  | x, .non => match x with
    | .non => rtn (.bl (!neg))
    | _ => rtn (.bl neg)
  | _, _ => bad
section
variable {X : Cx} {cm : Cm}
theorem oIs : OpR X (compareOp .Is) (fun x y H Q => rIsB x y H Q ∨ (y = .non ∧ Q (.bl (decide (x = .non))) H)) := op_isBl.or op_isN
theorem oIsN : OpR X (compareOp .IsNot) (fun x y H Q => rNotB x y H Q ∨ (y = .non ∧ Q (.bl (!decide (x = .non))) H)) := op_notBl.or op_notN
theorem wIs : OpW X.K cm (fun x y H Q => rIsB x y H Q ∨ (y = .non ∧ Q (.bl (decide (x = .non))) H)) (fIs false) := by
  intro ρ h H x y x' y' z h' Q rh rx ry e k
  cases ry with
  | bl b =>
    cases rx with
    | bl a =>
      cases e
      refine .inl ⟨a, b, rfl, rfl, ?_⟩
      have q := k.at rh (.bl _)
      simpa using q
    | _ => cases e
  | non =>
    refine .inr ⟨rfl, ?_⟩
    cases rx <;> (cases e; exact k.at rh (.bl _))
  | _ => cases rx <;> cases e
theorem wIsN : OpW X.K cm (fun x y H Q => rNotB x y H Q ∨ (y = .non ∧ Q (.bl (!decide (x = .non))) H)) (fIs true) := by
  intro ρ h H x y x' y' z h' Q rh rx ry e k
  cases ry with
  | bl b =>
    cases rx with
    | bl a =>
      cases e
      refine .inl ⟨a, b, rfl, rfl, ?_⟩
      have q := k.at rh (.bl _)
      simpa using q
    | _ => cases e
  | non =>
    refine .inr ⟨rfl, ?_⟩
    cases rx <;> (cases e; exact k.at rh (.bl _))
  | _ => cases rx <;> cases e
end

/-! ### data: == and in -/
def mapO {α β : Type} (f : α → Option β) : List α → Option (List β)
  | [] => some []
  | x :: xs => match f x, mapO f xs with
    | some y, some ys => some (y :: ys)
    | _, _ => none
def toD (h : Hw) : Nat → W → Option PyData
  | _, .non => some .none
  | _, .bl b => some (.bool b)
  | _, .int i => some (.int i)
  | _, .str x => some (.str x)
  | n + 1, .tup ws => (mapO (toD h n) ws).map .tuple
  | n + 1, .rol ws => (mapO (toD h n) ws).map .list
  | n + 1, .ref p => match h[p]? with
    | some (.lst xs) => (mapO (toD h n) xs).map .list
    | _ => none
  | 0, _ => none
theorem map_dp {K : PySem.W.Frag} {ρ : List Addr} {H : Hp} {f : W → Option PyData} (hf : ∀ w v d, Rel K ρ H w v → f w = some d → Dp K H v d) : ∀ {ws : List W} {vs : List V} {ds : List PyData}, Rels K ρ H ws vs → mapO f ws = some ds → DpAll K H vs ds
  | _, _, _, .nil, e => by cases e; exact .nil
  | _, _, ds, .cons r t, e => by
    unfold mapO at e
    split at e
    · rename_i y ys e1 e2
      cases e
      exact .cons (hf _ _ _ r e1) (map_dp hf t e2)
    · cases e
theorem toD_dp {K : PySem.W.Frag} {cm : Cm} {ρ : List Addr} {h : Hw} {H : Hp} (rh : RelH K cm ρ h H) : ∀ (n : Nat) (w : W) (v : V) (d : PyData), Rel K ρ H w v → toD h n w = some d → Dp K H v d := by
  intro n
  induction n with
  | zero =>
    intro w v d r e
    cases r with
    | non => cases e; exact .non
    | bl b => cases e; exact .bl b
    | int i => cases e; exact .int i
    | str x => cases e; exact .str x
    | _ => cases e
  | succ n ih =>
    intro w v d r e
    cases r with
    | non => cases e; exact .non
    | bl b => cases e; exact .bl b
    | int i => cases e; exact .int i
    | str x => cases e; exact .str x
    | tup hq r =>
      unfold toD at e
      cases q : mapO (toD h n) _ with
      | none => rw [q] at e; cases e
      | some ds =>
        rw [q] at e
        cases e
        exact .tup hq (map_dp ih r q)
    | rol hq r =>
      unfold toD at e
      cases q : mapO (toD h n) _ with
      | none => rw [q] at e; cases e
      | some ds =>
        rw [q] at e
        cases e
        exact .lst hq.sq (map_dp ih r q)
    | @ref p a hp =>
      unfold toD at e
      split at e
      · rename_i xs hx
        obtain ⟨vs, ea, rx⟩ := rh.lst hp hx
        cases q : mapO (toD h n) xs with
        | none => rw [q] at e; cases e
        | some ds =>
          rw [q] at e
          cases e
          exact .lst (.of ea) (map_dp ih rx q)
      · cases e
def fEq (neg : Bool) (x y : W) : M W := fun h => match toD h 8 x, toD h 8 y with
  | some d, some e => if (SeqAt.shaped d && SeqAt.shaped e) = true then .ok (.bl (neg != PyData.eqv d e)) h else .no
  | _, _ => .no
def fIn (neg : Bool) : W → W → M W
  | .str x, .str y => rtn (.bl (neg != !(Builtin.Str.occurrences y x 0 y.length 1).isEmpty))
  | x, y => fun h => match toD h 8 x, toD h 8 y with
    | some d, some (.list ds) => if (SeqAt.shaped d && SeqAt.shaped (.list ds)) = true then .ok (.bl (neg != ds.any fun z => PyData.eqv z d)) h else .no
    | _, _ => .no
section
variable {X : Cx} {cm : Cm}
theorem wEq : OpW X.K cm (rEqD X.K) (fEq false) := by
  intro ρ h H x y x' y' z h' Q rh rx ry e k
  unfold fEq at e
  split at e
  · rename_i d1 d2 e1 e2
    split at e
    · rename_i hs
      cases e
      rw [Bool.and_eq_true] at hs
      refine ⟨d1, d2, toD_dp rh _ _ _ _ rx e1, toD_dp rh _ _ _ _ ry e2, hs.1, hs.2, ?_⟩
      have q := k.at rh (.bl _)
      simpa using q
    · cases e
  · cases e
theorem wNe : OpW X.K cm (rNeD X.K) (fEq true) := by
  intro ρ h H x y x' y' z h' Q rh rx ry e k
  unfold fEq at e
  split at e
  · rename_i d1 d2 e1 e2
    split at e
    · rename_i hs
      cases e
      rw [Bool.and_eq_true] at hs
      refine ⟨d1, d2, toD_dp rh _ _ _ _ rx e1, toD_dp rh _ _ _ _ ry e2, hs.1, hs.2, ?_⟩
      have q := k.at rh (.bl _)
      simpa using q
    · cases e
  · cases e
theorem fIn_data {neg : Bool} {x y : W} {h h' : Hw} {z : W} (e : fIn neg x y h = .ok z h') : (∃ a b, x = .str a ∧ y = .str b ∧ z = .bl (neg != !(Builtin.Str.occurrences b a 0 b.length 1).isEmpty) ∧ h' = h) ∨
    ∃ d ds, toD h 8 x = some d ∧ toD h 8 y = some (.list ds) ∧ SeqAt.shaped d = true ∧ SeqAt.shaped (.list ds) = true ∧ z = .bl (neg != ds.any fun z => PyData.eqv z d) ∧ h' = h := by
  unfold fIn at e
  split at e
  · cases e
    exact .inl ⟨_, _, rfl, rfl, rfl, rfl⟩
  · dsimp only at e
    split at e
    · split at e
      · rename_i hs
        cases e
        rw [Bool.and_eq_true] at hs
        exact .inr ⟨_, _, by assumption, by assumption, hs.1, hs.2, rfl, rfl⟩
      · cases e
    · cases e
theorem oIn (hu : X.A.units + 65 < cLine) : OpR X (compareOp .In) (fun x y H Q => (∃ i j, x = .str i ∧ y = .str j ∧ Q (.bl (!(Builtin.Str.occurrences j i 0 j.length 1).isEmpty)) H) ∨ rInD X.K x y H Q) := op_in_str.or (op_inD hu)
theorem oNotIn (hu : X.A.units + 65 < cLine) : OpR X (compareOp .NotIn) (fun x y H Q => (∃ i j, x = .str i ∧ y = .str j ∧ Q (.bl (!(!(Builtin.Str.occurrences j i 0 j.length 1).isEmpty))) H) ∨ rNotInD X.K x y H Q) := op_notin_str.or (op_notInD hu)
theorem wIn : OpW X.K cm (fun x y H Q => (∃ i j, x = .str i ∧ y = .str j ∧ Q (.bl (!(Builtin.Str.occurrences j i 0 j.length 1).isEmpty)) H) ∨ rInD X.K x y H Q) (fIn false) := by
  intro ρ h H x y x' y' z h' Q rh rx ry e k
  rcases fIn_data e with ⟨a, b, rfl, rfl, rfl, rfl⟩ | ⟨d, ds, e1, e2, s1, s2, rfl, rfl⟩
  · cases rx
    cases ry
    have q := k.at rh (.bl _)
    exact .inl ⟨_, _, rfl, rfl, by simpa using q⟩
  · have q := k.at rh (.bl _)
    exact .inr ⟨d, ds, toD_dp rh _ _ _ _ rx e1, toD_dp rh _ _ _ _ ry e2, s1, s2, by simpa using q⟩
theorem wNotIn : OpW X.K cm (fun x y H Q => (∃ i j, x = .str i ∧ y = .str j ∧ Q (.bl (!(!(Builtin.Str.occurrences j i 0 j.length 1).isEmpty))) H) ∨ rNotInD X.K x y H Q) (fIn true) := by
  intro ρ h H x y x' y' z h' Q rh rx ry e k
  rcases fIn_data e with ⟨a, b, rfl, rfl, rfl, rfl⟩ | ⟨d, ds, e1, e2, s1, s2, rfl, rfl⟩
  · cases rx
    cases ry
    have q := k.at rh (.bl _)
    exact .inl ⟨_, _, rfl, rfl, by simpa using q⟩
  · have q := k.at rh (.bl _)
    exact .inr ⟨d, ds, toD_dp rh _ _ _ _ rx e1, toD_dp rh _ _ _ _ ry e2, s1, s2, by simpa using q⟩
end

/-! ### subscripts and slices -/
def fIx (x y : W) : M W := fun h => match y with
  | .int i => match x with
    | .tup xs => match atI xs i with
      | some w => .ok w h
      | none => .no
    | .str z => if z.length ≤ lim then match atI z.cps.toList i with
      | some c => .ok (.str ⟨#[c]⟩) h
      | none => .no
      else .no
    | x => match items h x with
      | some xs => match atI xs i with
        | some w => .ok w h
        | none => .no
      | none => .no
  | _ => .no
theorem atI_rel {K : PySem.W.Frag} {ρ : List Addr} {H : Hp} {ws : List W} {vs : List V} {i : Int} {w : W} (r : Rels K ρ H ws vs) (e : atI ws i = some w) : ∃ v, atI vs i = some v ∧ Rel K ρ H w v := by
  unfold atI at e ⊢
  rw [r.length] at e
  cases q : ixN vs.length i with
  | none => rw [q] at e; cases e
  | some j =>
    rw [q] at e
    exact r.get e
section
variable {X : Cx} {cm : Cm}
theorem wIx : OpW X.K cm (rIx X.K) fIx := by
  intro ρ h H x y x' y' z h' Q rh rx ry e k
  cases ry with
  | int i =>
    have lst : ∀ {xs : List W}, items h x = some xs → (match atI xs i with
        | some w => EL.R.ok w h
        | none => EL.R.no) = .ok z h' → rIx X.K x' (.int i) H Q := fun {xs} hi e => by
      obtain ⟨a, vs, rfl, hq, rl⟩ := items_of rh rx hi
      split at e
      · rename_i w hw
        cases e
        obtain ⟨v, hv, rv⟩ := atI_rel rl hw
        exact .inl ⟨a, vs, i, v, rfl, rfl, hq, hv, k.at rh rv⟩
      · cases e
    cases rx with
    | @tup us vs a hq r =>
      have e' : (match atI us i with
        | some w => EL.R.ok w h
        | none => EL.R.no) = .ok z h' := e
      split at e'
      · rename_i w hw
        cases e'
        obtain ⟨v, hv, rv⟩ := atI_rel r hw
        exact .inr (.inl ⟨_, _, i, v, rfl, rfl, hq, hv, k.at rh rv⟩)
      · cases e'
    | str s =>
      have e' : (if s.length ≤ lim then (match atI s.cps.toList i with
        | some c => EL.R.ok (W.str ⟨#[c]⟩) h
        | none => EL.R.no) else EL.R.no) = .ok z h' := e
      split at e'
      · rename_i hl
        split at e'
        · rename_i c hc
          cases e'
          exact .inr (.inr ⟨s, i, c, rfl, rfl, by rw [← lim_eq]; exact hl, hc, k.at rh (.str _)⟩)
        · cases e'
      · cases e'
    | @ref p a hp =>
      have e' : (match items h (.ref p) with
        | some xs => (match atI xs i with
          | some w => EL.R.ok w h
          | none => EL.R.no)
        | none => EL.R.no) = .ok z h' := e
      split at e'
      · exact lst (by assumption) e'
      · cases e'
    | @rol ws vs a hq r =>
      have e' : (match items h (.rol ws) with
        | some xs => (match atI xs i with
          | some w => EL.R.ok w h
          | none => EL.R.no)
        | none => EL.R.no) = .ok z h' := e
      split at e'
      · exact lst (by assumption) e'
      · cases e'
    | _ => cases e
  | _ => cases e
theorem re_ix {a b : Expr} {ma mb : ME} {pos : Pos} (ha : RE X cm a ma) (hb : RE X cm b mb) (hs : PlainIx b := by exact fun _ _ => rfl) : RE X cm (.Subscript a b pos) (mBin fIx ma mb) :=
  peM (pe_ix ix_seq ha hb hs) fun _ _ _ => op_tE wIx
/-- an optional part -/
abbrev MO := SW → M (Option Int)
def oNo : MO := fun _ => rtn none
def oSo (a : ME) : MO := fun sw => bnd (a sw) fun x => match x with
  | .int i => rtn (some i)
  | _ => bad
def tOo (K : PySem.W.Frag) (cm : Cm) (m : MO) : TO := fun σ H Q => ∃ ρ h sw o h', RelH K cm ρ h H ∧ RelS K ρ H sw σ ∧ m sw h = .ok o h' ∧ ∀ ρ' H', Le K ρ H ρ' H' → RelH K cm ρ' h' H' → Q o H'
abbrev RO (X : Cx) (cm : Cm) (e : Option Expr) (m : MO) : Prop := PO X e (tOo X.K cm m)
theorem poM {X : Cx} {e : Option Expr} {t t' : TO} (p : PO X e t) (f : ∀ σ H Q, t' σ H Q → t σ H Q) : PO X e t' := ⟨fun pins s σ H Q I q => p.run pins s σ H Q I (f σ H Q q)⟩
theorem ro_no : RO X cm none oNo := by
  refine poM po_none fun σ H Q q => ?_
  obtain ⟨ρ, h, sw, o, h', rh, rs, e, k⟩ := q
  cases e
  exact k ρ H .refl rh
theorem ro_so {a : Expr} {ma : ME} (ha : RE X cm a ma) : RO X cm (some a) (oSo ma) := by
  refine poM (po_some ha) fun σ H Q q => ?_
  obtain ⟨ρ, h, sw, o, h', rh, rs, e, k⟩ := q
  obtain ⟨x, h1, e1, e2⟩ := bnd_ok e
  refine ⟨ρ, h, sw, x, h1, rh, rs, e1, fun ρ1 H1 x' l1 rh1 rx => ?_⟩
  cases x with
  | int i =>
    cases rx
    cases e2
    exact ⟨i, rfl, k ρ1 H1 l1 rh1⟩
  | _ => cases e2
def cutW (xs : List W) (lo hi : Option Int) : List W := (xs.drop (HT.sIx xs.length 0 lo)).take (HT.sIx xs.length xs.length hi - HT.sIx xs.length 0 lo)
theorem cut_rel {K : PySem.W.Frag} {ρ : List Addr} {H : Hp} {ws : List W} {vs : List V} (r : Rels K ρ H ws vs) (lo hi : Option Int) : Rels K ρ H (cutW ws lo hi) (cutV vs lo hi) := by
  unfold cutW cutV
  rw [r.length]
  exact (r.drop _).take _
def fSl (x : W) (lo hi : Option Int) : M W := fun h => match x with
  | .str z => if z.length ≤ lim then .ok (.str (cutS z lo hi)) h else .no
  | .tup xs => if HT.sIx xs.length 0 lo = 0 ∧ HT.sIx xs.length xs.length hi = xs.length then .no else .ok (.tup (cutW xs lo hi)) h
  | x => match items h x with
    | some xs => alloc (.lst (cutW xs lo hi)) h
    | none => .no
def mSl (a : ME) (l u : MO) : ME := fun sw => bnd (a sw) fun x => bnd (l sw) fun lo => bnd (u sw) fun hi => fSl x lo hi
theorem re_sl {a : Expr} {ma : ME} {lo hi : Option Expr} {ml mh : MO} {pos p2 : Pos} (ha : RE X cm a ma) (hl : RO X cm lo ml) (hu : RO X cm hi mh) : RE X cm (.Subscript a (.Slice lo hi none p2) pos) (mSl ma ml mh) := by
  refine peM (pe_slice (sl_list.or (sl_tup.or sl_str)) ha hl hu) fun σ H Q q => ?_
  obtain ⟨ρ, h, sw, w, h', rh, rs, e, k⟩ := q
  obtain ⟨x, h1, e1, e2⟩ := bnd_ok e
  obtain ⟨l, h2, e3, e4⟩ := bnd_ok e2
  obtain ⟨u, h3, e5, e6⟩ := bnd_ok e4
  refine ⟨ρ, h, sw, x, h1, rh, rs, e1, fun ρ1 H1 x' l1 rh1 rx => ?_⟩
  refine ⟨ρ1, h1, sw, l, h2, rh1, rs.mono l1, e3, fun ρ2 H2 l2 rh2 => ?_⟩
  refine ⟨ρ2, h2, sw, u, h3, rh2, rs.mono (l1.trans l2), e5, fun ρ3 H3 l3 rh3 => ?_⟩
  have rx3 := rx.mono (l2.trans l3)
  have k3 : KE X.K cm ρ3 H3 w h' Q := fun ρ4 H4 v l4 => k ρ4 H4 v ((l1.trans l2).trans (l3.trans l4))
  have lst : (match items h3 x with
    | some xs => alloc (.lst (cutW xs l u)) h3
    | none => EL.R.no) = .ok w h' → rSlL X.K x' l u H3 Q := fun e => by
    split at e
    · rename_i xs hi
      cases e
      obtain ⟨a, vs, rfl, hq, rl⟩ := items_of rh3 rx3 hi
      exact ⟨a, vs, rfl, hq, fun p hp => new_lst rh3 (cut_rel rl l u) hp k3⟩
    · cases e
  cases rx3 with
  | str z =>
    have e' : (if z.length ≤ lim then EL.R.ok (W.str (cutS z l u)) h3 else EL.R.no) = .ok w h' := e6
    split at e'
    · rename_i hl
      cases e'
      exact .inr (.inr ⟨z, rfl, by rw [← lim_eq]; exact hl, k3.at rh3 (.str _)⟩)
    · cases e'
  | @tup ws vs a hq r =>
    have e' : (if HT.sIx ws.length 0 l = 0 ∧ HT.sIx ws.length ws.length u = ws.length then EL.R.no else EL.R.ok (W.tup (cutW ws l u)) h3) = .ok w h' := e6
    split at e'
    · cases e'
    · rename_i hl
      cases e'
      rw [r.length] at hl
      exact .inr (.inl ⟨a, vs, rfl, hq, hl, fun p hp => new_tup rh3 (cut_rel r l u) hp k3⟩)
  | ref hp => exact .inl (lst e6)
  | rol hq r => exact .inl (lst e6)
  | _ => cases e6
end

/-! ### built-ins -/
section
variable {X : Cx} {cm : Cm}
theorem one_of {K : PySem.W.Frag} {ρ : List Addr} {H : Hp} {w : W} {vs : List V} (r : Rels K ρ H [w] vs) : ∃ v, vs = [v] ∧ Rel K ρ H w v := by
  cases r with
  | cons r t =>
    cases t
    exact ⟨_, rfl, r⟩
theorem two_of {K : PySem.W.Frag} {ρ : List Addr} {H : Hp} {w u : W} {vs : List V} (r : Rels K ρ H [w, u] vs) : ∃ v x, vs = [v, x] ∧ Rel K ρ H w v ∧ Rel K ρ H u x := by
  cases r with
  | cons r t =>
    cases t with
    | cons r2 t =>
      cases t
      exact ⟨_, _, rfl, r, r2⟩
def bLen : List W → M W
  | [x] => fun h => match x with
    | .str z => if z.length ≤ lim then .ok (.int z.length) h else .no
    | .tup xs => .ok (.int xs.length) h
    | x => match items h x with
      | some xs => .ok (.int xs.length) h
      | none => .no
  | _ => bad
theorem oLen : CallR X (.builtin "len") (fun xs H Q => (∃ p ys, xs = [.ref p] ∧ (SqL X.K H p ys ∨ SqT X.K H p ys) ∧ Q (.int ys.length) H) ∨ ∃ z, xs = [.str z] ∧ z.length ≤ sizeLine ∧ Q (.int z.length) H) := call_len_seq.or call_len_str
theorem wLen : CallW X.K cm (fun xs H Q => (∃ p ys, xs = [.ref p] ∧ (SqL X.K H p ys ∨ SqT X.K H p ys) ∧ Q (.int ys.length) H) ∨ ∃ z, xs = [.str z] ∧ z.length ≤ sizeLine ∧ Q (.int z.length) H) bLen := by
  intro ρ h H ws vs z h' Q rh r e k
  cases ws with
  | nil => cases e
  | cons x t =>
    cases t with
    | cons _ _ => cases e
    | nil =>
      obtain ⟨v, rfl, rx⟩ := one_of r
      have lst : (match items h x with
        | some xs => EL.R.ok (W.int xs.length) h
        | none => EL.R.no) = .ok z h' → (∃ p ys, [v] = [.ref p] ∧ (SqL X.K H p ys ∨ SqT X.K H p ys) ∧ Q (.int ys.length) H) := fun e => by
        split at e
        · rename_i xs hi
          cases e
          obtain ⟨a, vs, rfl, hq, rl⟩ := items_of rh rx hi
          refine ⟨a, vs, rfl, .inl hq, ?_⟩
          rw [← rl.length]
          exact k.at rh (.int _)
        · cases e
      cases rx with
      | str s =>
        have e' : (if s.length ≤ lim then EL.R.ok (W.int s.length) h else EL.R.no) = .ok z h' := e
        split at e'
        · rename_i hl
          cases e'
          exact .inr ⟨s, rfl, by rw [← lim_eq]; exact hl, k.at rh (.int _)⟩
        · cases e'
      | @tup us ts a hq r2 =>
        cases e
        refine .inl ⟨_, _, rfl, .inr hq, ?_⟩
        rw [← Rels.length r2]
        exact k.at rh (.int _)
      | ref hp => exact .inl (lst e)
      | rol hq r => exact .inl (lst e)
      | _ => cases e
def bAbs : List W → M W
  | [.int i] => rtn (.int (if i < 0 then -i else i))
  | _ => bad
theorem wAbs : CallW X.K cm (fun xs H Q => ∃ i, xs = [.int i] ∧ Q (.int (if i < 0 then -i else i)) H) bAbs := by
  intro ρ h H ws vs z h' Q rh r e k
  unfold bAbs at e
  split at e
  · cases e
    obtain ⟨v, rfl, rx⟩ := one_of r
    cases rx
    exact ⟨_, rfl, k.at rh (.int _)⟩
  · cases e
def bInt : List W → M W
  | [.int i] => rtn (.int i)
  | [.bl b] => rtn (.int (if b then 1 else 0))
  | _ => bad
theorem wInt1 : CallW X.K cm (fun xs H Q => (∃ i, xs = [.int i] ∧ Q (.int i) H) ∨ ∃ k, xs = [.bl k] ∧ Q (.int (if k then 1 else 0)) H) bInt := by
  intro ρ h H ws vs z h' Q rh r e k
  unfold bInt at e
  split at e
  · cases e
    obtain ⟨v, rfl, rx⟩ := one_of r
    cases rx
    exact .inl ⟨_, rfl, k.at rh (.int _)⟩
  · cases e
    obtain ⟨v, rfl, rx⟩ := one_of r
    cases rx
    exact .inr ⟨_, rfl, k.at rh (.int _)⟩
  · cases e
def wInts : List W → Option (List Int) := mapO fun w => match w with
  | .int i => some i
  | _ => none
theorem wInts_of : ∀ {ws : List W} {ns : List Int}, wInts ws = some ns → ws = ns.map W.int
  | [], ns, e => by
    cases e
    rfl
  | w :: ws, ns, e => by
    unfold wInts mapO at e
    split at e
    · rename_i y ys e1 e2
      cases e
      have q : ws = ys.map W.int := wInts_of (ws := ws) e2
      cases w <;> cases e1
      rw [List.map_cons, ← q]
    · cases e
def bSum : List W → M W
  | [x] => fun h => match items h x with
    | some xs => match wInts xs with
      | some ns => .ok (.int ns.sum) h
      | none => .no
    | none => .no
  | _ => bad
theorem wSum : CallW X.K cm (rSum X.K) bSum := by
  intro ρ h H ws vs z h' Q rh r e k
  cases ws with
  | nil => cases e
  | cons x t =>
    cases t with
    | cons _ _ => cases e
    | nil =>
      obtain ⟨v, rfl, rx⟩ := one_of r
      have e' : (match items h x with
        | some xs => (match wInts xs with
          | some ns => EL.R.ok (W.int ns.sum) h
          | none => EL.R.no)
        | none => EL.R.no) = .ok z h' := e
      split at e'
      · rename_i xs hi
        split at e'
        · rename_i ns hn
          cases e'
          obtain ⟨a, us, rfl, hq, rl⟩ := items_of rh rx hi
          have q := wInts_of hn
          subst q
          rw [Rels.of_ints rl] at hq
          exact ⟨a, ns, rfl, hq, k.at rh (.int _)⟩
        · cases e'
      · cases e'
def bMax : List W → M W
  | [.int i, .int j] => rtn (.int (if j > i then j else i))
  | _ => bad
theorem wMax : CallW X.K cm (fun xs H Q => ∃ i j, xs = [.int i, .int j] ∧ Q (.int (if j > i then j else i)) H) bMax := by
  intro ρ h H ws vs z h' Q rh r e k
  unfold bMax at e
  split at e
  · cases e
    obtain ⟨v, u, rfl, rx, ry⟩ := two_of r
    cases rx
    cases ry
    exact ⟨_, _, rfl, k.at rh (.int _)⟩
  · cases e
def bMin : List W → M W
  | [.int i, .int j] => rtn (.int (if j < i then j else i))
  | _ => bad
theorem wMin : CallW X.K cm (fun xs H Q => ∃ i j, xs = [.int i, .int j] ∧ Q (.int (if j < i then j else i)) H) bMin := by
  intro ρ h H ws vs z h' Q rh r e k
  unfold bMin at e
  split at e
  · cases e
    obtain ⟨v, u, rfl, rx, ry⟩ := two_of r
    cases rx
    cases ry
    exact ⟨_, _, rfl, k.at rh (.int _)⟩
  · cases e
def wBls : List W → Option (List Bool) := mapO fun w => match w with
  | .bl i => some i
  | _ => none
theorem wBls_of : ∀ {ws : List W} {ns : List Bool}, wBls ws = some ns → ws = ns.map W.bl
  | [], ns, e => by
    cases e
    rfl
  | w :: ws, ns, e => by
    unfold wBls mapO at e
    split at e
    · rename_i y ys e1 e2
      cases e
      have q : ws = ys.map W.bl := wBls_of (ws := ws) e2
      cases w <;> cases e1
      rw [List.map_cons, ← q]
    · cases e
def bAll : List W → M W
  | [x] => fun h => match items h x with
    | some xs => match wBls xs with
      | some ns => .ok (.bl (ns.all id)) h
      | none => .no
    | none => .no
  | _ => bad
theorem wAll : CallW X.K cm (rAll X.K) bAll := by
  intro ρ h H ws vs z h' Q rh r e k
  cases ws with
  | nil => cases e
  | cons x t =>
    cases t with
    | cons _ _ => cases e
    | nil =>
      obtain ⟨v, rfl, rx⟩ := one_of r
      have e' : (match items h x with
        | some xs => (match wBls xs with
          | some ns => EL.R.ok (W.bl (ns.all id)) h
          | none => EL.R.no)
        | none => EL.R.no) = .ok z h' := e
      split at e'
      · rename_i xs hi
        split at e'
        · rename_i ns hn
          cases e'
          obtain ⟨a, us, rfl, hq, rl⟩ := items_of rh rx hi
          have q := wBls_of hn
          subst q
          rw [Rels.of_bls rl] at hq
          exact ⟨a, ns, rfl, hq, k.at rh (.bl _)⟩
        · cases e'
      · cases e'
def wStrs : List W → Option (List Str) := mapO fun w => match w with
  | .str i => some i
  | _ => none
theorem wStrs_of : ∀ {ws : List W} {ns : List Str}, wStrs ws = some ns → ws = ns.map W.str
  | [], ns, e => by
    cases e
    rfl
  | w :: ws, ns, e => by
    unfold wStrs mapO at e
    split at e
    · rename_i y ys e1 e2
      cases e
      have q : ws = ys.map W.str := wStrs_of (ws := ws) e2
      cases w <;> cases e1
      rw [List.map_cons, ← q]
    · cases e
/-- repr of a truth -/
def bRepr : List W → M W
  | [.bl b] => rtn (.str (if b then Str.ofString "True" else Str.ofString "False"))
  | [.non] => rtn (.str (Str.ofString "None"))
  | [.int i] => if i.natAbs.log2 < 1920 then rtn (.str (toString i)) else bad
  | [.str x] => if (reprText x).length ≤ lim then rtn (.str (reprText x)) else bad
  | _ => bad
def rRepr : List V → Hp → VK → Prop := fun xs H Q => (∃ b, xs = [.bl b] ∧ Q (.str (if b then Str.ofString "True" else Str.ofString "False")) H) ∨ (xs = [.non] ∧ Q (.str (Str.ofString "None")) H) ∨
  (∃ i : Int, xs = [.int i] ∧ i.natAbs.log2 < 1920 ∧ Q (.str (toString i)) H) ∨ ∃ x : Str, xs = [.str x] ∧ (reprText x).length ≤ sizeLine ∧ Q (.str (reprText x)) H
theorem oRepr : CallR X (.builtin "repr") rRepr := by
  intro pins s σ H xs us Q I r h
  rcases h with ⟨b, rfl, q⟩ | ⟨rfl, q⟩ | ⟨i, rfl, hi, q⟩ | ⟨x, rfl, hx, q⟩
  · obtain ⟨u, rfl, ru⟩ := Vals.one r
    cases ru
    cases b with
    | true => exact PySem.P.repr_of_bool ⟨.str _, H, I.tok _, ⟨_, rfl⟩, q⟩
    | false => exact PySem.P.repr_of_bool ⟨.str _, H, I.tok _, ⟨_, rfl⟩, q⟩
  · obtain ⟨u, rfl, ru⟩ := Vals.one r
    cases ru
    exact PySem.P.repr_of_none ⟨.str _, H, I.tok _, ⟨_, rfl⟩, q⟩
  · obtain ⟨u, rfl, ru⟩ := Vals.one r
    obtain ⟨t, rfl⟩ := ru
    exact PySem.P.repr_of_int hi ⟨.str _, H, I.tok _, ⟨_, rfl⟩, q⟩
  · obtain ⟨u, rfl, ru⟩ := Vals.one r
    obtain ⟨t, rfl⟩ := ru
    exact PySem.P.repr_of_str ⟨.str _, H, I.tok _, ⟨_, rfl⟩, q⟩ hx
theorem wRepr : CallW X.K cm rRepr bRepr := by
  intro ρ h H ws vs z h' Q rh r e k
  unfold bRepr at e
  split at e
  · cases e
    obtain ⟨v, rfl, rx⟩ := one_of r
    cases rx
    exact .inl ⟨_, rfl, k.at rh (.str _)⟩
  · cases e
    obtain ⟨v, rfl, rx⟩ := one_of r
    cases rx
    exact .inr (.inl ⟨rfl, k.at rh (.str _)⟩)
  · split at e
    · cases e
      obtain ⟨v, rfl, rx⟩ := one_of r
      cases rx
      exact .inr (.inr (.inl ⟨_, rfl, by assumption, k.at rh (.str _)⟩))
    · cases e
  · split at e
    · cases e
      obtain ⟨v, rfl, rx⟩ := one_of r
      cases rx
      exact .inr (.inr (.inr ⟨_, rfl, by rw [← lim_eq]; assumption, k.at rh (.str _)⟩))
    · cases e
  · cases e
/-- sep.join(a list of texts) -/
def fJoin (x y : W) : M W := fun h => match x with
  | .str a => match items h y with
    | some xs => match wStrs xs with
      | some ys => if (ys.map Str.length).sum + ys.length * a.length ≤ lim then .ok (.str (Txt.join a ys)) h else .no
      | none => .no
    | none => .no
  | _ => .no
end
/-! ### isinstance, of what is no instance -/
def tyName (h : Hw) (x : W) : Option String := match x with
  | .non => some "NoneType"
  | .bl _ => some "bool"
  | .int _ => some "int"
  | .str _ => some "str"
  | .tup _ => some "tuple"
  | .rol _ => some "list"
  | .ref p => match h[p]? with
    | some (.lst _) => some "list"
    | some (.dK _) => some "dict"
    | some (.dF _) => some "dict"
    | _ => none
theorem tyX_of {K : PySem.W.Frag} {cm : Cm} {ρ : List Addr} {h : Hw} {H : Hp} {x : W} {v : V} {n : String} (rh : RelH K cm ρ h H) (r : Rel K ρ H x v) (e : tyName h x = some n) : TyX K H v (.type n) := by
  cases r with
  | non => cases e; exact .base .non
  | bl b => cases e; exact .base (.bl b)
  | int i => cases e; exact .base (.int i)
  | str s => cases e; exact .base (.str s)
  | tup hq r =>
    cases e
    rcases hq with (hq | ⟨o, hq⟩) | ⟨o, its, n, hk, hc, _⟩
    · exact .base (.tup hq)
    · exact .fTuple hq
    · exact .kTuple hk hc
  | rol hq r =>
    cases e
    rcases hq with ⟨o, hq⟩ | ⟨o, its, n, hk, hc, _⟩
    · exact .base (.frz hq)
    · exact .kList hk hc
  | @ref p a hp =>
    have e' : (match h[p]? with
      | some (.lst _) => some "list"
      | some (.dK _) => some "dict"
      | some (.dF _) => some "dict"
      | _ => none) = some n := e
    obtain ⟨o, ho, ro⟩ := rh.at (w := .non) hp
    rw [ho] at e'
    cases o with
    | lst xs =>
      cases e'
      obtain ⟨vs, ea, _⟩ := ro
      exact .base (.lst ea)
    | dK kvs =>
      cases e'
      obtain ⟨kv, ea, _⟩ := ro
      exact .base (.dK ea)
    | ins C fs => cases e'
    | st ks => cases e'
    | xc C f w => cases e'
    | dF kvs =>
      cases e'
      obtain ⟨o, kv, ea, _⟩ := ro
      exact .fDict ea
/-- isinstance(x, T), T a built-in type -/
def mIsi (T : String) (a : ME) : ME := fun sw => bnd (a sw) fun x h => match tyName h x with
  | some n => match kitB n T with
    | some b => .ok (.bl b) h
    | none => .no
  | none => .no
section
variable {X : Cx} {cm : Cm} {a b : Expr} {ma : ME} {pos p : Pos}
theorem re_isi {T : String} {x : Str} {p2 : Pos} (hm : X.mg "isinstance" = none) (hT : X.mg x = none) (ha : RE X cm a ma) (hv : bootBuiltins x = some (.type T) := by decide +kernel) (hg : Gl X "isinstance" := by rfl) (hg2 : Gl X x := by rfl) (hn : x ≠ "__name__" := by decide) (hd : (x == ("__debug__" : Str)) = false := by decide)
    (hs1 : starEach (a :: [.Name x p2]) X.env = (false, eval a X.env) :: starEach [.Name x p2] X.env := by rfl) (hs2 : starEach (.Name x p2 :: []) X.env = (false, eval (.Name x p2) X.env) :: starEach [] X.env := by rfl) (hpl : (backTo pos (starEach [.Name x p2] X.env)).any (·.1) = false := by rfl) :
    RE X cm (.Call (.Name "isinstance" p) [a, .Name x p2] [] pos) (mIsi T ma) := by
  refine peM (pe_callB call_isi hg hm (by decide +kernel) (pa_cons ha (pa_cons (pe_bltn (v := .ty T) hg2 hT hv rfl hn hd) pa_nil hs2) hs1) (by decide) (by decide) hs1 hpl) fun σ H Q q => ?_
  obtain ⟨ρ, h, sw, w, h', rh, rs, e, k⟩ := q
  obtain ⟨y, h1, e1, e2⟩ := bnd_ok e
  refine ⟨ρ, h, sw, y, h1, rh, rs, e1, fun ρ1 H1 v l1 rh1 rx => ?_⟩
  split at e2
  · rename_i n hn'
    split at e2
    · rename_i bb hb
      cases e2
      exact ⟨v, .ty T, .type n, .type T, bb, rfl, .ty T, tyX_of rh1 rx hn', kit_ty hb, k ρ1 H1 _ l1 rh1 (.bl bb)⟩
    · cases e2
  · cases e2
theorem re_join {mb : ME} {apos : Pos} (ha : RE X cm a ma) (hb : RE X cm b mb) (hs : starEach [b] X.env = [(false, eval b X.env)] := by rfl) (hbase : attributeBase a "join" X.env (eval a X.env) = eval a X.env := by rfl) (hline : (apos.endLine == pos.line) = true := by rfl) :
    RE X cm (.Call (.Attribute a "join" apos) [b] [] pos) (mBin fJoin ma mb) := by
  refine peM (pe_join ha hb hs hbase hline) fun σ H Q q => ?_
  obtain ⟨ρ, h, sw, w, h', rh, rs, e, k⟩ := q
  obtain ⟨x, h1, e1, e2⟩ := bnd_ok e
  obtain ⟨y, h2, e3, e4⟩ := bnd_ok e2
  refine ⟨ρ, h, sw, x, h1, rh, rs, e1, fun ρ1 H1 x' l1 rh1 rx => ?_⟩
  cases x with
  | str s =>
    cases rx
    refine ⟨⟨s, rfl⟩, ρ1, h1, sw, y, h2, rh1, rs.mono l1, e3, fun ρ2 H2 y' l2 rh2 ry => ?_⟩
    have e4' : (match items h2 y with
      | some xs => (match wStrs xs with
        | some ys => if (ys.map Str.length).sum + ys.length * s.length ≤ lim then EL.R.ok (W.str (Txt.join s ys)) h2 else EL.R.no
        | none => EL.R.no)
      | none => EL.R.no) = .ok w h' := e4
    split at e4'
    · rename_i xs hi
      split at e4'
      · rename_i ys hy
        split at e4'
        · rename_i hl
          cases e4'
          obtain ⟨a', us, rfl, hq, rl⟩ := items_of rh2 ry hi
          have q := wStrs_of hy
          subst q
          rw [Rels.of_strs rl] at hq
          exact ⟨s, a', ys, rfl, rfl, .inl hq, hl, k ρ2 H2 _ (l1.trans l2) rh2 (.str _)⟩
        · cases e4'
      · cases e4'
    · cases e4'
  | _ => cases e4
/-- a < b < c -/
def mCh (f g : W → W → M W) (a b c : ME) : ME := fun sw => bnd (a sw) fun x => bnd (b sw) fun y => bnd (f x y) fun z => match z with
  | .bl true => bnd (c sw) fun u => g y u
  | .bl false => rtn (.bl false)
  | _ => bad
theorem ch_tE {c : Expr} {mb mc : ME} {r r' : R2} {f g : W → W → M W} (ow : OpW X.K cm r f) (ow' : OpW X.K cm r' g) {σ : St} {H : Hp} {Q : VK} (q : tE X.K cm (mCh f g ma mb mc) σ H Q) : tChain r r' (tE X.K cm ma) (tE X.K cm mb) (tE X.K cm mc) σ H Q := by
  obtain ⟨ρ, h, sw, w, h', rh, rs, e, k⟩ := q
  obtain ⟨x, h1, e1, e2⟩ := bnd_ok e
  obtain ⟨y, h2, e3, e4⟩ := bnd_ok e2
  obtain ⟨z, h3, e5, e6⟩ := bnd_ok e4
  refine ⟨ρ, h, sw, x, h1, rh, rs, e1, fun ρ1 H1 x' l1 rh1 rx => ?_⟩
  refine ⟨ρ1, h1, sw, y, h2, rh1, rs.mono l1, e3, fun ρ2 H2 y' l2 rh2 ry => ?_⟩
  refine ow ρ2 h2 H2 x y x' y' z h3 _ rh2 (rx.mono l2) ry e5 fun ρ3 H3 z' l3 rh3 rz => ?_
  have l13 := l1.trans (l2.trans l3)
  cases z with
  | bl b =>
    cases rz
    cases b with
    | false =>
      cases e6
      exact ⟨false, rfl, iteF (k ρ3 H3 _ l13 rh3 (.bl false))⟩
    | true =>
      obtain ⟨u, h4, e7, e8⟩ := bnd_ok e6
      refine ⟨true, rfl, iteT ⟨ρ3, h3, sw, u, h4, rh3, rs.mono l13, e7, fun ρ4 H4 u' l4 rh4 ru => ?_⟩⟩
      exact ow' ρ4 h4 H4 y u y' u' w h' Q rh4 (ry.mono (l3.trans l4)) ru e8 fun ρ5 H5 v l5 => k ρ5 H5 v (l13.trans (l4.trans l5))
  | _ => cases e6
theorem re_ch {c : Expr} {mb mc : ME} {op op' : CmpOp} {r r' : R2} {f g : W → W → M W} (ho : OpR X (compareOp op) r) (ow : OpW X.K cm r f) (ho' : OpR X (compareOp op') r') (ow' : OpW X.K cm r' g) (ha : RE X cm a ma) (hb : RE X cm b mb) (hc : RE X cm c mc)
    (hm : lastMarks [op, op'] [b, c] = false := by with_unfolding_all rfl) : RE X cm (.Compare a [op, op'] [b, c] pos) (mCh f g ma mb mc) :=
  peM (pe_chain ho ho' ha hb hc hm) fun _ _ _ => ch_tE (c := c) ow ow'
theorem rt_ch {c : Expr} {mb mc : ME} {op op' : CmpOp} {r r' : R2} {f g : W → W → M W} (ho : OpR X (compareOp op) r) (ow : OpW X.K cm r f) (ho' : OpR X (compareOp op') r') (ow' : OpW X.K cm r' g) (ha : RE X cm a ma) (hb : RE X cm b mb) (hc : RE X cm c mc)
    (hm : lastMarks [op, op'] [b, c] = false := by with_unfolding_all rfl) : RT X cm (.Compare a [op, op'] [b, c] pos) (tVal (mCh f g ma mb mc)) :=
  ptM (pt_chain ho ho' ha hb hc hm) fun σ H Q q => test_of (fun Q' => ch_tE (c := c) ow ow') q
end
end EL
namespace EL
open PySem PySem.Spec L2
open PyProof.Rows hiding St
section
variable {X : Cx} {cm : Cm} {e a b c o : Expr} {es : List Expr} {ma mb mo : ME} {mr : MA} {pos apos : Pos}
def mDnew : ME := fun _ => alloc (.dK [])
theorem re_dnew : RE X cm (.Dict [] [] pos) mDnew := by
  refine peM pe_dnewK fun σ H Q q => ?_
  obtain ⟨ρ, h, sw, w, h', rh, rs, e, k⟩ := q
  cases e
  intro p hp
  have l : Le X.K ρ H (ρ ++ [p]) (upd H p (.dK [])) := (le_new hp).trans (le_app p)
  exact k (ρ ++ [p]) _ _ l (rh.push hp ⟨[], upd_same, rfl, .nil⟩) (.ref (push_at rh))
/-- xs.append(y) -/
def fApp (x y : W) : M W := fun h => match x with
  | .ref p => match h[p]? with
    | some (.lst acc) => if acc.length < lim then .ok .non (h.set p (.lst (acc ++ [y]))) else .no
    | _ => .no
  | _ => .no
def chkL (x : W) : M Unit := fun h => match x with
  | .ref p => match h[p]? with
    | some (.lst _) => .ok () h
    | _ => .no
  | _ => .no
def mApp (a b : ME) : ME := fun sw => bnd (a sw) fun x => bnd (chkL x) fun _ => bnd (b sw) fun y => fApp x y
theorem chkL_of {p : Nat} {h h' : Hw} {u : Unit} (e : chkL (.ref p) h = .ok u h') : h' = h ∧ ∃ xs, h[p]? = some (.lst xs) := by
  have e' : (match h[p]? with
    | some (.lst _) => EL.R.ok () h
    | _ => EL.R.no) = .ok u h' := e
  split at e'
  · rename_i xs hx
    cases e'
    exact ⟨rfl, xs, hx⟩
  · cases e'
theorem re_append (ha : RE X cm a ma) (hb : RE X cm b mb) (hbase : attributeBase a "append" X.env (eval a X.env) = eval a X.env := by rfl)
    (hfew : ((backTo pos (starEach [b] X.env)).all (fun x => !x.1) && (backToKw pos (keywordEach [] X.env)).all (fun x => x.1.isSome) && decide ([b].length + ([] : List Keyword).length + (if ([] : List Keyword).isEmpty then 0 else 1) < 30)) = true := by rfl)
    (hline : (apos.endLine == pos.line) = true := by rfl) (hs : starEach (b :: []) X.env = (false, eval b X.env) :: starEach [] X.env := by rfl) (hpl : (backTo pos (starEach [] X.env)).any (·.1) = false := by rfl) :
    RE X cm (.Call (.Attribute a "append" apos) [b] [] pos) (mApp ma mb) := by
  refine peM (pe_bm PySem.F.plainAttrs_list PySem.F.slot_list_append PySem.F.type_list_append mt_append ha (pa_cons hb pa_nil hs) hbase hfew hline hs hpl) fun σ H Q q => ?_
  obtain ⟨ρ, h, sw, w, h', rh, rs, e, k⟩ := q
  obtain ⟨x, h1, e1, e2⟩ := bnd_ok e
  obtain ⟨u0, h0, e0, e2⟩ := bnd_ok e2
  obtain ⟨y, h2, e3, e4⟩ := bnd_ok e2
  have key : ∀ {p : Nat}, x = .ref p → ∃ acc, h2[p]? = some (.lst acc) ∧ acc.length < lim ∧ w = .non ∧ h' = h2.set p (.lst (acc ++ [y])) := fun {p} ex => by
    subst ex
    have e4' : (match h2[p]? with
      | some (.lst acc) => if acc.length < lim then EL.R.ok W.non (h2.set p (.lst (acc ++ [y]))) else EL.R.no
      | _ => .no) = .ok w h' := e4
    split at e4'
    · rename_i acc ha
      split at e4'
      · cases e4'
        exact ⟨acc, ha, by assumption, rfl, rfl⟩
      · cases e4'
    · cases e4'
  refine ⟨ρ, h, sw, x, h1, rh, rs, e1, fun ρ1 H1 x' l1 rh1 rx => ?_⟩
  cases rx with
  | @ref p A hp =>
    obtain ⟨eh, xs, hx⟩ := chkL_of e0
    subst eh
    obtain ⟨vs0, ea0, _⟩ := rh1.lst hp hx
    refine ⟨.inl ⟨rfl, vs0, .of ea0⟩, ρ1, _, sw, y, h2, rh1, rs.mono l1, e3, fun ρ2 H2 y' l2 rh2 ry => ?_⟩
    obtain ⟨acc, ha, hl, rfl, rfl⟩ := key rfl
    obtain ⟨vs, ea, rv⟩ := rh2.lst (pre_get l2.pre hp) ha
    have lu : Le X.K ρ2 H2 ρ2 (upd H2 A (.lst (vs ++ [y']))) := le_mut ea trivial
    refine ⟨A, vs, y', rfl, rfl, ea, by rw [← rv.length, ← lim_eq]; exact hl, k ρ2 _ .non (l1.trans (l2.trans lu)) (rh2.set (pre_get l2.pre hp) ea trivial ⟨_, upd_same, ?_⟩) .non⟩
    exact (rv.append (.cons ry .nil)).mono lu
  | _ => cases e4
/-- a, b = x, y -/
def sPar2 (i j : Nat) (a : MA) : MS := fun sw => bnd (a sw) fun ws => match ws with
  | [x, y] => rtn (.nx ((sw.set i (some x)).set j (some y)))
  | _ => bad
theorem rs_par2 (i j : Nat) {x y : Str} {px py pt : Pos} {kt k2 pt2} (hN : X.N.Nodup) (ha : RA X cm [a, b] mr) (hc : X.calm = true := by rfl) (hi : X.N[i]? = some x := by rfl) (hj : X.N[j]? = some y := by rfl) (hij : i ≠ j := by decide) (hx : X.env.scope.names.lookup x = some .local := by rfl) (hy : X.env.scope.names.lookup y = some .local := by rfl)
    (hw : swappedStores [.Tuple [.Name x px, .Name y py] kt pt] (.Tuple [a, b] k2 pt2) X.env = pure (some [x, y]) := by rfl) (hs : swapsWithSole [.Tuple [.Name x px, .Name y py] kt pt] (.Tuple [a, b] k2 pt2) pos.line X.env = pure false := by rfl) :
    RS X cm (.Assign [.Tuple [.Name x px, .Name y py] kt pt] (.Tuple [a, b] k2 pt2) pos) (sPar2 i j mr) := by
  refine psM (ps_par hc hN hi hj hij hx hy ha hw hs) fun D σ H q => ?_
  obtain ⟨ρ, h, sw, f, h', rh, rs, e, k⟩ := q
  obtain ⟨ws, h1, e1, e2⟩ := bnd_ok e
  refine ⟨ρ, h, sw, ws, h1, rh, rs, e1, fun ρ1 H1 vs l1 rh1 rx => ?_⟩
  split at e2
  · cases e2
    obtain ⟨v, u, rfl, r1, r2⟩ := two_of rx
    exact ⟨v, u, rfl, k ρ1 H1 _ l1 rh1 (((rs.mono l1).set r1 i).set r2 j)⟩
  · cases e2
/-- a, b, c = x, y, z -/
def sPar3 (i j l : Nat) (a : MA) : MS := fun sw => bnd (a sw) fun ws => match ws with
  | [x, y, z] => rtn (.nx (((sw.set i (some x)).set j (some y)).set l (some z)))
  | _ => bad
theorem rs_par3 (i j l : Nat) {x y z : Str} {px py pz pt : Pos} {kt k2 pt2} (hN : X.N.Nodup) (ha : RA X cm [a, b, c] mr) (hc : X.calm = true := by rfl) (hi : X.N[i]? = some x := by rfl) (hj : X.N[j]? = some y := by rfl) (hl : X.N[l]? = some z := by rfl) (hij : i ≠ j := by decide) (hil : i ≠ l := by decide) (hjl : j ≠ l := by decide)
    (hx : X.env.scope.names.lookup x = some .local := by rfl) (hy : X.env.scope.names.lookup y = some .local := by rfl) (hz : X.env.scope.names.lookup z = some .local := by rfl)
    (hw : swappedStores [.Tuple [.Name x px, .Name y py, .Name z pz] kt pt] (.Tuple [a, b, c] k2 pt2) X.env = pure (some [x, y, z]) := by rfl) (hs : swapsWithSole [.Tuple [.Name x px, .Name y py, .Name z pz] kt pt] (.Tuple [a, b, c] k2 pt2) pos.line X.env = pure false := by rfl) :
    RS X cm (.Assign [.Tuple [.Name x px, .Name y py, .Name z pz] kt pt] (.Tuple [a, b, c] k2 pt2) pos) (sPar3 i j l mr) := by
  refine psM (ps_par3 hc hN hi hj hl hij hil hjl hx hy hz ha hw hs) fun D σ H q => ?_
  obtain ⟨ρ, h, sw, f, h', rh, rs, e, k⟩ := q
  obtain ⟨ws, h1, e1, e2⟩ := bnd_ok e
  refine ⟨ρ, h, sw, ws, h1, rh, rs, e1, fun ρ1 H1 vs l1 rh1 rx => ?_⟩
  split at e2
  · cases e2
    cases rx with
    | cons r1 t =>
      obtain ⟨v, u, rfl, r2, r3⟩ := two_of t
      exact ⟨_, v, u, rfl, k ρ1 H1 _ l1 rh1 ((((rs.mono l1).set r1 i).set r2 j).set r3 l)⟩
  · cases e2
def fAddI : W → W → M W
  | .int i, .int j => rtn (.int (i + j))
  | _, _ => bad
theorem wIpAdd : IpW X.K cm (ipI fun i j => i + j) fAddI := by
  intro ρ h H x y x' y' z h' Q rh rx ry e k
  cases rx with
  | int i =>
    cases ry with
    | int j =>
      cases e
      exact ⟨i, j, rfl, rfl, k.at rh (.int _)⟩
    | _ => cases e
  | _ => cases ry <;> cases e
theorem wIpSub : IpW X.K cm (ipI fun i j => i - j) fSub := by
  intro ρ h H x y x' y' z h' Q rh rx ry e k
  cases rx with
  | int i =>
    cases ry with
    | int j =>
      cases e
      exact ⟨i, j, rfl, rfl, k.at rh (.int _)⟩
    | _ => cases e
  | _ => cases ry <;> cases e
end
/-! ### the law's promise -/
def spLaw (K : PySem.W.Frag) : Sp := fun vs H Q _ => ∃ (a : Addr) (ns : List Int), vs = [.ref a] ∧ Only H ∧ SqL K H a (ns.map V.int) ∧ ns.length ≤ 63 ∧ ∀ H', Q (.bl true) H'
theorem law_imp {P : Program} {w : World} {K : PySem.W.Frag} {mg : Str → Option Value} {base : Heap} {cm : Cm} {k : Nat} {f : Addr} {fd : FuncData} {ps : List Str} {m : List W → M W} (F : FnOk P w K mg base CX0 k f fd ps (spM K cm m))
    (T : ∀ ns : List Int, ns.length ≤ 63 → ∃ h', m [.rol (ns.map W.int)] [] = .ok (.bl true) h') : FnOk P w K mg base CX0 k f fd ps (spLaw K) := F.imp fun vs H Q E h => by
  obtain ⟨a, ns, rfl, hO, hS, hl, q⟩ := h
  obtain ⟨h', e⟩ := T ns hl
  have hp : SqP K H a (ns.map V.int) := by
    rcases hS with (hS | hS) | hS
    · rcases hO a with z | ⟨o, xs, z⟩
      · rw [z] at hS; cases hS
      · rw [z] at hS; cases hS
    · exact .inl hS
    · exact .inr hS
  refine ⟨[], [], [.rol (ns.map W.int)], .bl true, h', ⟨rfl, .nil, fun i o a e => by simp at e⟩, .cons (.rol hp (.ints ns)) .nil, e, fun ρ' H' v l rh r => ?_⟩
  cases r
  exact q H'
end EL
/-! EL7: reading the plain functions, from the left: what must hold behind each. -/
namespace EL
open PySem PySem.Spec L2
open PyProof.Rows hiding St
theorem okT {A B : Prop} (p : A) : (true = true → A) ∧ (true = false → B) := ⟨fun _ => p, fun z => nomatch z⟩
theorem okF {A B : Prop} (p : B) : (false = true → A) ∧ (false = false → B) := ⟨fun z => (nomatch z), fun _ => p⟩
theorem okNT {A B : Prop} (p : B) : ((!true) = true → A) ∧ ((!true) = false → B) := ⟨fun z => (nomatch z), fun _ => p⟩
theorem okNF {A B : Prop} (p : A) : ((!false) = true → A) ∧ ((!false) = false → B) := ⟨fun _ => p, fun z => nomatch z⟩
theorem okLim {xs : List W} {A : Prop} (e : Nat.ble xs.length lim = true) (p : A) : xs.length ≤ lim ∧ A := ⟨Nat.le_of_ble_eq_true e, p⟩
theorem okE {b : Bool} {A : Bool → Prop} (p : A b) : ∃ k, W.bl b = W.bl k ∧ A k := ⟨b, rfl, p⟩
theorem okEI {b : Int} {A : Int → Prop} (p : A b) : ∃ k, W.int b = W.int k ∧ A k := ⟨b, rfl, p⟩
theorem okB {b : Bool} {A B : Prop} (k : b = true) (p : A) : (b = true → A) ∧ (b = false → B) := ⟨fun _ => p, fun z => by rw [k] at z; cases z⟩
theorem okBF {b : Bool} {A B : Prop} (k : b = false) (p : B) : (b = true → A) ∧ (b = false → B) := ⟨fun z => (by rw [k] at z; cases z), fun _ => p⟩
def Ok {α : Type} (m : M α) (h : Hw) (P : α → Hw → Prop) : Prop := ∃ a h', m h = .ok a h' ∧ P a h'
theorem Ok.imp {α : Type} {m : M α} {h : Hw} {P P' : α → Hw → Prop} (o : Ok m h P) (f : ∀ a h', P a h' → P' a h') : Ok m h P' :=
  let ⟨a, h', e, p⟩ := o
  ⟨a, h', e, f a h' p⟩
theorem ok_rtn {α : Type} {a : α} {h : Hw} {P : α → Hw → Prop} (p : P a h) : Ok (rtn a) h P := ⟨a, h, rfl, p⟩
theorem ok_bnd {α β : Type} {m : M α} {f : α → M β} {h : Hw} {P : β → Hw → Prop} (o : Ok m h fun a h1 => Ok (f a) h1 P) : Ok (bnd m f) h P := by
  obtain ⟨a, h1, e, b, h2, e2, p⟩ := o
  exact ⟨b, h2, by unfold bnd; rw [e]; exact e2, p⟩
theorem bnd_of {α β : Type} {m : M α} {f : α → M β} {h h' : Hw} {a : α} (e : m h = .ok a h') : bnd m f h = f a h' := by
  unfold bnd
  rw [e]
section
variable {sw : SW} {h : Hw} {P : W → Hw → Prop} {PB : Bool → Hw → Prop} {PF : Fl → Hw → Prop} {PL : List W → Hw → Prop} {a b c : ME} {t u : MT} {ma mr : MA} {f g : W → W → M W} {s s' : MS}
theorem ok_var {i : Nat} {w : W} (e : sw[i]? = some (some w)) (p : P w h) : Ok (mVar i sw) h P := ⟨w, h, by unfold mVar; rw [e], p⟩
theorem ok_c {w : W} (p : P w h) : Ok (mC w sw) h P := ⟨w, h, rfl, p⟩
theorem ok_bin (o : Ok (a sw) h fun x h1 => Ok (b sw) h1 fun y h2 => Ok (f x y) h2 P) : Ok (mBin f a b sw) h P :=
  ok_bnd (o.imp fun _ _ o => ok_bnd o)
theorem ok_un {f : W → M W} (o : Ok (a sw) h fun x h1 => Ok (f x) h1 P) : Ok (mUn f a sw) h P := ok_bnd o
theorem ok_ch (o : Ok (a sw) h fun x h1 => Ok (b sw) h1 fun y h2 => Ok (f x y) h2 fun z h3 => ∃ k, z = .bl k ∧ (k = true → Ok (c sw) h3 fun v h4 => Ok (g y v) h4 P) ∧ (k = false → P (.bl false) h3)) : Ok (mCh f g a b c sw) h P :=
  ok_bnd (o.imp fun _ _ o => ok_bnd (o.imp fun _ _ o => ok_bnd (o.imp fun z h3 o => by
    obtain ⟨k, rfl, o1, o2⟩ := o
    cases k with
    | true => exact ok_bnd (o1 rfl)
    | false => exact ok_rtn (o2 rfl))))
theorem ok_aNil (p : PL [] h) : Ok (aNil sw) h PL := ok_rtn p
theorem ok_aCons (o : Ok (a sw) h fun x h1 => Ok (mr sw) h1 fun xs h2 => PL (x :: xs) h2) : Ok (aCons a mr sw) h PL := ok_bnd (o.imp fun _ _ o => ok_bnd (o.imp fun _ _ p => ok_rtn p))
theorem ok_call {f : List W → M W} (o : Ok (mr sw) h fun ws h1 => Ok (f ws) h1 P) : Ok (mCall f mr sw) h P := ok_bnd o
theorem ok_tup (o : Ok (mr sw) h fun ws h1 => ws.length ≤ lim ∧ P (.tup ws) h1) : Ok (mTup mr sw) h P := ok_bnd (o.imp fun _ _ o => by
  rw [if_pos o.1]
  exact ok_rtn o.2)
theorem ok_lst (o : Ok (mr sw) h fun ws h1 => ws.length ≤ lim ∧ P (.ref h1.length) (h1 ++ [.lst ws])) : Ok (mLst mr sw) h P := ok_bnd (o.imp fun _ _ o => by
  rw [if_pos o.1]
  exact ⟨_, _, rfl, o.2⟩)
theorem ok_dnew (p : P (.ref h.length) (h ++ [.dK []])) : Ok (mDnew sw) h P := ⟨_, _, rfl, p⟩
theorem ok_tVal (o : Ok (a sw) h fun x h1 => ∃ k, x = .bl k ∧ PB k h1) : Ok (tVal a sw) h PB := ok_bnd (o.imp fun x _ o => by
  obtain ⟨k, rfl, p⟩ := o
  exact ok_rtn p)
theorem ok_tTru (o : Ok (a sw) h fun x h1 => Ok (tru x) h1 PB) : Ok (tTru a sw) h PB := ok_bnd o
theorem ok_tru_bl {k : Bool} (p : PB k h) : Ok (tru (.bl k)) h PB := ⟨k, h, rfl, p⟩
theorem ok_tNot (o : Ok (t sw) h fun x h1 => PB (!x) h1) : Ok (tNot t sw) h PB := ok_bnd (o.imp fun _ _ p => ok_rtn p)
theorem ok_tAnd (o : Ok (t sw) h fun x h1 => (x = true → Ok (u sw) h1 PB) ∧ (x = false → PB false h1)) : Ok (tAnd t u sw) h PB := ok_bnd (o.imp fun x _ o => by
  cases x with
  | true => rw [if_pos rfl]; exact o.1 rfl
  | false => rw [if_neg Bool.false_ne_true]; exact ok_rtn (o.2 rfl))
theorem ok_tOr (o : Ok (t sw) h fun x h1 => (x = true → PB true h1) ∧ (x = false → Ok (u sw) h1 PB)) : Ok (tOr t u sw) h PB := ok_bnd (o.imp fun x _ o => by
  cases x with
  | true => rw [if_pos rfl]; exact ok_rtn (o.1 rfl)
  | false => rw [if_neg Bool.false_ne_true]; exact o.2 rfl)
theorem ok_mAnd (o : Ok (a sw) h fun x h1 => ∃ k, x = .bl k ∧ (k = true → Ok (b sw) h1 P) ∧ (k = false → P (.bl false) h1)) : Ok (mAnd a b sw) h P := ok_bnd (o.imp fun x _ o => by
  obtain ⟨k, rfl, o⟩ := o
  cases k with
  | true => exact o.1 rfl
  | false => exact ok_rtn (o.2 rfl))
theorem ok_mOr (o : Ok (a sw) h fun x h1 => ∃ k, x = .bl k ∧ (k = true → P (.bl true) h1) ∧ (k = false → Ok (b sw) h1 P)) : Ok (mOr a b sw) h P := ok_bnd (o.imp fun x _ o => by
  obtain ⟨k, rfl, o⟩ := o
  cases k with
  | true => exact ok_rtn (o.1 rfl)
  | false => exact o.2 rfl)
theorem ok_mNot (o : Ok (a sw) h fun x h1 => ∃ k, x = .bl k ∧ P (.bl (!k)) h1) : Ok (mNot a sw) h P := ok_bnd (o.imp fun x _ o => by
  obtain ⟨k, rfl, p⟩ := o
  exact ok_rtn p)
theorem ok_mIf (o : Ok (t sw) h fun x h1 => (x = true → Ok (a sw) h1 P) ∧ (x = false → Ok (b sw) h1 P)) : Ok (mIf t a b sw) h P := ok_bnd (o.imp fun x _ o => by
  cases x with
  | true => rw [if_pos rfl]; exact o.1 rfl
  | false => rw [if_neg Bool.false_ne_true]; exact o.2 rfl)
theorem ok_sSeq (o : Ok (s sw) h fun f h1 => match f with
    | .nx s1 => Ok (s' s1) h1 PF
    | f => PF f h1) : Ok (sSeq s s' sw) h PF := ok_bnd (o.imp fun f _ o => by
  cases f with
  | nx s1 => exact o
  | rt w => exact ok_rtn o
  | bk s1 => exact ok_rtn o
  | ct s1 => exact ok_rtn o)
theorem ok_sNil (p : PF (.nx sw) h) : Ok (sNil sw) h PF := ok_rtn p
theorem ok_sIf (o : Ok (t sw) h fun x h1 => (x = true → Ok (s sw) h1 PF) ∧ (x = false → Ok (s' sw) h1 PF)) : Ok (sIf t s s' sw) h PF := ok_bnd (o.imp fun x _ o => by
  cases x with
  | true => rw [if_pos rfl]; exact o.1 rfl
  | false => rw [if_neg Bool.false_ne_true]; exact o.2 rfl)
theorem ok_sRet (o : Ok (a sw) h fun x h1 => PF (.rt x) h1) : Ok (sRet a sw) h PF := ok_bnd (o.imp fun _ _ p => ok_rtn p)
theorem ok_sExp (o : Ok (a sw) h fun x h1 => PF (.nx sw) h1) : Ok (sExp a sw) h PF := ok_bnd (o.imp fun _ _ p => ok_rtn p)
theorem ok_sAsg {g : MG} (o : Ok (a sw) h fun x h1 => Ok (g x sw) h1 fun s h2 => PF (.nx s) h2) : Ok (sAsg g a sw) h PF := ok_bnd (o.imp fun _ _ o => ok_bnd (o.imp fun _ _ p => ok_rtn p))
theorem ok_gNm {i : Nat} {w : W} {PS : SW → Hw → Prop} (p : PS (sw.set i (some w)) h) : Ok (gNm i w sw) h PS := ok_rtn p
theorem ok_gNm' {i : Nat} {w : W} {s0 : SW} {PS : SW → Hw → Prop} (e : sw.set i (some w) = s0) (p : PS s0 h) : Ok (gNm i w sw) h PS := by
  subst e
  exact ok_rtn p
theorem ok_gTu {n : Nat} {r : List W → SW → M SW} {ws : List W} {PS : SW → Hw → Prop} (e : ws.length = n) (o : Ok (r ws sw) h PS) : Ok (gTu n r (.tup ws) sw) h PS := by
  show Ok (if ws.length = n then r ws sw else bad) h PS
  rw [if_pos e]
  exact o
theorem ok_gsCons {g : MG} {r : List W → SW → M SW} {w : W} {ws : List W} {PS : SW → Hw → Prop} (o : Ok (g w sw) h fun s h1 => Ok (r ws s) h1 PS) : Ok (gsCons g r (w :: ws) sw) h PS := ok_bnd o
theorem ok_gsNil {PS : SW → Hw → Prop} (p : PS sw h) : Ok (gsNil [] sw) h PS := ok_rtn p
theorem ok_gSubL {w : W} {PS : SW → Hw → Prop} (o : Ok (a sw) h fun x h1 => Ok (b sw) h1 fun y h2 => Ok (wSet x y w) h2 fun _ h3 => PS sw h3) : Ok (gSubL a b w sw) h PS :=
  ok_bnd (o.imp fun _ _ o => ok_bnd (o.imp fun _ _ o => ok_bnd (o.imp fun _ _ p => ok_rtn p)))
theorem ok_mFn {n N : Nat} {m : MS} {ws : List W} (e : ws.length = n) (o : Ok (m (ws.map some ++ List.replicate (N - n) none)) h fun f h1 => match f with
    | .rt w => P w h1
    | .nx _ => P .non h1
    | _ => False) : Ok (mFn n N m ws) h P := by
  unfold mFn
  rw [if_pos e]
  exact ok_bnd (o.imp fun f h1 o => by
    cases f with
    | rt w => exact ok_rtn o
    | nx s => exact ok_rtn o
    | bk s => exact o.elim
    | ct s => exact o.elim)
theorem ok_mFn' {n N : Nat} {m : MS} {ws : List W} {s0 : SW} (e : ws.length = n) (e2 : ws.map some ++ List.replicate (N - n) none = s0) (o : Ok (m s0) h fun f h1 => match f with
    | .rt w => P w h1
    | .nx _ => P .non h1
    | _ => False) : Ok (mFn n N m ws) h P := by
  subst e2
  exact ok_mFn e o
theorem ok_addI {i j : Int} (p : P (.int (i + j)) h) : Ok (fAdd (.int i) (.int j)) h P := ok_rtn p
theorem ok_addS {x y : Str} (e : x.length + y.length ≤ lim) (p : P (.str (x ++ y)) h) : Ok (fAdd (.str x) (.str y)) h P := by
  show Ok (if x.length + y.length ≤ lim then rtn (W.str (x ++ y)) else bad) h P
  rw [if_pos e]
  exact ok_rtn p
theorem ok_addL {p q : Nat} {xs ys : List W} (e1 : h[p]? = some (.lst xs)) (e2 : h[q]? = some (.lst ys)) (e : xs.length + ys.length ≤ lim) (o : P (.ref h.length) (h ++ [.lst (xs ++ ys)])) : Ok (fAdd (.ref p) (.ref q)) h P := by
  refine ⟨_, _, ?_, o⟩
  show (match h[p]?, h[q]? with
    | some (.lst xs), some (.lst ys) => if xs.length + ys.length ≤ lim then alloc (.lst (xs ++ ys)) h else EL.R.no
    | _, _ => EL.R.no) = _
  rw [e1, e2]
  simp only [if_pos e]
  rfl
theorem ok_addT {xs ys : List W} (e : xs.isEmpty = false ∧ xs.length + ys.length ≤ lim) (p : P (.tup (xs ++ ys)) h) : Ok (fAdd (.tup xs) (.tup ys)) h P := by
  show Ok (if xs.isEmpty = false ∧ xs.length + ys.length ≤ lim then rtn (W.tup (xs ++ ys)) else bad) h P
  rw [if_pos e]
  exact ok_rtn p
theorem ok_subI {i j : Int} (p : P (.int (i - j)) h) : Ok (fSub (.int i) (.int j)) h P := ok_rtn p
theorem ok_negI {i : Int} (p : P (.int (-i)) h) : Ok (fNeg (.int i)) h P := ok_rtn p
theorem ok_mulI {i j : Int} (e : mulOk i j = true) (p : P (.int (i * j)) h) : Ok (fMul (.int i) (.int j)) h P := by
  show Ok (if mulOk i j = true then rtn (W.int (i * j)) else bad) h P
  rw [if_pos e]
  exact ok_rtn p
theorem mulOk_l {i j : Int} (h1 : -18446744073709551616 < i) (h2 : i < 18446744073709551616) : mulOk i j = true := by
  unfold mulOk
  simp [h1, h2]
theorem mulOk_r {i j : Int} (h1 : -18446744073709551616 < j) (h2 : j < 18446744073709551616) : mulOk i j = true := by
  unfold mulOk
  simp [h1, h2]
theorem ok_divI {i j : Int} (e : 0 < j ∧ j.natAbs.log2 < 9000) (p : P (.int (i / j)) h) : Ok (fDiv (.int i) (.int j)) h P := by
  show Ok (if 0 < j ∧ j.natAbs.log2 < 9000 then rtn (W.int (i / j)) else bad) h P
  rw [if_pos e]
  exact ok_rtn p
theorem ok_modI {i j : Int} (e : 0 < j) (p : P (.int (i % j)) h) : Ok (fMod (.int i) (.int j)) h P := by
  show Ok (if 0 < j then rtn (W.int (i % j)) else bad) h P
  rw [if_pos e]
  exact ok_rtn p
theorem ok_powI {i j : Int} (e : (0 ≤ j ∧ j ≤ 1000000) ∧ i.natAbs < 18446744073709551616) (p : P (.int (i ^ j.toNat)) h) : Ok (fPow (.int i) (.int j)) h P := by
  show Ok (if (0 ≤ j ∧ j ≤ 1000000) ∧ i.natAbs < 18446744073709551616 then rtn (W.int (i ^ j.toNat)) else bad) h P
  rw [if_pos e]
  exact ok_rtn p
theorem ok_cmpI {pi : Int → Int → Bool} {ps : List Nat → List Nat → Bool} {i j : Int} (p : P (.bl (pi i j)) h) : Ok (fCmp pi ps (.int i) (.int j)) h P := ok_rtn p
theorem ok_cmpS {pi : Int → Int → Bool} {ps : List Nat → List Nat → Bool} {i j : Str} (p : P (.bl (ps i.cps.toList j.cps.toList)) h) : Ok (fCmp pi ps (.str i) (.str j)) h P := ok_rtn p
theorem ok_isB {neg : Bool} {i j : Bool} (p : P (.bl (neg != decide (i = j))) h) : Ok (fIs neg (.bl i) (.bl j)) h P := ok_rtn p
theorem ok_isN {neg : Bool} {x : W} (hx : x ≠ .non) (p : P (.bl neg) h) : Ok (fIs neg x .non) h P := by
  cases x with
  | non => exact absurd rfl hx
  | _ => exact ok_rtn p
theorem ok_isNN {neg : Bool} (p : P (.bl (!neg)) h) : Ok (fIs neg .non .non) h P := ok_rtn p
theorem ok_ixT {xs : List W} {i : Int} {w : W} (e : atI xs i = some w) (p : P w h) : Ok (fIx (.tup xs) (.int i)) h P := by
  refine ⟨w, h, ?_, p⟩
  show (match atI xs i with
    | some w => EL.R.ok w h
    | none => EL.R.no) = _
  rw [e]
theorem ok_ixS {x : Str} {i : Int} {c : Nat} (hl : x.length ≤ lim) (e : atI x.cps.toList i = some c) (p : P (.str ⟨#[c]⟩) h) : Ok (fIx (.str x) (.int i)) h P := by
  refine ⟨_, h, ?_, p⟩
  show (if x.length ≤ lim then (match atI x.cps.toList i with
    | some c => EL.R.ok (W.str ⟨#[c]⟩) h
    | none => EL.R.no) else EL.R.no) = _
  rw [if_pos hl, e]
theorem ok_ixL {q : Nat} {xs : List W} {i : Int} {w : W} (el : h[q]? = some (.lst xs)) (e : atI xs i = some w) (p : P w h) : Ok (fIx (.ref q) (.int i)) h P := by
  refine ⟨w, h, ?_, p⟩
  show (match (match h[q]? with
    | some (.lst xs) => some xs
    | _ => none) with
    | some xs => (match atI xs i with
      | some w => EL.R.ok w h
      | none => EL.R.no)
    | none => EL.R.no) = _
  rw [el]
  simp only [e]
theorem ok_ixR {xs : List W} {i : Int} {w : W} (e : atI xs i = some w) (p : P w h) : Ok (fIx (.rol xs) (.int i)) h P := by
  refine ⟨w, h, ?_, p⟩
  show (match atI xs i with
    | some w => EL.R.ok w h
    | none => EL.R.no) = _
  rw [e]
theorem ok_set {q : Nat} {xs : List W} {i : Int} {j : Nat} {w : W} {PU : Unit → Hw → Prop} (el : h[q]? = some (.lst xs)) (e : ixN xs.length i = some j) (p : PU () (h.set q (.lst (xs.set j w)))) : Ok (wSet (.ref q) (.int i) w) h PU := by
  refine ⟨(), _, ?_, p⟩
  show (match h[q]? with
    | some (.lst xs) => (match ixN xs.length i with
      | some j => EL.R.ok () (h.set q (.lst (xs.set j w)))
      | none => EL.R.no)
    | _ => EL.R.no) = _
  rw [el]
  simp only [e]
theorem ok_int1 {i : Int} (p : P (.int i) h) : Ok (bInt [.int i]) h P := ok_rtn p
theorem ok_int2 {k : Bool} (p : P (.int (if k then 1 else 0)) h) : Ok (bInt [.bl k]) h P := ok_rtn p
theorem ok_abs {i : Int} (p : P (.int (if i < 0 then -i else i)) h) : Ok (bAbs [.int i]) h P := ok_rtn p
theorem ok_max {i j : Int} (p : P (.int (if j > i then j else i)) h) : Ok (bMax [.int i, .int j]) h P := ok_rtn p
theorem ok_min {i j : Int} (p : P (.int (if j < i then j else i)) h) : Ok (bMin [.int i, .int j]) h P := ok_rtn p
theorem ok_lenS {x : Str} (hl : x.length ≤ lim) (p : P (.int x.length) h) : Ok (bLen [.str x]) h P := by
  show Ok (fun h => if x.length ≤ lim then EL.R.ok (W.int x.length) h else EL.R.no) h P
  exact ⟨_, h, by simp only [if_pos hl], p⟩
theorem ok_lenT {xs : List W} (p : P (.int xs.length) h) : Ok (bLen [.tup xs]) h P := ⟨_, h, rfl, p⟩
theorem ok_lenR {xs : List W} (p : P (.int xs.length) h) : Ok (bLen [.rol xs]) h P := ⟨_, h, rfl, p⟩
theorem ok_lenL {q : Nat} {xs : List W} (el : h[q]? = some (.lst xs)) (p : P (.int xs.length) h) : Ok (bLen [.ref q]) h P := by
  refine ⟨_, h, ?_, p⟩
  show (match (match h[q]? with
    | some (.lst xs) => some xs
    | _ => none) with
    | some xs => EL.R.ok (W.int xs.length) h
    | none => EL.R.no) = _
  rw [el]
theorem wInts_map : ∀ ns : List Int, wInts (ns.map W.int) = some ns
  | [] => rfl
  | n :: r => by
    have q := wInts_map r
    unfold wInts at q ⊢
    rw [List.map_cons]
    unfold mapO
    rw [q]
theorem wStrs_map : ∀ ns : List Str, wStrs (ns.map W.str) = some ns
  | [] => rfl
  | n :: r => by
    have q := wStrs_map r
    unfold wStrs at q ⊢
    rw [List.map_cons]
    unfold mapO
    rw [q]
theorem wBls_map : ∀ ns : List Bool, wBls (ns.map W.bl) = some ns
  | [] => rfl
  | n :: r => by
    have q := wBls_map r
    unfold wBls at q ⊢
    rw [List.map_cons]
    unfold mapO
    rw [q]
theorem ok_sumL {q : Nat} {ns : List Int} (el : h[q]? = some (.lst (ns.map W.int))) (p : P (.int ns.sum) h) : Ok (bSum [.ref q]) h P := by
  refine ⟨_, h, ?_, p⟩
  show (match (match h[q]? with
    | some (.lst xs) => some xs
    | _ => none) with
    | some xs => (match wInts xs with
      | some ns => EL.R.ok (W.int ns.sum) h
      | none => EL.R.no)
    | none => EL.R.no) = _
  rw [el]
  simp only [wInts_map]
theorem ok_allL {q : Nat} {ns : List Bool} (el : h[q]? = some (.lst (ns.map W.bl))) (p : P (.bl (ns.all id)) h) : Ok (bAll [.ref q]) h P := by
  refine ⟨_, h, ?_, p⟩
  show (match (match h[q]? with
    | some (.lst xs) => some xs
    | _ => none) with
    | some xs => (match wBls xs with
      | some ns => EL.R.ok (W.bl (ns.all id)) h
      | none => EL.R.no)
    | none => EL.R.no) = _
  rw [el]
  simp only [wBls_map]
theorem ok_joinL {q : Nat} {x : Str} {ys : List Str} (el : h[q]? = some (.lst (ys.map W.str))) (hl : (ys.map Str.length).sum + ys.length * x.length ≤ lim) (p : P (.str (Txt.join x ys)) h) : Ok (fJoin (.str x) (.ref q)) h P := by
  refine ⟨_, h, ?_, p⟩
  show (match (match h[q]? with
    | some (.lst xs) => some xs
    | _ => none) with
    | some xs => (match wStrs xs with
      | some ys => if (ys.map Str.length).sum + ys.length * x.length ≤ lim then EL.R.ok (W.str (Txt.join x ys)) h else EL.R.no
      | none => EL.R.no)
    | none => EL.R.no) = _
  rw [el]
  simp only [wStrs_map, if_pos hl]
theorem ok_sl {l u : MO} (o : Ok (a sw) h fun x h1 => Ok (l sw) h1 fun lo h2 => Ok (u sw) h2 fun hi h3 => Ok (fSl x lo hi) h3 P) : Ok (mSl a l u sw) h P := ok_bnd (o.imp fun _ _ o => ok_bnd (o.imp fun _ _ o => ok_bnd o))
theorem ok_oNo {PO : Option Int → Hw → Prop} (p : PO none h) : Ok (oNo sw) h PO := ok_rtn p
theorem ok_oSo {PO : Option Int → Hw → Prop} (o : Ok (a sw) h fun x h1 => ∃ i, x = .int i ∧ PO (some i) h1) : Ok (oSo a sw) h PO := ok_bnd (o.imp fun x _ o => by
  obtain ⟨i, rfl, p⟩ := o
  exact ok_rtn p)
theorem ok_slS {x : Str} {lo hi : Option Int} (hl : x.length ≤ lim) (p : P (.str (cutS x lo hi)) h) : Ok (fSl (.str x) lo hi) h P := by
  refine ⟨_, h, ?_, p⟩
  show (if x.length ≤ lim then EL.R.ok (W.str (cutS x lo hi)) h else EL.R.no) = _
  rw [if_pos hl]
theorem ok_slL {q : Nat} {xs : List W} {lo hi : Option Int} (el : h[q]? = some (.lst xs)) (p : P (.ref h.length) (h ++ [.lst (cutW xs lo hi)])) : Ok (fSl (.ref q) lo hi) h P := by
  refine ⟨_, _, ?_, p⟩
  show (match (match h[q]? with
    | some (.lst xs) => some xs
    | _ => none) with
    | some xs => alloc (.lst (cutW xs lo hi)) h
    | none => EL.R.no) = _
  rw [el]
  rfl
theorem ok_slR {xs : List W} {lo hi : Option Int} (p : P (.ref h.length) (h ++ [.lst (cutW xs lo hi)])) : Ok (fSl (.rol xs) lo hi) h P := ⟨_, _, rfl, p⟩
theorem ok_isi {T : String} (o : Ok (a sw) h fun x h1 => ∃ n k, tyName h1 x = some n ∧ kitB n T = some k ∧ P (.bl k) h1) : Ok (mIsi T a sw) h P := ok_bnd (o.imp fun x h1 o => by
  obtain ⟨n, k, e1, e2, p⟩ := o
  exact ⟨_, h1, by simp only [e1, e2], p⟩)
theorem ok_eq {neg : Bool} {x y : W} {d e : PyData} (e1 : toD h 8 x = some d) (e2 : toD h 8 y = some e) (es : (SeqAt.shaped d && SeqAt.shaped e) = true) (p : P (.bl (neg != PyData.eqv d e)) h) : Ok (fEq neg x y) h P := by
  refine ⟨_, h, ?_, p⟩
  unfold fEq
  rw [e1, e2]
  simp only [es, if_true]
theorem ok_reprB {k : Bool} (p : P (.str (if k then Str.ofString "True" else Str.ofString "False")) h) : Ok (bRepr [.bl k]) h P := ok_rtn p
theorem ok_in1 {neg : Bool} {c : Nat} {z : Str} (p : P (.bl (neg != decide (c ∈ z.cps.toList))) h) : Ok (fIn neg (.str ⟨#[c]⟩) (.str z)) h P := by
  have e : (!(Builtin.Str.occurrences z ⟨#[c]⟩ 0 z.length 1).isEmpty) = decide (c ∈ z.cps.toList) := PySem.StrLaws.found_one z c
  refine ⟨_, h, rfl, ?_⟩
  rw [e]
  exact p
end

/-! ### loops -/
/-- a for over written items: Inv by the number of turns -/
theorem ok_sFor {src : Src} {g : MG} {b : MS} {sw : SW} {h : Hw} {PF : Fl → Hw → Prop} (Inv : Nat → SW → Hw → Prop) {n : Nat} (N : Nat) (hN : n ≤ N) (h0 : Inv 0 sw h)
    (hs : ∀ i sw h, i < n → Inv i sw h → ∃ x, src.item i h = some (some x) ∧ Ok (g x sw) h fun s h1 => Ok (b s) h1 fun f h2 => match f with
      | .nx s => Inv (i + 1) s h2
      | .ct s => Inv (i + 1) s h2
      | .bk s => PF (.nx s) h2
      | .rt w => PF (.rt w) h2)
    (he : ∀ sw h, Inv n sw h → src.item n h = some none ∧ PF (.nx sw) h) : Ok (sFor src g b 0 (N + 1) sw) h PF := by
  have go : ∀ (k i : Nat) (sw : SW) (h : Hw), i + k = n → Inv i sw h → ∀ m, n < i + m → Ok (sFor src g b i m sw) h PF := by
    intro k
    induction k with
    | zero =>
      intro i sw h e p m hm
      have ei : i = n := by omega
      subst ei
      cases m with
      | zero => omega
      | succ m =>
        obtain ⟨e1, q⟩ := he sw h p
        exact ⟨.nx sw, h, by unfold sFor; rw [e1], q⟩
    | succ k ih =>
      intro i sw h e p m hm
      cases m with
      | zero => omega
      | succ m =>
        obtain ⟨x, e1, o⟩ := hs i sw h (by omega) p
        have o' : Ok (bnd (g x sw) fun s => bnd (b s) fun f => match f with
            | .nx s => sFor src g b (i + 1) m s
            | .ct s => sFor src g b (i + 1) m s
            | .bk s => rtn (.nx s)
            | .rt w => rtn (.rt w)) h PF := ok_bnd (o.imp fun s h1 o => ok_bnd (o.imp fun f h2 o => by
          cases f with
          | nx s => exact ih (i + 1) s h2 (by omega) o m (by omega)
          | ct s => exact ih (i + 1) s h2 (by omega) o m (by omega)
          | bk s => exact ok_rtn o
          | rt w => exact ok_rtn o))
        obtain ⟨f, h2, e2, q⟩ := o'
        exact ⟨f, h2, by unfold sFor; rw [e1]; exact e2, q⟩
  exact go n 0 sw h (by omega) h0 (N + 1) (by omega)
theorem ok_sForI {mi : MI} {g : MG} {b : MS} {sw : SW} {h : Hw} {PF : Fl → Hw → Prop} (o : Ok (mi sw) h fun src h1 => Ok (sFor src.1 g b 0 (src.2 + 1) sw) h1 PF) : Ok (sForI mi g b sw) h PF := ok_bnd o
theorem ok_iAnyL {a : ME} {sw : SW} {h : Hw} {PI : Src × Nat → Hw → Prop} (o : Ok (a sw) h fun x h1 => ∃ p xs, x = .ref p ∧ h1[p]? = some (.lst xs) ∧ PI (.lst p, xs.length) h1) : Ok (iAny a sw) h PI := ok_bnd (o.imp fun x h1 o => by
  obtain ⟨p, xs, rfl, e, q⟩ := o
  exact ⟨_, h1, by simp only [e], q⟩)
theorem ok_iAnyT {a : ME} {sw : SW} {h : Hw} {PI : Src × Nat → Hw → Prop} (o : Ok (a sw) h fun x h1 => ∃ xs, x = .tup xs ∧ PI (.tup xs, xs.length) h1) : Ok (iAny a sw) h PI := ok_bnd (o.imp fun x h1 o => by
  obtain ⟨xs, rfl, q⟩ := o
  exact ⟨_, h1, rfl, q⟩)
theorem ok_iAnyS {a : ME} {sw : SW} {h : Hw} {PI : Src × Nat → Hw → Prop} (o : Ok (a sw) h fun x h1 => ∃ z, x = .str z ∧ PI (.str z, z.cps.size) h1) : Ok (iAny a sw) h PI := ok_bnd (o.imp fun x h1 o => by
  obtain ⟨z, rfl, q⟩ := o
  exact ⟨_, h1, rfl, q⟩)
theorem ok_iRg1 {a : ME} {sw : SW} {h : Hw} {PI : Src × Nat → Hw → Prop} (o : Ok (a sw) h fun x h1 => ∃ j, x = .int j ∧ (-big ≤ j ∧ j < big) ∧ PI (.rng 0 j.toNat, j.toNat) h1) : Ok (iRg1 a sw) h PI := ok_bnd (o.imp fun x h1 o => by
  obtain ⟨j, rfl, e, q⟩ := o
  exact ⟨_, h1, by simp only [if_pos e], q⟩)
theorem ok_iRg2 {a b : ME} {sw : SW} {h : Hw} {PI : Src × Nat → Hw → Prop} (o : Ok (a sw) h fun x h1 => Ok (b sw) h1 fun y h2 => ∃ i j, x = .int i ∧ y = .int j ∧ ((-big ≤ i ∧ i < big) ∧ -big ≤ j ∧ j < big) ∧ PI (.rng i (j - i).toNat, (j - i).toNat) h2) : Ok (iRg2 a b sw) h PI :=
  ok_bnd (o.imp fun x h1 o => ok_bnd (o.imp fun y h2 o => by
    obtain ⟨i, j, rfl, rfl, e, q⟩ := o
    exact ⟨_, h2, by simp only [if_pos e], q⟩))
/-- a comprehension: Inv by the number of turns and what is made so far; the new list stands at D -/
theorem ok_mLc {mi : MI} {g : MG} {t : MT} {e : ME} {vs : List Nat} {sw : SW} {h : Hw} {P : W → Hw → Prop} (Inv : Nat → List W → Hw → Prop) (D : Nat)
    (o : Ok (mi sw) h fun src h1 => D = h1.length ∧ Inv 0 [] (h1 ++ [.lst []]) ∧
      (∀ i acc h, i < src.2 → Inv i acc h → h[D]? = some (.lst acc) → ∃ x, src.1.item i h = some (some x) ∧ Ok (g x (wipeW sw vs)) h fun s h2 => Ok (t s) h2 fun b h3 => (b = true → Ok (e s) h3 fun y h4 => h4[D]? = some (.lst acc) ∧ acc.length < lim ∧ Inv (i + 1) (acc ++ [y]) (h4.set D (.lst (acc ++ [y])))) ∧ (b = false → h3[D]? = some (.lst acc) ∧ Inv (i + 1) acc h3)) ∧
      (∀ acc h, Inv src.2 acc h → h[D]? = some (.lst acc) → src.1.item src.2 h = some none ∧ P (.ref D) h)) : Ok (mLc mi g t e vs sw) h P := by
  refine ok_bnd (o.imp fun src h1 o => ?_)
  obtain ⟨eD, h0, hs, he⟩ := o
  have go : ∀ (k i : Nat) (acc : List W) (h : Hw), i + k = src.2 → Inv i acc h → h[D]? = some (.lst acc) → ∀ m, src.2 < i + m → Ok (lcGo src.1 g t e vs (.ref D) sw i m) h fun _ h' => P (.ref D) h' := by
    intro k
    induction k with
    | zero =>
      intro i acc h ei p hD m hm
      have ei' : i = src.2 := by omega
      subst ei'
      cases m with
      | zero => omega
      | succ m =>
        obtain ⟨e1, q⟩ := he acc h p hD
        exact ⟨(), h, by unfold lcGo; simp only [e1], q⟩
    | succ k ih =>
      intro i acc h ei p hD m hm
      cases m with
      | zero => omega
      | succ m =>
        obtain ⟨x, e1, o⟩ := hs i acc h (by omega) p hD
        have o' : Ok (bnd (g x (wipeW sw vs)) fun s => bnd (t s) fun b => if b = true then bnd (e s) (fun y => bnd (app (.ref D) y) fun _ => lcGo src.1 g t e vs (.ref D) sw (i + 1) m) else lcGo src.1 g t e vs (.ref D) sw (i + 1) m) h fun _ h' => P (.ref D) h' := ok_bnd (o.imp fun s h2 o => ok_bnd (o.imp fun b h3 o => by
          cases b with
          | false =>
            rw [if_neg Bool.false_ne_true]
            obtain ⟨a1, a2⟩ := o.2 rfl
            exact ih (i + 1) acc h3 (by omega) a2 a1 m (by omega)
          | true =>
            rw [if_pos rfl]
            refine ok_bnd ((o.1 rfl).imp fun y h4 o => ?_)
            obtain ⟨a1, a2, a3⟩ := o
            refine ok_bnd ⟨(), h4.set D (.lst (acc ++ [y])), ?_, ?_⟩
            · show (match h4[D]? with
                | some (.lst acc) => if acc.length < lim then EL.R.ok () (h4.set D (.lst (acc ++ [y]))) else EL.R.no
                | _ => EL.R.no) = _
              rw [a1]
              simp only [if_pos a2]
            · refine ih (i + 1) (acc ++ [y]) _ (by omega) a3 ?_ m (by omega)
              rw [List.getElem?_set, if_pos rfl, if_pos (List.getElem?_eq_some_iff.mp a1).1]))
        obtain ⟨u, h2, e2, q⟩ := o'
        exact ⟨u, h2, by unfold lcGo; simp only [e1]; exact e2, q⟩
  subst eD
  refine ok_bnd ⟨.ref h1.length, h1 ++ [.lst []], rfl, ok_bnd ((go src.2 0 [] _ (by omega) h0 (by simp) (src.2 + 1) (by omega)).imp fun _ _ q => ok_rtn q)⟩
end EL
open EL
local macro_rules | `(tactic| walk_at "ok1") => `(tactic| first
  | with_reducible refine ok_sSeq ?_
  | with_reducible refine ok_bin ?_
  | ((with_reducible refine' ok_var ?e ?_); (case e => exact rfl))
  | with_reducible refine ok_c ?_
  | with_reducible refine ok_aCons ?_
  | with_reducible refine ok_aNil ?_
  | with_reducible refine ok_call ?_
  | with_reducible refine ok_sIf ?_
  | with_reducible refine ok_sAsg ?_
  | ((with_reducible refine' ok_gNm' ?e ?_); (case e => (simp only [List.set_cons_zero, List.set_cons_succ]; exact rfl)))
  | with_reducible refine ok_sRet ?_
  | with_reducible refine ok_sExp ?_
  | with_reducible refine ok_sNil ?_
  | with_reducible refine ok_tVal ?_
  | with_reducible refine ok_tTru ?_
  | with_reducible refine ok_tru_bl ?_
  | with_reducible refine ok_tNot ?_
  | with_reducible refine ok_tAnd ?_
  | with_reducible refine ok_tOr ?_
  | with_reducible refine ok_mAnd ?_
  | with_reducible refine ok_mOr ?_
  | with_reducible refine ok_mNot ?_
  | with_reducible refine ok_mIf ?_
  | with_reducible refine ok_un ?_
  | with_reducible refine ok_ch ?_
  | with_reducible refine ok_tup ?_
  | with_reducible refine ok_lst ?_
  | with_reducible refine ok_dnew ?_
  | with_reducible refine ok_sl ?_
  | with_reducible refine ok_oNo ?_
  | with_reducible refine ok_oSo ?_
  | with_reducible refine ok_gSubL ?_
  | with_reducible refine ok_gsNil ?_
  | with_reducible refine ok_gsCons ?_
  | with_reducible refine ok_sForI ?_
  | with_reducible refine ok_isi ?_
  | with_reducible refine ok_addI ?_
  | with_reducible refine ok_subI ?_
  | with_reducible refine ok_negI ?_
  | refine ok_cmpI ?_
  | refine ok_cmpS ?_
  | with_reducible refine ok_isB ?_
  | with_reducible refine ok_int1 ?_
  | with_reducible refine ok_int2 ?_
  | with_reducible refine ok_abs ?_
  | with_reducible refine ok_max ?_
  | with_reducible refine ok_min ?_
  | with_reducible refine ok_reprB ?_
  | with_reducible refine ok_lenR ?_
  | with_reducible refine ok_lenT ?_
  | ((with_reducible refine' okLim ?e ?_); (case e => exact rfl))
  | with_reducible refine okE ?_
  | with_reducible refine okEI ?_
  | with_reducible refine okT ?_
  | with_reducible refine okF ?_
  | with_reducible refine okNT ?_
  | with_reducible refine okNF ?_
  | dsimp only)
local macro_rules | `(tactic| walk_at "ok") => `(tactic| repeat' walk_at "ok1")
local macro_rules | `(tactic| walk_at "okF") => `(tactic| ((with_reducible refine' ok_mFn' ?e1 ?e2 ?_); (case e1 => exact rfl); (case e2 => (simp only [List.map_cons, List.map_nil, List.replicate_succ, List.replicate_zero, List.cons_append, List.nil_append, Nat.reduceSub]; exact rfl)); walk_at "ok"))
/-! EL8: the pool of numbers that a script gives, and what is drawn from it. -/
namespace EL
open PySem PySem.Spec L2
open PyProof.Rows hiding St
def cPool : List W → M W := mFn 2 5 (sSeq (sAsg (gNm 2) (mIf (tVal (mBin fLt (mVar 1) (mCall bLen (aCons (mVar 0) aNil)))) (mBin fIx (mVar 0) (mVar 1)) (mBin fAdd (mBin fMul (mC (.int 7)) (mCall bSum (aCons (mSl (mVar 0) oNo (oSo (mC (.int 63)))) aNil))) (mVar 1))))
    (sSeq (sAsg (gNm 3) (mCall bAbs (aCons (mVar 2) aNil)))
    (sSeq (sAsg (gNm 4) (mBin fAdd (mBin fAdd (mBin fAdd (mBin fMod (mCall bInt (aCons (mVar 3) aNil)) (mC (.int 2147483629))) (mBin fMul (mBin fMul (mC (.int 7919)) (mVar 1)) (mVar 1))) (mBin fMul (mC (.int 31)) (mVar 1))) (mC (.int 17))))
    (sSeq (sAsg (gNm 4) (mBin fMod (mCall bInt (aCons (mBin fMul (mVar 4) (mC (.int 48271))) aNil)) (mC (.int 2147483647))))
    (sRet (mLst (aCons (mBin fMul (mVar 3) (mCall bInt (aCons (mBin fGe (mVar 3) (mBin fPow (mC (.int 10)) (mC (.int 18)))) aNil))) (aCons (mBin fMod (mCall bInt (aCons (mBin fMul (mVar 4) (mVar 4)) aNil)) (mC (.int 2147483629))) aNil))))))))
def cDraw : List W → M W := mFn 2 3 (sSeq (sIf (tVal (mBin fGt (mBin fIx (mVar 0) (mC (.int 0))) (mC (.int 0)))) (sSeq (sAsg (gNm 2) (mBin fMod (mCall bInt (aCons (mBin fIx (mVar 0) (mC (.int 0))) aNil)) (mVar 1)))
    (sSeq (sAsg (gSubL (mVar 0) (mC (.int 0))) (mBin fDiv (mBin fIx (mVar 0) (mC (.int 0))) (mVar 1)))
    (sRet (mVar 2)))) sNil)
    (sSeq (sAsg (gSubL (mVar 0) (mC (.int 1))) (mBin fMod (mCall bInt (aCons (mBin fAdd (mBin fMul (mBin fIx (mVar 0) (mC (.int 1))) (mC (.int 48271))) (mC (.int 11))) aNil)) (mC (.int 2147483647))))
    (sRet (mBin fMod (mCall bInt (aCons (mBin fDiv (mBin fMod (mCall bInt (aCons (mBin fMul (mBin fIx (mVar 0) (mC (.int 1))) (mBin fIx (mVar 0) (mC (.int 1)))) aNil)) (mC (.int 2147483629))) (mC (.int 16))) aNil)) (mVar 1)))))
def cPick : List W → M W := mFn 2 2 (sRet (mBin fIx (mVar 1) (mCall cDraw (aCons (mVar 0) (aCons (mCall bLen (aCons (mVar 1) aNil)) aNil)))))
/-- the pool's two numbers -/
def pl (a b : Int) : O := .lst [.int a, .int b]
theorem atI_0 {α : Type} {x : α} {xs : List α} : atI (x :: xs) (0 : Int) = some x := atI_nat (j := 0) rfl
theorem atI_1 {α : Type} {x y : α} {xs : List α} : atI (x :: y :: xs) (1 : Int) = some y := atI_nat (j := 1) rfl
theorem get_set {h : Hw} {n : Nat} {o u : O} (e : h[n]? = some u) : (h.set n o)[n]? = some o := by
  rw [List.getElem?_set, if_pos rfl, if_pos (List.getElem?_eq_some_iff.mp e).1]
theorem get_set_ne {h : Hw} {n i : Nat} {o : O} (e : n ≠ i) : (h.set n o)[i]? = h[i]? := List.getElem?_set_ne e


theorem draw_ok {h : Hw} {n : Nat} {a b m : Int} {P : W → Hw → Prop} (e : h[n]? = some (pl a b)) (ha : 0 ≤ a) (hb : 0 ≤ b) (hm : 0 < m) (hl : m.natAbs.log2 < 9000)
    (k : ∀ r a' b' : Int, 0 ≤ r → r < m → 0 ≤ a' → 0 ≤ b' → P (.int r) (h.set n (pl a' b'))) : Ok (cDraw [.ref n, .int m]) h P := by
  unfold cDraw
  walk_at "okF"
  refine ok_ixL e atI_0 ?_
  walk_at "ok"
  refine ⟨fun hc => ?_, fun hc => ?_⟩
  · walk_at "ok"
    refine ok_ixL e atI_0 ?_
    walk_at "ok"
    refine ok_modI hm ?_
    walk_at "ok"
    refine ok_ixL e atI_0 ?_
    walk_at "ok"
    refine ok_divI ⟨hm, hl⟩ ?_
    walk_at "ok"
    refine ok_set e rfl ?_
    walk_at "ok"
    exact k _ _ _ (Int.emod_nonneg _ (by omega)) (Int.emod_lt_of_pos _ hm) (Int.ediv_nonneg ha (by omega)) hb
  · walk_at "ok"
    refine ok_ixL e atI_1 ?_
    walk_at "ok"
    refine ok_mulI (mulOk_r (by decide) (by decide)) ?_
    walk_at "ok"
    refine ok_modI (by decide) ?_
    walk_at "ok"
    refine ok_set e rfl ?_
    walk_at "ok"
    refine ok_ixL (get_set e) atI_1 ?_
    walk_at "ok"
    refine ok_ixL (get_set e) atI_1 ?_
    have h0 : 0 ≤ (b * 48271 + 11) % 2147483647 := Int.emod_nonneg _ (by decide)
    have h1 : (b * 48271 + 11) % 2147483647 < 2147483647 := Int.emod_lt_of_pos _ (by decide)
    refine ok_mulI (mulOk_l (by omega) (by omega)) ?_
    walk_at "ok"
    refine ok_modI (by decide) ?_
    walk_at "ok"
    refine ok_divI (by decide) ?_
    walk_at "ok"
    refine ok_modI hm ?_
    exact k _ _ _ (Int.emod_nonneg _ (by omega)) (Int.emod_lt_of_pos _ hm) ha h0
theorem cutW_map (ns : List Int) (lo hi : Option Int) : ∃ ms : List Int, cutW (ns.map W.int) lo hi = ms.map W.int := by
  unfold cutW
  rw [← List.map_drop, ← List.map_take]
  exact ⟨_, rfl⟩
theorem pool_ok {h : Hw} {ns : List Int} {k : Int} {P : W → Hw → Prop} (hk : 0 ≤ k) (hk2 : k ≤ 1000)
    (q : ∀ (a b : Int) (g : List O), 0 ≤ a → 0 ≤ b → P (.ref (h ++ g).length) ((h ++ g) ++ [pl a b])) : Ok (cPool [.rol (ns.map W.int), .int k]) h P := by
  have tail : ∀ (c : Int) (g : List O), Ok ((sSeq (sAsg (gNm 3) (mCall bAbs (aCons (mVar 2) aNil)))
      (sSeq (sAsg (gNm 4) (mBin fAdd (mBin fAdd (mBin fAdd (mBin fMod (mCall bInt (aCons (mVar 3) aNil)) (mC (.int 2147483629))) (mBin fMul (mBin fMul (mC (.int 7919)) (mVar 1)) (mVar 1))) (mBin fMul (mC (.int 31)) (mVar 1))) (mC (.int 17))))
      (sSeq (sAsg (gNm 4) (mBin fMod (mCall bInt (aCons (mBin fMul (mVar 4) (mC (.int 48271))) aNil)) (mC (.int 2147483647))))
      (sRet (mLst (aCons (mBin fMul (mVar 3) (mCall bInt (aCons (mBin fGe (mVar 3) (mBin fPow (mC (.int 10)) (mC (.int 18)))) aNil))) (aCons (mBin fMod (mCall bInt (aCons (mBin fMul (mVar 4) (mVar 4)) aNil)) (mC (.int 2147483629))) aNil)))))))
      [some (.rol (ns.map W.int)), some (.int k), some (.int c), none, none]) (h ++ g) fun f h1 => match f with
        | .rt w => P w h1
        | .nx _ => P .non h1
        | _ => False := fun c g => by
    walk_at "ok"
    have hs : 0 ≤ (if c < 0 then -c else c) := by split <;> omega
    generalize (if c < 0 then -c else c) = z at hs ⊢
    refine ok_modI (by decide) ?_
    walk_at "ok"
    refine ok_mulI (mulOk_l (by decide) (by decide)) ?_
    walk_at "ok"
    refine ok_mulI (mulOk_r (by omega) (by omega)) ?_
    walk_at "ok"
    refine ok_mulI (mulOk_l (by decide) (by decide)) ?_
    walk_at "ok"
    generalize z % 2147483629 + 7919 * k * k + 31 * k + 17 = y
    refine ok_mulI (mulOk_r (by decide) (by decide)) ?_
    walk_at "ok"
    refine ok_modI (by decide) ?_
    walk_at "ok"
    refine ok_powI (by decide) ?_
    walk_at "ok"
    have hb : (0 : Int) ≤ (if decide ((10 : Int) ^ (18 : Int).toNat ≤ z) = true then 1 else 0) ∧ (if decide ((10 : Int) ^ (18 : Int).toNat ≤ z) = true then (1 : Int) else 0) ≤ 1 := by split <;> omega
    generalize (if decide ((10 : Int) ^ (18 : Int).toNat ≤ z) = true then (1 : Int) else 0) = t at hb ⊢
    refine ok_mulI (mulOk_r (by omega) (by omega)) ?_
    walk_at "ok"
    have h0 : 0 ≤ y * 48271 % 2147483647 := Int.emod_nonneg _ (by decide)
    have h1 : y * 48271 % 2147483647 < 2147483647 := Int.emod_lt_of_pos _ (by decide)
    refine ok_mulI (mulOk_l (by omega) (by omega)) ?_
    walk_at "ok"
    refine ok_modI (by decide) ?_
    walk_at "ok"
    exact (q _ _ g (Int.mul_nonneg hs hb.1) (Int.emod_nonneg _ (by decide)))
  unfold cPool
  walk_at "okF"
  refine ⟨fun hc => ?_, fun hc => ?_⟩
  · have hlt : k < ((ns.map W.int).length : Int) := of_decide_eq_true hc
    rw [List.length_map] at hlt
    walk_at "ok"
    obtain ⟨j, rfl⟩ := Int.eq_ofNat_of_zero_le hk
    have hj : j < ns.length := by omega
    refine ok_ixR (w := .int ns[j]) (atI_nat (by rw [List.getElem?_map, List.getElem?_eq_getElem hj]; rfl)) ?_
    walk_at "ok1"
    have q := tail ns[j] []
    rw [List.append_nil] at q
    exact q
  · walk_at "ok"
    obtain ⟨ms, em⟩ := cutW_map ns none (some 63)
    refine ok_slR ?_
    walk_at "ok"
    refine ok_sumL (ns := ms) (by rw [em]; simp) ?_
    refine ok_mulI (mulOk_l (by decide) (by decide)) ?_
    walk_at "ok1"
    walk_at "ok1"
    walk_at "ok1"
    exact tail _ _
theorem pick_ok {h : Hw} {n : Nat} {a b : Int} {row : W} {m : Nat} {P : W → Hw → Prop} (e : h[n]? = some (pl a b)) (ha : 0 ≤ a) (hb : 0 ≤ b) (hm : 0 < m) (hl : m ≤ 1000)
    (el : Ok (bLen [row]) h fun w h1 => w = .int m ∧ h1 = h)
    (k : ∀ (j : Nat) (a' b' : Int), j < m → 0 ≤ a' → 0 ≤ b' → Ok (fIx row (.int j)) (h.set n (pl a' b')) P) : Ok (cPick [.ref n, row]) h P := by
  unfold cPick
  walk_at "okF"
  refine el.imp fun w h1 q => ?_
  obtain ⟨rfl, rfl⟩ := q
  walk_at "ok"
  refine draw_ok e ha hb (by omega) ?_ fun r a' b' r0 r1 a0 b0 => ?_
  · have : ((m : Int).natAbs) = m := by omega
    rw [this]
    exact Nat.lt_of_le_of_lt (Nat.log2_le_self m) (by omega)
  · obtain ⟨j, rfl⟩ := Int.eq_ofNat_of_zero_le r0
    exact k j a' b' (by omega) a0 b0
end EL
/-! EL9: words, dates, integers. -/
namespace EL
open PySem PySem.Spec L2
open PyProof.Rows hiding St
open TL (tl len_tl ext_tl tl_append tl_mk join_eq tl_join joinL)

def cIsInteger : List W → M W := mFn 3 3 (sRet ((mAnd (mIsi "int" (mVar 0)) (mAnd (mNot (mIsi "bool" (mVar 0))) (mCh fLe fLe (mVar 1) (mVar 0) (mVar 2))))))
def cIsWord : List W → M W := mFn 1 2 (sSeq (sIf ((tOr (tNot (tTru (mIsi "str" (mVar 0)))) (tNot (tVal (mCh fLe fLe (mC (.int 1)) (mCall bLen (aCons (mVar 0) aNil)) (mC (.int 8))))))) (sRet (mC (.bl false))) sNil)
    (sRet (mCall bAll (aCons (mLc (iAny (mVar 0)) (gNm 1) tYs (mBin (fIn false) (mVar 1) (mC (.str "abcdefghijklmnopqrstuvwxyz"))) [1]) aNil))))
def cIsDate : List W → M W := mFn 1 1 (sRet (mCall cIsInteger (aCons (mVar 0) (aCons (mC (.int 0)) (aCons (mC (.int 9999)) aNil)))))
theorem ok_turns {ns : List Int} {c : Int} {j : Nat} {b : MS} {sw : SW} {h : Hw} {PF : Fl → Hw → Prop} (Inv : SW → Prop) (hc : 1 ≤ c) (hc2 : c ≤ 100) (h0 : Inv sw) (hv : sw[0]? = some (some (.rol (ns.map W.int))))
    (hb : ∀ (k : Int) (sw : SW) (h : Hw), 0 ≤ k → k ≤ 100 → Inv sw → Ok (b (sw.set j (some (.int k)))) h fun f _ => ∃ s, f = .nx s ∧ Inv s)
    (he : ∀ sw h, Inv sw → PF (.nx sw) h) : Ok (sForI (iRg1 (mCall bMax (aCons (mC (.int 1)) (aCons (mCall bMin (aCons (mCall bLen (aCons (mVar 0) aNil)) (aCons (mC (.int c)) aNil))) aNil)))) (gNm j) b sw) h PF := by
  refine ok_sForI (ok_iRg1 (ok_call (ok_aCons (ok_c (ok_aCons (ok_call (ok_aCons (ok_call (ok_aCons (ok_var hv (ok_aNil (ok_lenR (ok_aCons (ok_c (ok_aNil (ok_min (ok_aNil (ok_max ?_))))))))))))))))))
  generalize hz : (if (if c < ((ns.map W.int).length : Int) then c else ((ns.map W.int).length : Int)) > 1 then (if c < ((ns.map W.int).length : Int) then c else ((ns.map W.int).length : Int)) else 1) = z
  have hz1 : 1 ≤ z ∧ z ≤ 100 := by
    subst hz
    split <;> (try split) <;> omega
  refine ⟨_, rfl, by unfold big; omega, ?_⟩
  refine ok_sFor (fun _ sw _ => Inv sw) (n := z.toNat) _ (Nat.le_refl _) h0 (fun i sw h hi p => ?_) (fun sw h p => ?_)
  · refine ⟨.int (0 + i), by unfold Src.item; simp only [if_pos hi], ok_gNm ((hb (0 + i) sw h (by omega) (by omega) p).imp fun f h2 q => ?_)⟩
    obtain ⟨s, rfl, q⟩ := q
    exact q
  · exact ⟨by unfold Src.item; simp only [Nat.lt_irrefl, if_false], he sw h p⟩
/-- a word -/
def isw (x : Str) : Bool := decide (1 ≤ x.length) && decide (x.length ≤ 8) && x.cps.toList.all fun c => decide (97 ≤ c) && decide (c ≤ 122)
theorem letters_mem (c : Nat) : decide (c ∈ (Str.ofString "abcdefghijklmnopqrstuvwxyz").cps.toList) = (decide (97 ≤ c) && decide (c ≤ 122)) := by
  have e : (Str.ofString "abcdefghijklmnopqrstuvwxyz").cps.toList = (List.range 26).map (97 + ·) := by decide +kernel
  rw [e]
  by_cases h : 97 ≤ c ∧ c ≤ 122
  · rw [decide_eq_true (show c ∈ (List.range 26).map (97 + ·) from List.mem_map.mpr ⟨c - 97, List.mem_range.mpr (by omega), by omega⟩), decide_eq_true h.1, decide_eq_true h.2]
    rfl
  · rw [decide_eq_false (show ¬ c ∈ (List.range 26).map (97 + ·) from fun z => by
      obtain ⟨k, hk, rfl⟩ := List.mem_map.mp z
      have := List.mem_range.mp hk
      exact h ⟨by omega, by omega⟩)]
    by_cases h1 : 97 ≤ c
    · rw [decide_eq_true h1, decide_eq_false (fun z => h ⟨h1, z⟩)]
      rfl
    · rw [decide_eq_false h1]
      rfl
theorem odd_ok {w : W} {h : Hw} {P : W → Hw → Prop} {n : String} (e : tyName h w = some n) (e2 : kitB n "str" = some false) (p : P (.bl false) h) : Ok (cIsWord [w]) h P := by
  unfold cIsWord
  walk_at "okF"
  refine ⟨n, false, e, e2, ?_⟩
  walk_at "ok"
  exact p
theorem word_ok {x : Str} {h : Hw} {P : W → Hw → Prop} (hl : x.length ≤ lim) (p : ∀ g, P (.bl (isw x)) (h ++ g)) : Ok (cIsWord [.str x]) h P := by
  unfold cIsWord
  walk_at "okF"
  refine ⟨"str", true, rfl, by decide +kernel, ?_⟩
  walk_at "ok"
  refine ok_lenS hl ?_
  walk_at "ok"
  have no : isw x = false → P (.bl false) h := fun z => by
    have q := p []
    rw [z, List.append_nil] at q
    exact q
  refine ⟨fun h1 => ?_, fun h1 => ?_⟩
  · have h1' : 1 ≤ x.length := by
      have := of_decide_eq_true h1
      omega
    walk_at "ok"
    by_cases h2 : x.length ≤ 8
    · refine okBF (by rw [decide_eq_true (by omega)]; rfl) ?_
      walk_at "ok"
      refine ok_mLc (fun i acc h' => acc = ((x.cps.toList.take i).map fun c => W.bl (decide (97 ≤ c) && decide (c ≤ 122))) ∧ h' = h ++ [.lst acc]) h.length (ok_iAnyS ?_)
      walk_at "ok"
      refine ⟨x, rfl, rfl, ⟨by simp, rfl⟩, fun i acc h' hi q hD => ?_, fun acc h' q hD => ?_⟩
      · obtain ⟨qa, qh⟩ := q
        have hi' : i < x.cps.size := hi
        refine ⟨.str ⟨#[x.cps[i]]⟩, by show some (x.cps[i]?.map _) = _; rw [Array.getElem?_eq_getElem hi']; rfl, ok_gNm ?_⟩
        refine ok_rtn (okT ?_)
        walk_at "ok"
        refine ok_in1 ?_
        refine ⟨hD, by
          have hs : x.cps.size = x.length := rfl
          rw [qa, List.length_map, List.length_take, Array.length_toList]
          unfold lim
          omega, ?_, ?_⟩
        · rw [qa, letters_mem, List.take_add_one, List.map_append, Array.getElem?_toList, Array.getElem?_eq_getElem hi']
          simp
        · rw [qh, List.set_append_right _ _ (Nat.le_refl _), Nat.sub_self]
          rfl
      · obtain ⟨qa, qh⟩ := q
        refine ⟨by show some (x.cps[x.cps.size]?.map _) = _; rw [Array.getElem?_eq_none (Nat.le_refl _)]; rfl, ?_⟩
        walk_at "ok"
        have qa' : acc = (x.cps.toList.map fun c => decide (97 ≤ c) && decide (c ≤ 122)).map W.bl := by
          rw [qa, List.take_of_length_le (by simp), List.map_map]
          rfl
        rw [qa'] at hD
        refine ok_allL hD ?_
        have e : isw x = (x.cps.toList.map fun c => decide (97 ≤ c) && decide (c ≤ 122)).all id := by
          unfold isw
          rw [decide_eq_true h1', decide_eq_true h2, List.all_map]
          simp
        rw [← e, qh]
        exact p _
    · refine okB (by rw [decide_eq_false (by omega)]; rfl) ?_
      walk_at "ok"
      refine no ?_
      unfold isw
      rw [decide_eq_false h2]
      simp
  · walk_at "ok"
    refine no ?_
    have : ¬ 1 ≤ x.length := fun z => by
      rw [decide_eq_true (by omega)] at h1
      cases h1
    unfold isw
    rw [decide_eq_false this]
    simp
theorem int_ok {i lo hi : Int} {h : Hw} {P : W → Hw → Prop} (p : P (.bl (decide (lo ≤ i ∧ i ≤ hi))) h) : Ok (cIsInteger [.int i, .int lo, .int hi]) h P := by
  unfold cIsInteger
  walk_at "okF"
  refine ⟨"int", true, rfl, by decide +kernel, ?_⟩
  walk_at "ok"
  refine ⟨"int", false, rfl, by decide +kernel, ?_⟩
  walk_at "ok"
  refine ⟨fun h1 => ?_, fun h1 => ?_⟩
  · walk_at "ok"
    have h1' := of_decide_eq_true h1
    rw [show decide (i ≤ hi) = decide (lo ≤ i ∧ i ≤ hi) by simp [h1']]
    exact p
  · have h1' := of_decide_eq_false h1
    rw [show decide (lo ≤ i ∧ i ≤ hi) = false by simp [h1']] at p
    exact p
theorem noint_ok {w lo hi : W} {h : Hw} {P : W → Hw → Prop} {n : String} (e : tyName h w = some n) (hn : kitB n "int" = some false ∨ (kitB n "int" = some true ∧ kitB n "bool" = some true)) (p : P (.bl false) h) : Ok (cIsInteger [w, lo, hi]) h P := by
  unfold cIsInteger
  walk_at "okF"
  rcases hn with hn | ⟨hn, hb⟩
  · refine ⟨n, false, e, hn, ?_⟩
    walk_at "ok"
    exact p
  · refine ⟨n, true, e, hn, ?_⟩
    walk_at "ok"
    refine ⟨n, true, e, hb, ?_⟩
    walk_at "ok"
    exact p
theorem date_ok {i : Int} {h : Hw} {P : W → Hw → Prop} (p : P (.bl (decide (0 ≤ i ∧ i ≤ 9999))) h) : Ok (cIsDate [.int i]) h P := by
  unfold cIsDate
  walk_at "okF"
  exact int_ok p
theorem nodate_ok {w : W} {h : Hw} {P : W → Hw → Prop} {n : String} (e : tyName h w = some n) (hn : kitB n "int" = some false ∨ (kitB n "int" = some true ∧ kitB n "bool" = some true)) (p : P (.bl false) h) : Ok (cIsDate [w]) h P := by
  unfold cIsDate
  walk_at "okF"
  exact noint_ok e hn p
theorem get_app {h g : Hw} {n : Nat} {o : O} (e : h[n]? = some o) : (h ++ g)[n]? = some o := by
  rw [List.getElem?_append_left (List.getElem?_eq_some_iff.mp e).1]
  exact e
/-- over a list that stands: each item's turn goes on -/
theorem ok_forLst {p : Nat} {xs : List W} {g : MG} {b : MS} {sw : SW} {h : Hw} {PF : Fl → Hw → Prop} (Inv : SW → Hw → Prop) (h0 : Inv sw h) (hp : ∀ sw h, Inv sw h → h[p]? = some (.lst xs))
    (hs : ∀ x ∈ xs, ∀ sw h, Inv sw h → Ok (g x sw) h fun s h1 => Ok (b s) h1 fun f h2 => ∃ s', f = .nx s' ∧ Inv s' h2) (he : ∀ sw h, Inv sw h → PF (.nx sw) h) : Ok (sFor (.lst p) g b 0 (xs.length + 1) sw) h PF := by
  refine ok_sFor (fun _ sw h => Inv sw h) (n := xs.length) _ (Nat.le_refl _) h0 (fun i sw h hi q => ?_) (fun sw h q => ?_)
  · refine ⟨xs[i], ?_, (hs xs[i] (List.getElem_mem hi) sw h q).imp fun s h1 o => o.imp fun f h2 z => ?_⟩
    · show (match h[p]? with
        | some (.lst xs) => some xs[i]?
        | _ => none) = _
      rw [hp sw h q]
      simp only [List.getElem?_eq_getElem hi]
    · obtain ⟨s', rfl, z⟩ := z
      exact z
  · refine ⟨?_, he sw h q⟩
    show (match h[p]? with
      | some (.lst ys) => some ys[xs.length]?
      | _ => none) = _
    rw [hp sw h q]
    simp only [List.getElem?_eq_none (Nat.le_refl _)]
/-- sums of written signs -/
theorem join_signs (cs : List Nat) : Txt.join (Str.ofString "") (cs.map fun c => ⟨#[c]⟩) = ⟨cs.toArray⟩ := by
  refine ext_tl ?_
  rw [join_eq, tl_join]
  have e0 : tl (Str.ofString "") = [] := by decide +kernel
  rw [e0]
  show joinL [] _ = cs
  induction cs with
  | nil => rfl
  | cons c r ih =>
    cases r with
    | nil => rfl
    | cons d r =>
      show [c] ++ ([] ++ joinL [] (List.map tl (List.map (fun c => (⟨#[c]⟩ : Str)) (d :: r)))) = _
      rw [ih]
      rfl
theorem isw_tl (x : Str) : isw x = (decide (1 ≤ (tl x).length) && decide ((tl x).length ≤ 8) && (tl x).all fun c => decide (97 ≤ c) && decide (c ≤ 122)) := by
  unfold isw
  rw [len_tl]
theorem tl_cut (x : Str) (n : Nat) : tl (cutS x none (some (n : Int))) = (tl x).take n := by
  unfold cutS
  rw [tl_mk, HT.sIx_none, HT.sIx_nat, List.drop_zero, len_tl, Nat.sub_zero, ← List.take_take]
  rw [List.take_of_length_le (Nat.le_refl _)]
theorem tl_cut2 (x : Str) (n : Nat) : tl (cutS x (some (n : Int)) none) = (tl x).drop n := by
  unfold cutS
  rw [tl_mk, HT.sIx_none, HT.sIx_nat, len_tl]
  by_cases h : n ≤ (tl x).length
  · rw [Nat.min_eq_left h, List.take_of_length_le]
    rw [List.length_drop]
    exact Nat.le_refl _
  · rw [Nat.min_eq_right (by omega), List.drop_of_length_le (Nat.le_refl _), List.drop_of_length_le (by omega)]
    simp
end EL
namespace EL
open PySem PySem.Spec L2
open PyProof.Rows hiding St

/-! ### classes: fields, making, methods -/
def putW (f : Str) (v : W) : List (Str × W) → List (Str × W)
  | [] => [(f, v)]
  | (g, x) :: r => if g = f then (g, v) :: r else (g, x) :: putW f v r
section
variable {K : PySem.W.Frag} {cm : Cm} {ρ : List Addr} {h h' : Hw} {H : Hp}
theorem lk_of {f : Str} {w : W} : ∀ {fs : List (Str × W)} {fv : List (Str × V)}, fv.map (·.1) = fs.map (·.1) → Rels K ρ H (fs.map (·.2)) (fv.map (·.2)) → fs.lookup f = some w → ∃ v, fv.lookup f = some v ∧ Rel K ρ H w v
  | [], _, _, _, e => by cases e
  | (g, x) :: fs, [], e, _, _ => by cases e
  | (g, x) :: fs, (g', y) :: fv, e, r, l => by
    have e1 : g' = g := (List.cons.inj e).1
    subst e1
    cases r with
    | cons r t =>
      by_cases q : (f == g') = true
      · rw [List.lookup, q] at l ⊢
        cases l
        exact ⟨y, rfl, r⟩
      · rw [Bool.not_eq_true] at q
        rw [List.lookup, q] at l ⊢
        exact lk_of (List.cons.inj e).2 t l
theorem lk_none {f : Str} : ∀ {fs : List (Str × W)} {fv : List (Str × V)}, fv.map (·.1) = fs.map (·.1) → fs.lookup f = none → fv.lookup f = none
  | [], [], _, _ => rfl
  | [], _ :: _, e, _ => by cases e
  | _ :: _, [], e, _ => by cases e
  | (g, x) :: fs, (g', y) :: fv, e, l => by
    have e1 : g' = g := (List.cons.inj e).1
    subst e1
    by_cases q : (f == g') = true
    · rw [List.lookup, q] at l
      cases l
    · rw [Bool.not_eq_true] at q
      rw [List.lookup, q] at l ⊢
      exact lk_none (List.cons.inj e).2 l
theorem put_keys {f : Str} {w : W} {v : V} : ∀ {fs : List (Str × W)} {fv : List (Str × V)}, fv.map (·.1) = fs.map (·.1) → (putF f v fv).map (·.1) = (putW f w fs).map (·.1)
  | [], [], _ => rfl
  | [], _ :: _, e => by cases e
  | _ :: _, [], e => by cases e
  | (g, x) :: fs, (g', y) :: fv, e => by
    have e1 : g' = g := (List.cons.inj e).1
    subst e1
    unfold putF putW
    split
    · exact e
    · rw [List.map_cons, List.map_cons, put_keys (List.cons.inj e).2]
theorem put_rels {f : Str} {w : W} {v : V} (q : Rel K ρ H w v) : ∀ {fs : List (Str × W)} {fv : List (Str × V)}, fv.map (·.1) = fs.map (·.1) → Rels K ρ H (fs.map (·.2)) (fv.map (·.2)) → Rels K ρ H ((putW f w fs).map (·.2)) ((putF f v fv).map (·.2))
  | [], [], _, _ => .cons q .nil
  | [], _ :: _, e, _ => by cases e
  | _ :: _, [], e, _ => by cases e
  | (g, x) :: fs, (g', y) :: fv, e, r => by
    have e1 : g' = g := (List.cons.inj e).1
    subst e1
    cases r with
    | cons r t =>
      unfold putF putW
      split
      · exact .cons q t
      · exact .cons r (put_rels q (List.cons.inj e).2 t)
end
def fldOf (h : Hw) (x : W) (C f : Str) : Option W := match x with
  | .ref p => match h[p]? with
    | some (.ins D fs) => if D = C then fs.lookup f else none
    | _ => none
  | _ => none
def mFld (C f : Str) (a : ME) : ME := fun sw => bnd (a sw) fun x h => match fldOf h x C f with
  | some w => .ok w h
  | none => .no
def setFld (C f : Str) (y x : W) : M Unit := fun h => match x with
  | .ref p => match h[p]? with
    | some (.ins D fs) => if D = C ∧ fs.length < 1000 then .ok () (h.set p (.ins D (putW f y fs))) else .no
    | _ => .no
  | _ => .no
def sFldS (C f : Str) (a v : ME) : MS := fun sw => bnd (v sw) fun y => bnd (a sw) fun x => bnd (setFld C f y x) fun _ => rtn (.nx sw)
def mMake (C : Str) (f : List W → M W) (dws : List W) (a : MA) : ME := fun sw => bnd (a sw) fun xs => bnd (alloc (.ins C [])) fun r => bnd (f (r :: (xs ++ dws))) fun u => match u with
  | .non => rtn r
  | _ => bad
def isIns (C m : Str) (x : W) : M Unit := fun h => match x with
  | .ref p => match h[p]? with
    | some (.ins D fs) => if D = C ∧ (fs.lookup m).isNone = true then .ok () h else .no
    | _ => .no
  | _ => .no
def mMeth (C m : Str) (f : List W → M W) (dws : List W) (o : ME) (a : MA) : ME := fun sw => bnd (o sw) fun x => bnd (isIns C m x) fun _ => bnd (a sw) fun xs => f (x :: (xs ++ dws))
section
variable {K : PySem.W.Frag} {cm : Cm} {ρ : List Addr} {h h' : Hw} {H : Hp}
theorem ins_of {C : Str} {x : W} {v : V} {P : List (Str × W) → Prop} (rh : RelH K cm ρ h H) (r : Rel K ρ H x v) (e : ∃ p D fs, x = .ref p ∧ h[p]? = some (.ins D fs) ∧ D = C ∧ P fs) : ∃ p a dx fs fv, x = .ref p ∧ v = .ref a ∧ ρ[p]? = some a ∧ h[p]? = some (.ins C fs) ∧ H a = some (.ins (cm C) dx fv) ∧ fv.map (·.1) = fs.map (·.1) ∧ Rels K ρ H (fs.map (·.2)) (fv.map (·.2)) ∧ P fs := by
  obtain ⟨p, D, fs, rfl, e1, rfl, hP⟩ := e
  cases r with
  | @ref p a hp =>
    obtain ⟨dx, fv, e2, e3, e4⟩ := rh.obj p _ a e1 hp
    exact ⟨p, a, dx, fs, fv, rfl, rfl, hp, e1, e2, e3, e4, hP⟩
theorem fldOf_inv {x w : W} {C f : Str} (e : fldOf h x C f = some w) : ∃ p D fs, x = .ref p ∧ h[p]? = some (.ins D fs) ∧ D = C ∧ fs.lookup f = some w := by
  unfold fldOf at e
  split at e
  · split at e
    · split at e
      · exact ⟨_, _, _, rfl, by assumption, by assumption, e⟩
      · cases e
    · cases e
  · cases e
theorem setFld_inv {x y : W} {C f : Str} {u : Unit} (e : setFld C f y x h = .ok u h') : ∃ p fs, x = .ref p ∧ h[p]? = some (.ins C fs) ∧ fs.length < 1000 ∧ h' = h.set p (.ins C (putW f y fs)) := by
  unfold setFld at e
  split at e
  · split at e
    · split at e
      · rename_i hq
        cases e
        obtain ⟨rfl, hl⟩ := hq
        exact ⟨_, _, rfl, by assumption, hl, rfl⟩
      · cases e
    · cases e
  · cases e
theorem isIns_inv {x : W} {C m : Str} {u : Unit} (e : isIns C m x h = .ok u h') : h' = h ∧ ∃ p D fs, x = .ref p ∧ h[p]? = some (.ins D fs) ∧ D = C ∧ fs.lookup m = none := by
  unfold isIns at e
  split at e
  · split at e
    · split at e
      · rename_i hq
        cases e
        exact ⟨rfl, _, _, _, rfl, by assumption, hq.1, Option.isNone_iff_eq_none.mp hq.2⟩
      · cases e
    · cases e
  · cases e
theorem len_keys {fs : List (Str × W)} {fv : List (Str × V)} (e : fv.map (·.1) = fs.map (·.1)) : fv.length = fs.length := by
  have := congrArg List.length e
  simpa using this
end
section
variable {X : Cx} {cm : Cm} {a o e v : Expr} {es : List Expr} {ma mo mv : ME} {mr : MA} {pos apos pos' : Pos} {C f m : Str}
theorem re_fld (ck : Cls X.K (cm C)) (na : NoAttr X.K (cm C) f) (ha : RE X cm a ma) (hb : attributeBase a f X.env (eval a X.env) = eval a X.env := by rfl) : RE X cm (.Attribute a f pos) (mFld C f ma) := by
  refine peM (pe_fld ha hb) fun σ H Q q => ?_
  obtain ⟨ρ, h, sw, w, h', rh, rs, e, k⟩ := q
  obtain ⟨x, h1, e1, e2⟩ := bnd_ok e
  refine ⟨ρ, h, sw, x, h1, rh, rs, e1, fun ρ1 H1 x' l1 rh1 rx => ?_⟩
  split at e2
  · rename_i w' ew
    cases e2
    obtain ⟨p, ad, dx, fs, fv, rfl, rfl, hp, eo, eH, ek, rl, hl⟩ := ins_of rh1 rx (fldOf_inv ew)
    obtain ⟨v, lv, rv⟩ := lk_of ek rl hl
    exact ⟨ad, _, dx, fv, v, rfl, eH, ck, na, lv, k ρ1 H1 v l1 rh1 rv⟩
  · cases e2
theorem rs_fld (ck : Cls X.K (cm C)) (na : NoAttr X.K (cm C) f) (ha : RE X cm o mo) (hv : RE X cm v mv) (hs : swapsWith v (some (.Attribute o f pos')) pos.line X.env = pure false := by rfl) : RS X cm (.Assign [.Attribute o f pos'] v pos) (sFldS C f mo mv) := by
  refine psM (ps_fld ha hv hs) fun D σ H q => ?_
  obtain ⟨ρ, h, sw, fl, h', rh, rs, e, k⟩ := q
  obtain ⟨y, h1, e1, e2⟩ := bnd_ok e
  obtain ⟨x, h2, e3, e4⟩ := bnd_ok e2
  obtain ⟨u, h3, e5, e6⟩ := bnd_ok e4
  cases e6
  refine ⟨ρ, h, sw, y, h1, rh, rs, e1, fun ρ1 H1 y' l1 rh1 ry => ?_⟩
  refine ⟨ρ1, h1, sw, x, h2, rh1, rs.mono l1, e3, fun ρ2 H2 x' l2 rh2 rx => ?_⟩
  obtain ⟨p, fs, rfl, eo, hlen, rfl⟩ := setFld_inv e5
  obtain ⟨p', ad, dx, fs', fv, ep, rfl, hp, eo', eH, ek, rl, _⟩ := ins_of (C := C) (P := fun _ => True) rh2 rx ⟨p, _, fs, rfl, eo, rfl, trivial⟩
  cases ep
  rw [eo] at eo'
  cases eo'
  have lu : Le X.K ρ2 H2 ρ2 (upd H2 ad (.ins (cm C) dx (putF f y' fv))) := le_mut eH trivial
  refine ⟨ad, _, dx, fv, rfl, eH, ck, na, by rw [len_keys ek]; exact hlen, ?_⟩
  refine k ρ2 _ σ (l1.trans (l2.trans lu)) (rh2.set hp eH trivial ⟨dx, _, upd_same, put_keys ek, ?_⟩) ((rs.mono l1).mono l2 |>.mono lu)
  exact put_rels ((ry.mono l2).mono lu) ek (rl.mono lu)
theorem make_of {σ : St} {H : Hp} {Q : VK} {E : XK} {fn : List W → M W} {dws : List W} {dvs : List V} (hd : ∀ ρ H, Rels X.K ρ H dws dvs) (q : tE X.K cm (mMake C fn dws mr) σ H Q) : tMake (cm C) (spM X.K cm fn) dvs E (tA X.K cm mr) σ H Q := by
  obtain ⟨ρ, h, sw, w, h', rh, rs, e, k⟩ := q
  obtain ⟨xs, h1, e1, e2⟩ := bnd_ok e
  obtain ⟨r, h2, e3, e4⟩ := bnd_ok e2
  obtain ⟨u, h3, e5, e6⟩ := bnd_ok e4
  cases e3
  refine ⟨ρ, h, sw, xs, h1, rh, rs, e1, fun ρ1 H1 vs l1 rh1 rx => ?_⟩
  intro x dx hx hdx hne
  have la : Le X.K ρ1 H1 ρ1 (upd H1 dx (.own x)) := le_new hdx
  have rh2 : RelH X.K cm ρ1 h1 (upd H1 dx (.own x)) := rh1.new hdx
  have hx2 : upd H1 dx (.own x) x = none := by rw [upd_ne (Ne.symm hne)]; exact hx
  have lb : Le X.K ρ1 (upd H1 dx (.own x)) (ρ1 ++ [x]) (upd (upd H1 dx (.own x)) x (.ins (cm C) dx [])) := (le_new hx2).trans (le_app x)
  have rh3 := rh2.push hx2 (u := .ins (cm C) dx []) (o := .ins C []) ⟨dx, [], upd_same, rfl, .nil⟩
  refine ⟨ρ1 ++ [x], _, _, u, h3, rh3, .cons (.ref (push_at rh1)) (((rx.mono la).mono lb).append (hd _ _)), e5, fun ρ4 H4 v l4 rh4 rv => ?_⟩
  cases u with
  | non =>
    cases rv
    cases e6
    exact ⟨rfl, k ρ4 H4 _ (l1.trans (la.trans (lb.trans l4))) rh4 (.ref (pre_get l4.pre (push_at rh1)))⟩
  | _ => cases e6
theorem re_make {k : Nat} {g : Addr} {fd : FuncData} {ps : List Str} {x : Str} {p : Pos} {fn : List W → M W} {dws : List W} {dvs : List V} {ds : List Value} (Mk : L2.Mk X.K (cm C) g) (F : FnOk X.prog X.w X.K X.mg X.base CX0 k g fd ps (spM X.K cm fn)) (hr : Room (k + 1) X.A) (hm : X.mg x = some (.ref (cm C)))
    (hb : Binds X.K fd ps ds) (hd : Vals dvs ds) (hdw : ∀ ρ H, Rels X.K ρ H dws dvs) (ha : RA X cm (e :: es) mr) (hg : Gl X x := by rfl) (hdb : (x == ("__debug__" : Str)) = false := by decide) (he : starEach (e :: es) X.env = (false, eval e X.env) :: starEach es X.env := by rfl)
    (hpl : (backTo pos (starEach es X.env)).any (·.1) = false := by rfl) : RE X cm (.Call (.Name x p) (e :: es) [] pos) (mMake C fn dws mr) :=
  peM (pe_make Mk F hr hg hm hb hd pass0 ha hdb he hpl) fun σ H Q q => make_of hdw q
theorem re_make0 {k : Nat} {g : Addr} {fd : FuncData} {ps : List Str} {x : Str} {p : Pos} {fn : List W → M W} {dws : List W} {dvs : List V} {ds : List Value} (Mk : L2.Mk X.K (cm C) g) (F : FnOk X.prog X.w X.K X.mg X.base CX0 k g fd ps (spM X.K cm fn)) (hr : Room (k + 1) X.A) (hm : X.mg x = some (.ref (cm C)))
    (hb : Binds X.K fd ps ds) (hd : Vals dvs ds) (hdw : ∀ ρ H, Rels X.K ρ H dws dvs) (hg : Gl X x := by rfl) (hdb : (x == ("__debug__" : Str)) = false := by decide) : RE X cm (.Call (.Name x p) [] [] pos) (mMake C fn dws aNil) := by
  refine peM (pe_make0 (E := fun _ _ _ => False) Mk F hr hg hm hb hd pass0 hdb) fun σ H Q q => ?_
  have q2 := make_of (E := fun _ _ _ => False) (mr := aNil) hdw q
  obtain ⟨ρ, h, sw, ws, h1, rh, rs, e, k⟩ := q2
  cases e
  exact k ρ H [] .refl rh .nil
theorem meth_of {σ : St} {H : Hp} {Q : VK} {E : XK} {fn : List W → M W} {dws : List W} {dvs : List V} (hd : ∀ ρ H, Rels X.K ρ H dws dvs) (q : tE X.K cm (mMeth C m fn dws mo mr) σ H Q) : tMeth (cm C) m (spM X.K cm fn) dvs E (tE X.K cm mo) (tA X.K cm mr) σ H Q := by
  obtain ⟨ρ, h, sw, w, h', rh, rs, e, k⟩ := q
  obtain ⟨x, h1, e1, e2⟩ := bnd_ok e
  obtain ⟨u, h2, e3, e4⟩ := bnd_ok e2
  obtain ⟨xs, h3, e5, e6⟩ := bnd_ok e4
  obtain ⟨rfl, hi⟩ := isIns_inv e3
  refine ⟨ρ, h, sw, x, h2, rh, rs, e1, fun ρ1 H1 x' l1 rh1 rx => ?_⟩
  obtain ⟨p, ad, dx, fs, fv, rfl, rfl, hp, eo, eH, ek, rl, hl⟩ := ins_of rh1 rx hi
  refine ⟨ad, dx, fv, rfl, eH, lk_none ek hl, ?_⟩
  refine ⟨ρ1, h2, sw, xs, h3, rh1, rs.mono l1, e5, fun ρ2 H2 vs l2 rh2 rxs => ?_⟩
  exact ⟨ρ2, h3, _, w, h', rh2, .cons (.ref (pre_get l2.pre hp)) (rxs.append (hd _ _)), e6, fun ρ3 H3 v l3 => k ρ3 H3 v (l1.trans (l2.trans l3))⟩
theorem re_meth {k : Nat} {g : Addr} {fd : FuncData} {ps : List Str} {fn : List W → M W} {dws : List W} {dvs : List V} {ds : List Value} {pl : Sem Bool} (ck : Cls X.K (cm C)) (me : Meth X.K (cm C) m g) (F : FnOk X.prog X.w X.K X.mg X.base CX0 k g fd ps (spM X.K cm fn)) (hr : Room k X.A)
    (hb : Binds X.K fd ps ds) (hd : Vals dvs ds) (hdw : ∀ ρ H, Rels X.K ρ H dws dvs) (ho : RE X cm o mo) (ha : RA X cm (e :: es) mr)
    (hst : starEach (e :: es) X.env = (false, eval e X.env) :: starEach es X.env := by rfl) (hpl : (backTo pos (starEach es X.env)).any (·.1) = false := by rfl)
    (ht : eval (.Call (.Attribute o m apos) (e :: es) [] pos) X.env = (do
      let ov ← eval o X.env
      standAt apos.atName
      let (f, first) ← holding [ov] (getMethod ov m pl)
      callWith pos f first (backTo pos (starEach (e :: es) X.env)) (backToKw pos (keywordEach [] X.env))) := by rfl) : RE X cm (.Call (.Attribute o m apos) (e :: es) [] pos) (mMeth C m fn dws mo mr) :=
  peM (pe_meth ho ck me F hr hb hd pass0 ha hst hpl ht) fun σ H Q q => meth_of hdw q
theorem re_meth0 {k : Nat} {g : Addr} {fd : FuncData} {ps : List Str} {fn : List W → M W} {dws : List W} {dvs : List V} {ds : List Value} {pl : Sem Bool} (ck : Cls X.K (cm C)) (me : Meth X.K (cm C) m g) (F : FnOk X.prog X.w X.K X.mg X.base CX0 k g fd ps (spM X.K cm fn)) (hr : Room k X.A)
    (hb : Binds X.K fd ps ds) (hd : Vals dvs ds) (hdw : ∀ ρ H, Rels X.K ρ H dws dvs) (ho : RE X cm o mo)
    (ht : eval (.Call (.Attribute o m apos) [] [] pos) X.env = (do
      let ov ← eval o X.env
      standAt apos.atName
      let (f, first) ← holding [ov] (getMethod ov m pl)
      callWith pos f first (backTo pos (starEach [] X.env)) (backToKw pos (keywordEach [] X.env))) := by rfl) : RE X cm (.Call (.Attribute o m apos) [] [] pos) (mMeth C m fn dws mo aNil) := by
  refine peM (pe_meth0 (E := fun _ _ _ => False) ho ck me F hr hb hd pass0 ht) fun σ H Q q => ?_
  have q2 := meth_of (E := fun _ _ _ => False) (mr := aNil) hdw q
  obtain ⟨ρ, h, sw, w, h', rh, rs, e, k⟩ := q2
  refine ⟨ρ, h, sw, w, h', rh, rs, e, fun ρ1 H1 x l1 rh1 rx => ?_⟩
  obtain ⟨ad, dx, fs, ex, eH, l, q3⟩ := k ρ1 H1 x l1 rh1 rx
  refine ⟨ad, dx, fs, ex, eH, l, ?_⟩
  obtain ⟨ρ2, h2, sw2, ws, h3, rh2, rs2, e2, k2⟩ := q3
  cases e2
  exact k2 ρ2 H1 [] .refl rh2 .nil
end

/-! ### the operators of a class -/
/-- what is known of an instance in the running heap -/
theorem inst_of {X : Cx} {pins : List (Addr × Obj)} {s : Shared} {σ : St} {H : Hp} {a C dx : Addr} {fs : List (Str × V)} (I : Inv X pins σ H s) (e : H a = some (.ins C dx fs)) : ∃ od, PySem.W.InstAt s.heap a (PySem.W.instObj C dx) C (some od) := by
  obtain ⟨mA, J, _⟩ := ins_get I.hok e
  obtain ⟨od, J, _⟩ := J.look
  exact ⟨od, J⟩
/-- an own function runs, in a place that stands in the same frames -/
theorem run_own {X : Cx} {k : Nat} {f : Addr} {fd : FuncData} {ps : List Str} {sp : Sp} {A : Around} {pins : List (Addr × Obj)} {σ : St} {H : Hp} {s : Shared} {Q : VK} {us : List Value} {vs : List V} {E : XK} (F : FnOk X.prog X.w X.K X.mg X.base CX0 k f fd ps sp) (sb : Sub X k A) (hb : Binds X.K fd ps [])
    (I : Inv X pins σ H s) (r : Vals vs us) (h : sp vs H Q E) : wpAny (model X.prog X.w) A (call (.ref f) us) (EP X pins σ Q) X.xe s := by
  have hl := F.len _ _ _ _ h
  have e0 : Env0 X.prog X.w X.K X.mg X.base A X.stack s H := by
    have e := I.env0
    exact ⟨by rw [sb.fr]; exact e.frames, e.mod, e.bs, e.bsz, e.funs, e.frf, e.hok, e.bare⟩
  have hl2 : (us ++ []).length = ps.length := by rw [List.append_nil, ← r.length]; exact hl
  refine wpAny_call (codeAny_mono (F.run A X.stack s H ⟨us, []⟩ us vs Q E sb.room e0 (by
    have := hb s us I.kIn hl2
    simpa using this) r h) fun r s' hq => ?_)
  cases r with
  | error e => exact (pass0 (X := X)) pins σ H s e s' I hq
  | ok fl =>
    cases fl with
    | ret u => exact I.after hq
    | next => exact False.elim hq
    | brk => exact False.elim hq
    | cont => exact False.elim hq
theorem rel_ni {v : V} {u : Value} (r : RelV v u) : u ≠ .notImplemented := by
  intro z
  subst z
  cases v with
  | int i => obtain ⟨t, q⟩ := (show ∃ t, Value.notImplemented = Value.int i t from r); cases q
  | str i => obtain ⟨t, q⟩ := (show ∃ t, Value.notImplemented = Value.str i t from r); cases q
  | byt i => obtain ⟨t, q⟩ := (show ∃ t, Value.notImplemented = Value.bytes i t from r); cases q
  | flt i => obtain ⟨t, q⟩ := (show ∃ t, Value.notImplemented = Value.float i t from r); cases q
  | non => exact Value.noConfusion r
  | bl b => exact Value.noConfusion r
  | ref b => exact Value.noConfusion r
  | ty b => exact Value.noConfusion r
theorem back_of {v : Value} {s : Shared} {Q : Value → Shared → Prop} (n : v ≠ .notImplemented) (q : Q v s) : PySem.W.CmpBack Q v s := by
  cases v <;> first | exact q | exact absurd rfl n
/-- a value's class, as operators ask for it -/
inductive TyN (K : PySem.W.Frag) (C : Addr) (H : Hp) : V → Value → Prop where
  | base {x : V} {n : String} (h : TyX K H x (.type n)) : TyN K C H x (.type n)
  | ins {a : Addr} {dx : Addr} {fs : List (Str × V)} (e : H a = some (.ins C dx fs)) : TyN K C H (.ref a) (.ref C)
theorem TyN.looks {X : Cx} {pins : List (Addr × Obj)} {s : Shared} {σ : St} {H : Hp} {C : Addr} {x : V} {u t : Value} (I : Inv X pins σ H s) (rx : RelV x u) (ty : TyN X.K C H x t) : PySem.W.Looks (model X.prog X.w) s.heap (typeOf u) t := by
  cases ty with
  | base b =>
    obtain ⟨P, k, hp, _⟩ := kit_of I rx b
    exact k.ty _ _ I.kIn hp
  | ins e =>
    cases (show u = Value.ref _ from rx)
    obtain ⟨od, J⟩ := inst_of I e
    exact J.type
/-- x op y by the own function of x's class: the reading -/
def rOwn (K : PySem.W.Frag) (C : Addr) (tys : List String) (sp : Sp) : R2 := fun x y H Q => ∃ a dx fs t, x = .ref a ∧ H a = some (.ins C dx fs) ∧ TyN K C H y t ∧ (t = .ref C ∨ ∃ n ∈ tys, t = .type n) ∧ sp [x, y] H Q fun _ _ _ => False
theorem op_ownCmp {X : Cx} {op : CmpOp} {k : Nat} {f C : Addr} {fd : FuncData} {ps : List Str} {sp : Sp} {tys : List String} (ho : compareOp op = richCompare op) (F : FnOk X.prog X.w X.K X.mg X.base CX0 k f fd ps sp) (hr : Room k X.A) (hb : Binds X.K fd ps [])
    (hs : PySem.W.findIn X.K (.ref C) (cmpInfo op).2.1 = some (some (.ref f))) (hf : PySem.W.isFn X.K (.ref f) = true) (hn : ∀ n ∈ tys, PySem.W.notFirst X.K C (.type n) = true) : OpR X (compareOp op) (rOwn X.K C tys sp) := by
  intro pins s σ H x y v u Q I rx ry hq
  obtain ⟨a, dx, fs, t, rfl, ea, ty, ht, h⟩ := hq
  cases (show v = Value.ref a from rx)
  obtain ⟨od, J⟩ := inst_of I ea
  obtain ⟨m, hF⟩ := I.fr
  rw [ho]
  refine PySem.W.cmp_K (op := op) (tb := t) hr.units0 hF I.ok.mod.kin J (ty.looks I ry) ?_ hs hf ?_
  · rcases ht with rfl | ⟨n, hm, rfl⟩
    · simp [PySem.W.notFirst]
    · exact hn n hm
  · refine wpAny_mono (run_own F ⟨hr, rfl⟩ hb I (.cons rx (.cons ry .nil)) h) (fun r s' q => ?_) fun _ _ e => e
    obtain ⟨z, H', I', rz, q⟩ := q
    exact back_of (rel_ni rz) ⟨z, H', I', rz, q⟩
/-- x op y, both of one class -/
def rOwn2 (C : Addr) (sp : Sp) : R2 := fun x y H Q => ∃ a dx fs b dy gs, x = .ref a ∧ H a = some (.ins C dx fs) ∧ y = .ref b ∧ H b = some (.ins C dy gs) ∧ sp [x, y] H Q fun _ _ _ => False
theorem op_ownBin {X : Cx} {op : Operator} {k : Nat} {f C : Addr} {fd : FuncData} {ps : List Str} {sp : Sp} (F : FnOk X.prog X.w X.K X.mg X.base CX0 k f fd ps sp) (hr : Room k X.A) (hb : Binds X.K fd ps [])
    (hc : PySem.W.selfFirst X.K C = true) (hs : PySem.W.findIn X.K (.ref C) (PySem.dunder op.info.2) = some (some (.ref f))) (hf : PySem.W.isFn X.K (.ref f) = true) : OpR X (binaryOp op) (rOwn2 C sp) := by
  intro pins s σ H x y v u Q I rx ry hq
  obtain ⟨a, dx, fs, b, dy, gs, rfl, ea, rfl, eb, h⟩ := hq
  cases (show v = Value.ref a from rx)
  cases (show u = Value.ref b from ry)
  obtain ⟨od, J⟩ := inst_of I ea
  obtain ⟨od', J'⟩ := inst_of I eb
  obtain ⟨m, hF⟩ := I.fr
  refine PySem.W.binop_K (op := op) hF I.ok.mod.kin J J'.type hc hs hf ?_
  refine wpAny_mono (run_own F ⟨hr, rfl⟩ hb I (.cons rx (.cons ry .nil)) h) (fun r s' q => ?_) fun _ _ e => e
  obtain ⟨z, H', I', rz, q⟩ := q
  exact back_of (rel_ni rz) ⟨z, H', I', rz, q⟩
end EL
namespace EL
open PySem PySem.Spec L2
open PyProof.Rows hiding St

/-! ### !=, subscripts, len, in by a class's own functions -/
section
variable {prog : Program} {w : World} {A : Around} {E : Value → Shared → Prop} {s : Shared} {K : PySem.W.Frag} {x C f : Addr} {ox : Obj} {od : Option Obj} {tb b : Value}
/-- a comparison whose first attempt gives the answer -/
theorem cmp_by {op : CmpOp} {Q : Value → Shared → Prop} (hu : A.units < cLine) (X : K.In s.heap) (I : PySem.W.InstAt s.heap x ox C od) (tyb : PySem.W.Looks (model prog w) s.heap (typeOf b) tb) (hn : PySem.W.notFirst K C tb = true)
    (one : wpAny (model prog w) A (tryCompare (.ref x) (cmpInfo op).2.1 b) (fun r s' => ∃ v, r = some v ∧ Q v s') E s) : wpAny (model prog w) A (richCompare op (.ref x) b) Q E s := by
  have fin : ∀ (r : Option Value) (s' : Shared), (∃ v, r = some v ∧ Q v s') → ∃ v, r = some v ∧ Q v s' := fun _ _ z => z
  simp only [richCompare, oneThing_ref]
  apply wpAny_holding
  apply wpAny_bind
  apply wpAny_cRoomFor hu
  apply wpAny_bind
  apply I.type.here
  apply wpAny_bind
  apply tyb.here
  split
  · rename_i q
    have e : PySem.W.subIn K tb (.ref C) = some false := by
      unfold PySem.W.notFirst at hn
      cases z : (tb == Value.ref C) with
      | true => rw [beq_iff_eq.mp z] at q; simp at q
      | false => rw [z, Bool.false_or] at hn; exact beq_iff_eq.mp hn
    apply wpAny_bind
    apply (PySem.W.looks_subIn X e).here
    simp only [Bool.false_eq_true, if_false]
    apply wpAny_bind
    refine wpAny_mono one ?_ fun _ _ e => e
    rintro r s' ⟨v, rfl, hq⟩
    exact wpAny_pure hq
  · apply wpAny_bind
    apply wpAny_pure
    simp only [Bool.false_eq_true, if_false]
    apply wpAny_bind
    refine wpAny_mono one ?_ fun _ _ e => e
    rintro r s' ⟨v, rfl, hq⟩
    exact wpAny_pure hq
/-- x != b, where only == is the class's own -/
theorem ne_by {Q : Value → Shared → Prop} (hu : A.units + 1 < cLine) (X : K.In s.heap) (I : PySem.W.InstAt s.heap x ox C od) (tyb : PySem.W.Looks (model prog w) s.heap (typeOf b) tb) (hn : PySem.W.notFirst K C tb = true)
    (hs : PySem.W.findIn K (.ref C) "__eq__" = some (some (.ref f))) (hf : PySem.W.isFn K (.ref f) = true) (hne : PySem.W.findIn K (.ref C) "__ne__" = some (some (.builtin "object.__ne__"))) (hm : PySem.W.mroIn K C (.type "object") = some true)
    (h : wpAny (model prog w) A.in1 (call (.ref f) [.ref x, b]) (fun r s' => ∃ k, r = .bool k ∧ Q (.bool (!k)) s') E s) : wpAny (model prog w) A (richCompare .NotEq (.ref x) b) Q E s := by
  refine cmp_by (by omega) X I tyb hn ?_
  show wpAny _ _ (tryCompare (.ref x) "__ne__" b) _ _ _
  simp only [tryCompare]
  refine wpAny_bind (NtL.csib (id := "object.__ne__") (I.type.andThen (PySem.W.looks_findIn X hne)) (PySem.F.cmp_object.ne.bind _) ?_)
  refine wpAny_call (codeAny_call_builtin PySem.F.cmp_object.ne.plain PySem.F.cmpEntry_ne (PySem.W.check_slot (i := "object.__ne__") (owner := "object") (n := "__ne__") PySem.F.cmpKind_ne PySem.F.cmpSplit_ne (I.type.andThen (PySem.W.looks_mroIn X hm)) (PySem.F.cmpArgs_ne _ _) ?_))
  unfold Builtin.«object.__ne__»
  refine wpAny_bind (m := slotArgs "__ne__" 1 _) (wpAny_pure ?_)
  refine wpAny_bind (m := cRoomFor _ _) (wpAny_cRoomFor hu ?_)
  refine wpAny_bind (m := callSpecialIfBound? (.ref x) (Str.ofString "__eq__") _) (PySem.W.ifBound_K X I hs hf (wpAny_mono h (fun r s' hq => ?_) fun _ _ y => y))
  obtain ⟨k, rfl, hq⟩ := hq
  refine wpAny_bind (wpAny_truthy_bool ?_)
  exact wpAny_pure (wpAny_pure ⟨_, rfl, hq⟩)
end
/-- x != y: the reading -/
def rOwnNe (K : PySem.W.Frag) (C : Addr) (tys : List String) (sp : Sp) : R2 := fun x y H Q => ∃ a dx fs t, x = .ref a ∧ H a = some (.ins C dx fs) ∧ TyN K C H y t ∧ (t = .ref C ∨ ∃ n ∈ tys, t = .type n) ∧ sp [x, y] H (fun z H' => ∃ k, z = .bl k ∧ Q (.bl (!k)) H') fun _ _ _ => False
theorem op_ownNe {X : Cx} {k : Nat} {f C : Addr} {fd : FuncData} {ps : List Str} {sp : Sp} {tys : List String} (F : FnOk X.prog X.w X.K X.mg X.base CX0 k f fd ps sp) (hr : Room (k + 1) X.A) (hb : Binds X.K fd ps [])
    (hs : PySem.W.findIn X.K (.ref C) "__eq__" = some (some (.ref f))) (hf : PySem.W.isFn X.K (.ref f) = true) (hne : PySem.W.findIn X.K (.ref C) "__ne__" = some (some (.builtin "object.__ne__"))) (hm : PySem.W.mroIn X.K C (.type "object") = some true)
    (hn : ∀ n ∈ tys, PySem.W.notFirst X.K C (.type n) = true) : OpR X (compareOp .NotEq) (rOwnNe X.K C tys sp) := by
  intro pins s σ H x y v u Q I rx ry hq
  obtain ⟨a, dx, fs, t, rfl, ea, ty, ht, h⟩ := hq
  cases (show v = Value.ref a from rx)
  obtain ⟨od, J⟩ := inst_of I ea
  show wpAny (model X.prog X.w) X.A (richCompare .NotEq (.ref a) u) (EP X pins σ Q) X.xe s
  refine ne_by (by have := hr.un; omega) I.kIn J (ty.looks I ry) ?_ hs hf hne hm ?_
  · rcases ht with rfl | ⟨n, hm, rfl⟩
    · simp [PySem.W.notFirst]
    · exact hn n hm
  · refine wpAny_mono (run_own F (Sub.in1 ⟨hr, rfl⟩) hb I (.cons rx (.cons ry .nil)) h) (fun r s' q => ?_) fun _ _ e => e
    obtain ⟨z, H', I', rz, kk, rfl, q⟩ := q
    cases (show r = Value.bool kk from rz)
    exact ⟨kk, rfl, .bl (!kk), H', I', rfl, q⟩
/-- x[y] by the own function -/
def rOwnIx (C : Addr) (sp : Sp) : R2 := fun x y H Q => ∃ a dx fs, x = .ref a ∧ H a = some (.ins C dx fs) ∧ sp [x, y] H Q fun _ _ _ => False
theorem ix_own {X : Cx} {k : Nat} {f C : Addr} {fd : FuncData} {ps : List Str} {sp : Sp} (F : FnOk X.prog X.w X.K X.mg X.base CX0 k f fd ps sp) (hr : Room (k + 1) X.A) (hb : Binds X.K fd ps [])
    (hs : PySem.W.findIn X.K (.ref C) "__getitem__" = some (some (.ref f))) (hf : PySem.W.fnIn X.K f = true) (hfn : PySem.W.isFn X.K (.ref f) = true) {slice : Expr} (hsl : ∀ o i, subscripted slice true o i = runValue (.builtin "lifetime.subscript" ⟨[o, i], []⟩)) :
    ∀ (value : Expr) (pins : List (Addr × Obj)) (s : Shared) (σ : St) (H : Hp) (x y : V) (v u : Value) (Q : VK), Inv X pins σ H s → RelV x v → RelV y u → rOwnIx C sp x y H Q → wpAny (model X.prog X.w) X.A (subscriptTail value slice v u) (EP X pins σ Q) X.xe s := by
  intro value pins s σ H x y v u Q I rx ry hq
  obtain ⟨a, dx, fs, rfl, ea, h⟩ := hq
  cases (show v = Value.ref a from rx)
  obtain ⟨od, J⟩ := inst_of I ea
  obtain ⟨m, hF⟩ := I.fr
  exact PySem.W.sub_K hF I.ok.mod.kin J hs hf hfn (run_own F (Sub.in1 ⟨hr, rfl⟩) hb I (.cons rx (.cons ry .nil)) h) (hsl _ _)
/-- x[y] = z by the own function -/
def rOwnSet (C : Addr) (sp : Sp) : TSet := fun o i v H Q => ∃ a dx fs, o = .ref a ∧ H a = some (.ins C dx fs) ∧ sp [o, i, v] H (fun _ H' => Q H') fun _ _ _ => False
theorem set_own {X : Cx} {k : Nat} {f C : Addr} {fd : FuncData} {ps : List Str} {sp : Sp} (F : FnOk X.prog X.w X.K X.mg X.base CX0 k f fd ps sp) (hr : Room k X.A) (hb : Binds X.K fd ps [])
    (hq : PySem.W.noSeq X.K C = true) (hs : PySem.W.findIn X.K (.ref C) "__setitem__" = some (some (.ref f))) (hf : PySem.W.isFn X.K (.ref f) = true) : PSet X (rOwnSet C sp) := by
  intro pins s σ H o i v ov iv u Q I ro ri rv h
  obtain ⟨a, dx, fs, rfl, ea, h⟩ := h
  cases (show ov = Value.ref a from ro)
  obtain ⟨od, J⟩ := inst_of I ea
  obtain ⟨m, hF⟩ := I.fr
  refine PySem.W.ksp_setItem hF I.ok.mod.kin J hq hs hf (wpAny_mono (run_own F ⟨hr, rfl⟩ hb I (.cons ro (.cons ri (.cons rv .nil))) h) (fun r s' q => ?_) fun _ _ e => e)
  obtain ⟨z, H', I', rz, q⟩ := q
  exact ⟨H', I', q⟩
/-- y in x by the own function -/
def rOwnIn (neg : Bool) (C : Addr) (sp : Sp) : R2 := fun y x H Q => ∃ a dx fs, x = .ref a ∧ H a = some (.ins C dx fs) ∧ sp [x, y] H (fun z H' => ∃ k, z = .bl k ∧ Q (.bl (neg != k)) H') fun _ _ _ => False
theorem op_ownIn {X : Cx} {k : Nat} {f C : Addr} {fd : FuncData} {ps : List Str} {sp : Sp} (F : FnOk X.prog X.w X.K X.mg X.base CX0 k f fd ps sp) (hr : Room k X.A) (hb : Binds X.K fd ps [])
    (hs : PySem.W.findIn X.K (.ref C) "__contains__" = some (some (.ref f))) (hf : PySem.W.isFn X.K (.ref f) = true) : OpR X (compareOp .In) (rOwnIn false C sp) := by
  intro pins s σ H y x u v Q I ry rx hq
  obtain ⟨a, dx, fs, rfl, ea, h⟩ := hq
  cases (show v = Value.ref a from rx)
  obtain ⟨od, J⟩ := inst_of I ea
  obtain ⟨m, hF⟩ := I.fr
  refine PySem.W.in_K hF I.ok.mod.kin J hs hf (wpAny_mono (run_own F ⟨hr, rfl⟩ hb I (.cons rx (.cons ry .nil)) h) (fun r s' q => ?_) fun _ _ e => e)
  obtain ⟨z, H', I', rz, kk, rfl, q⟩ := q
  cases (show r = Value.bool kk from rz)
  exact wpAny_truthy_bool ⟨.bl kk, H', I', rfl, by simpa using q⟩
theorem op_ownNotIn {X : Cx} {k : Nat} {f C : Addr} {fd : FuncData} {ps : List Str} {sp : Sp} (F : FnOk X.prog X.w X.K X.mg X.base CX0 k f fd ps sp) (hr : Room k X.A) (hb : Binds X.K fd ps [])
    (hs : PySem.W.findIn X.K (.ref C) "__contains__" = some (some (.ref f))) (hf : PySem.W.isFn X.K (.ref f) = true) : OpR X (compareOp .NotIn) (rOwnIn true C sp) := by
  intro pins s σ H y x u v Q I ry rx hq
  obtain ⟨a, dx, fs, rfl, ea, h⟩ := hq
  cases (show v = Value.ref a from rx)
  obtain ⟨od, J⟩ := inst_of I ea
  obtain ⟨m, hF⟩ := I.fr
  refine PySem.W.notIn_K hF I.ok.mod.kin J hs hf (wpAny_mono (run_own F ⟨hr, rfl⟩ hb I (.cons rx (.cons ry .nil)) h) (fun r s' q => ?_) fun _ _ e => e)
  obtain ⟨z, H', I', rz, kk, rfl, q⟩ := q
  cases (show r = Value.bool kk from rz)
  exact wpAny_truthy_bool ⟨.bl (!kk), H', I', rfl, by simpa using q⟩
/-- len(x) by the own function -/
def rOwnLen (C : Addr) (sp : Sp) : List V → Hp → VK → Prop := fun xs H Q => ∃ a dx fs, xs = [.ref a] ∧ H a = some (.ins C dx fs) ∧ sp [.ref a] H (fun z H' => ∃ n : Nat, z = .int n ∧ n < 2 ^ 62 ∧ Q (.int n) H') fun _ _ _ => False
end EL
namespace EL
open PySem PySem.Spec L2
open PyProof.Rows hiding St

/-! ### a class's operators, by the plain values -/
def insB (h : Hw) (x : W) (C : Str) : Bool := match x with
  | .ref p => match h[p]? with
    | some (.ins D _) => decide (D = C)
    | _ => false
  | _ => false
def tyIn (h : Hw) (y : W) (tys : List String) : Bool := match tyName h y with
  | some n => tys.contains n
  | none => false
def fOwn (C : Str) (tys : List String) (f : List W → M W) : W → W → M W := fun x y h => if (insB h x C && (insB h y C || tyIn h y tys)) = true then f [x, y] h else .no
def fOwnNe (C : Str) (tys : List String) (f : List W → M W) : W → W → M W := fun x y => bnd (fOwn C tys f x y) fun z => match z with
  | .bl b => rtn (.bl (!b))
  | _ => bad
def fOwnIx (C : Str) (f : List W → M W) : W → W → M W := fun x y h => if insB h x C = true then f [x, y] h else .no
def fOwnIn (neg : Bool) (C : Str) (f : List W → M W) : W → W → M W := fun y x h => if insB h x C = true then bnd (f [x, y]) (fun z => match z with
  | .bl b => rtn (.bl (neg != b))
  | _ => bad) h else .no
def bLenO (C : Str) (f : List W → M W) : List W → M W
  | [x] => fun h => if insB h x C = true then bnd (f [x]) (fun z => match z with
    | .int n => if 0 ≤ n ∧ n < 4611686018427387904 then rtn (.int n) else bad
    | _ => bad) h else .no
  | _ => bad
section
variable {K : PySem.W.Frag} {cm : Cm} {ρ : List Addr} {h h' : Hw} {H : Hp}
theorem insB_of {x : W} {v : V} {C : Str} (rh : RelH K cm ρ h H) (r : Rel K ρ H x v) (e : insB h x C = true) : ∃ p a dx fv, x = .ref p ∧ v = .ref a ∧ ρ[p]? = some a ∧ H a = some (.ins (cm C) dx fv) := by
  unfold insB at e
  split at e
  · rename_i p
    split at e
    · rename_i D fs hp
      obtain ⟨p', a, dx, fs', fv, e1, e2, e3, e4, e5, _⟩ := ins_of (C := C) (P := fun _ => True) rh r ⟨p, D, fs, rfl, hp, of_decide_eq_true e, trivial⟩
      exact ⟨p', a, dx, fv, e1, e2, e3, e5⟩
    · cases e
  · cases e
theorem tyIn_of {y : W} {v : V} {C : Str} {tys : List String} (rh : RelH K cm ρ h H) (r : Rel K ρ H y v) (e : (insB h y C || tyIn h y tys) = true) : ∃ t, TyN K (cm C) H v t ∧ (t = .ref (cm C) ∨ ∃ n ∈ tys, t = .type n) := by
  rcases Bool.or_eq_true_iff.mp e with e | e
  · obtain ⟨p, a, dx, fv, rfl, rfl, _, ea⟩ := insB_of rh r e
    exact ⟨_, .ins ea, .inl rfl⟩
  · unfold tyIn at e
    split at e
    · rename_i n hn
      exact ⟨_, .base (tyX_of rh r hn), .inr ⟨n, by simpa using e, rfl⟩⟩
    · cases e
end
section
variable {X : Cx} {cm : Cm} {C : Str} {f : List W → M W} {tys : List String}
theorem own2 {ρ : List Addr} {h h' : Hw} {H : Hp} {ws : List W} {vs : List V} {z : W} {Q : VK} {E : XK} (rh : RelH X.K cm ρ h H) (r : Rels X.K ρ H ws vs) (e : f ws h = .ok z h') (k : KE X.K cm ρ H z h' Q) : spM X.K cm f vs H Q E :=
  ⟨ρ, h, ws, z, h', rh, r, e, k⟩
theorem wOwn : OpW X.K cm (rOwn X.K (cm C) tys (spM X.K cm f)) (fOwn C tys f) := by
  intro ρ h H x y x' y' z h' Q rh rx ry e k
  unfold fOwn at e
  split at e
  · rename_i q
    obtain ⟨q1, q2⟩ := Bool.and_eq_true_iff.mp q
    obtain ⟨p, a, dx, fv, rfl, rfl, hp, ea⟩ := insB_of rh rx q1
    obtain ⟨t, ty, ht⟩ := tyIn_of rh ry q2
    exact ⟨a, dx, fv, t, rfl, ea, ty, ht, own2 rh (.cons rx (.cons ry .nil)) e k⟩
  · cases e
theorem wOwn2 : OpW X.K cm (rOwn2 (cm C) (spM X.K cm f)) (fOwn C [] f) := by
  intro ρ h H x y x' y' z h' Q rh rx ry e k
  unfold fOwn at e
  split at e
  · rename_i q
    obtain ⟨q1, q2⟩ := Bool.and_eq_true_iff.mp q
    obtain ⟨p, a, dx, fv, rfl, rfl, hp, ea⟩ := insB_of rh rx q1
    have q3 : insB h y C = true := by
      unfold tyIn at q2
      cases q4 : insB h y C with
      | true => rfl
      | false =>
        rw [q4, Bool.false_or] at q2
        split at q2 <;> simp at q2
    obtain ⟨p2, b, dy, gv, rfl, rfl, hp2, eb⟩ := insB_of rh ry q3
    exact ⟨a, dx, fv, b, dy, gv, rfl, ea, rfl, eb, own2 rh (.cons rx (.cons ry .nil)) e k⟩
  · cases e
theorem wOwnNe : OpW X.K cm (rOwnNe X.K (cm C) tys (spM X.K cm f)) (fOwnNe C tys f) := by
  intro ρ h H x y x' y' z h' Q rh rx ry e k
  obtain ⟨b, h1, e1, e2⟩ := bnd_ok e
  unfold fOwn at e1
  split at e1
  · rename_i q
    obtain ⟨q1, q2⟩ := Bool.and_eq_true_iff.mp q
    obtain ⟨p, a, dx, fv, rfl, rfl, hp, ea⟩ := insB_of rh rx q1
    obtain ⟨t, ty, ht⟩ := tyIn_of rh ry q2
    refine ⟨a, dx, fv, t, rfl, ea, ty, ht, own2 rh (.cons rx (.cons ry .nil)) e1 fun ρ1 H1 v l1 rh1 rv => ?_⟩
    cases b with
    | bl b =>
      cases rv
      cases e2
      exact ⟨b, rfl, k ρ1 H1 _ l1 rh1 (.bl _)⟩
    | _ => cases e2
  · cases e1
theorem wOwnIn {neg : Bool} : OpW X.K cm (rOwnIn neg (cm C) (spM X.K cm f)) (fOwnIn neg C f) := by
  intro ρ h H y x y' x' z h' Q rh ry rx e k
  unfold fOwnIn at e
  split at e
  · rename_i q
    obtain ⟨p, a, dx, fv, rfl, rfl, hp, ea⟩ := insB_of rh rx q
    obtain ⟨b, h1, e1, e2⟩ := bnd_ok e
    refine ⟨a, dx, fv, rfl, ea, own2 rh (.cons rx (.cons ry .nil)) e1 fun ρ1 H1 v l1 rh1 rv => ?_⟩
    cases b with
    | bl b =>
      cases rv
      cases e2
      exact ⟨b, rfl, k ρ1 H1 _ l1 rh1 (.bl _)⟩
    | _ => cases e2
  · cases e
theorem wOwnIx : OpW X.K cm (rOwnIx (cm C) (spM X.K cm f)) (fOwnIx C f) := by
  intro ρ h H x y x' y' z h' Q rh rx ry e k
  unfold fOwnIx at e
  split at e
  · rename_i q
    obtain ⟨p, a, dx, fv, rfl, rfl, hp, ea⟩ := insB_of rh rx q
    exact ⟨a, dx, fv, rfl, ea, own2 rh (.cons rx (.cons ry .nil)) e k⟩
  · cases e
/-- a[b] of an instance -/
theorem re_ixO {k : Nat} {g : Addr} {fd : FuncData} {ps : List Str} {a b : Expr} {ma mb : ME} {pos : Pos} (F : FnOk X.prog X.w X.K X.mg X.base CX0 k g fd ps (spM X.K cm f)) (hr : Room (k + 1) X.A) (hb : Binds X.K fd ps [])
    (hs : PySem.W.findIn X.K (.ref (cm C)) "__getitem__" = some (some (.ref g))) (hf : PySem.W.fnIn X.K g = true) (hfn : PySem.W.isFn X.K (.ref g) = true) (ra : RE X cm a ma) (rb : RE X cm b mb)
    (hsl : ∀ o i, subscripted b true o i = runValue (.builtin "lifetime.subscript" ⟨[o, i], []⟩) := by exact fun _ _ => rfl) : RE X cm (.Subscript a b pos) (mBin (fOwnIx C f) ma mb) := by
  refine peM (t := tOp (rOwnIx (cm C) (spM X.K cm f)) (tE X.K cm ma) (tE X.K cm mb)) ⟨fun pins s σ H Q I q => ?_⟩ fun _ _ _ => op_tE wOwnIx
  exact Subscript_ (binT ra rb I q fun v u s2 x y H2 I2 rx ry q => ix_own F hr hb hs hf hfn hsl a pins s2 σ H2 x y v u Q I2 rx ry q)
def gSubO (C : Str) (f : List W → M W) (mo mi : ME) : MG := fun w sw => bnd (mo sw) fun o => bnd (mi sw) fun i => bnd (fun h => if insB h o C = true then f [o, i, w] h else .no) fun _ => rtn sw
theorem rg_subO {k : Nat} {g : Addr} {fd : FuncData} {ps : List Str} {o i : Expr} {mo mi : ME} {pos : Pos} {vs : List Nat} (F : FnOk X.prog X.w X.K X.mg X.base CX0 k g fd ps (spM X.K cm f)) (hr : Room k X.A) (hb : Binds X.K fd ps [])
    (hq : PySem.W.noSeq X.K (cm C) = true) (hs : PySem.W.findIn X.K (.ref (cm C)) "__setitem__" = some (some (.ref g))) (hf : PySem.W.isFn X.K (.ref g) = true) (ho : RE X cm o mo) (hi : RE X cm i mi)
    (ha : ∀ v, assign (.Subscript o i pos) X.env v = (do
      let ov ← holding [v] (eval o X.env)
      let iv ← holding [v, ov] (eval i X.env)
      standAt pos
      holding [v, ov, iv] (setItem ov iv v)
      release [v, ov, iv] []) := by intro _; rfl) : RG X cm vs (.Subscript o i pos) (gSubO C f mo mi) := by
  refine pgM (pg_sub ho hi (set_own F hr hb hq hs hf) ha) fun v σ H Q q => ?_
  obtain ⟨ρ, h, sw, w, s, h', rh, rs, rw', e, k⟩ := q
  obtain ⟨x, h1, e1, e2⟩ := bnd_ok e
  obtain ⟨y, h2, e3, e4⟩ := bnd_ok e2
  obtain ⟨u, h3, e5, e6⟩ := bnd_ok e4
  cases e6
  refine ⟨ρ, h, sw, x, h1, rh, rs, e1, fun ρ1 H1 x' l1 rh1 rx => ?_⟩
  refine ⟨ρ1, h1, sw, y, h2, rh1, rs.mono l1, e3, fun ρ2 H2 y' l2 rh2 ry => ?_⟩
  split at e5
  · rename_i q
    obtain ⟨p, a, dx, fv, rfl, rfl, hp, ea⟩ := insB_of rh2 (rx.mono l2) q
    refine ⟨a, dx, fv, rfl, ea, own2 rh2 (.cons (rx.mono l2) (.cons ry (.cons ((rw'.mono l1).mono l2) .nil))) e5 fun ρ3 H3 v3 l3 rh3 rv3 => ?_⟩
    exact k ρ3 H3 σ .refl (l1.trans (l2.trans l3)) rh3 (rs.mono (l1.trans (l2.trans l3)))
  · cases e5
theorem wLenO : CallW X.K cm (rOwnLen (cm C) (spM X.K cm f)) (bLenO C f) := by
  intro ρ h H ws vs z h' Q rh rw e k
  cases rw with
  | nil => cases e
  | cons r t =>
    cases t with
    | cons _ _ => cases e
    | nil =>
      have e' : (if insB h _ C = true then bnd (f [_]) (fun z => match z with
        | .int n => if 0 ≤ n ∧ n < 4611686018427387904 then rtn (.int n) else bad
        | _ => bad) h else EL.R.no) = .ok z h' := e
      split at e'
      · rename_i q
        obtain ⟨p, a, dx, fv, rfl, rfl, hp, ea⟩ := insB_of rh r q
        obtain ⟨b, h1, e1, e2⟩ := bnd_ok e'
        refine ⟨a, dx, fv, rfl, ea, own2 rh (.cons r .nil) e1 fun ρ1 H1 v l1 rh1 rv => ?_⟩
        cases b with
        | int n =>
          cases rv
          have e2' : (if 0 ≤ n ∧ n < 4611686018427387904 then rtn (W.int n) else bad) h1 = .ok z h' := e2
          split at e2'
          · rename_i hn
            cases e2'
            exact ⟨n.toNat, by rw [Int.toNat_of_nonneg hn.1], by omega, by rw [Int.toNat_of_nonneg hn.1]; exact k ρ1 H1 _ l1 rh1 (.int n)⟩
          · cases e2'
        | _ => cases e2
      · cases e'
theorem cr_lenO {k : Nat} {g : Addr} {fd : FuncData} {ps : List Str} {D : Addr} {sp : Sp} (F : FnOk X.prog X.w X.K X.mg X.base CX0 k g fd ps sp) (hr : Room (k + 1) X.A) (hb : Binds X.K fd ps [])
    (hs : PySem.W.findIn X.K (.ref D) "__len__" = some (some (.ref g))) (hf : PySem.W.isFn X.K (.ref g) = true) : CallR X (.builtin "len") (rOwnLen D sp) := by
  intro pins s σ H xs us Q I r h
  obtain ⟨a, dx, fs, rfl, ea, h⟩ := h
  obtain ⟨u, rfl, rx⟩ := vals1 r
  cases (show u = Value.ref a from rx)
  obtain ⟨od, J⟩ := inst_of I ea
  obtain ⟨m, hF⟩ := I.fr
  refine PySem.W.len_K hF I.ok.mod.kin J hs hf (wpAny_mono (run_own F (Sub.in1 ⟨hr, rfl⟩) hb I (.cons rx .nil) h) (fun r s' q => ?_) fun _ _ e => e)
  obtain ⟨z, H', I', rz, n, rfl, hn, q⟩ := q
  obtain ⟨t, rfl⟩ := (show ∃ t, r = Value.int n t from rz)
  exact ⟨⟨by omega, by omega⟩, .int n, H', I'.tok _, ⟨_, rfl⟩, q⟩
end
end EL
namespace EL
open PySem PySem.Spec L2
open PyProof.Rows hiding St

/-! ### dicts by values -/
def valW {κ : Type} [DecidableEq κ] (kvs : List (κ × W)) (k : κ) : Option W := (kvs.find? fun kv => decide (kv.1 = k)).map (·.2)
def putKW {κ : Type} [DecidableEq κ] (kvs : List (κ × W)) (k : κ) (w : W) : List (κ × W) := if (kvs.any fun kv => decide (kv.1 = k)) = true then kvs.map (fun kv => if kv.1 = k then (kv.1, w) else kv) else kvs ++ [(k, w)]
def dropKW {κ : Type} [DecidableEq κ] (kvs : List (κ × W)) (k : κ) : List (κ × W) := kvs.filter fun kv => decide (kv.1 ≠ k)
def mergeKW (kvs more : List (Key × W)) : List (Key × W) := more.foldl (fun acc kv => putKW acc kv.1 kv.2) kvs
/-- two lists of pairs, key by key -/
inductive KVs {κ : Type} (K : PySem.W.Frag) (ρ : List Addr) (H : Hp) : List (κ × W) → List (κ × V) → Prop where
  | nil : KVs K ρ H [] []
  | cons {k : κ} {w : W} {v : V} {ws : List (κ × W)} {vs : List (κ × V)} (r : Rel K ρ H w v) (t : KVs K ρ H ws vs) : KVs K ρ H ((k, w) :: ws) ((k, v) :: vs)
section
variable {κ : Type} {K : PySem.W.Frag} {ρ ρ' : List Addr} {H H' : Hp} {kvs : List (κ × W)} {kv : List (κ × V)}
theorem KVs.of : ∀ {kvs : List (κ × W)} {kv : List (κ × V)}, kv.map (·.1) = kvs.map (·.1) → Rels K ρ H (kvs.map (·.2)) (kv.map (·.2)) → KVs K ρ H kvs kv
  | [], [], _, _ => .nil
  | [], _ :: _, e, _ => by cases e
  | _ :: _, [], e, _ => by cases e
  | (k, w) :: ws, (k', v) :: vs, e, r => by
    have e1 : k' = k := (List.cons.inj e).1
    subst e1
    cases r with
    | cons r t => exact .cons r (KVs.of (List.cons.inj e).2 t)
theorem KVs.keys : ∀ {kvs : List (κ × W)} {kv : List (κ × V)}, KVs K ρ H kvs kv → kv.map (·.1) = kvs.map (·.1)
  | _, _, .nil => rfl
  | _, _, .cons _ t => by rw [List.map_cons, List.map_cons, KVs.keys t]
theorem KVs.rels : ∀ {kvs : List (κ × W)} {kv : List (κ × V)}, KVs K ρ H kvs kv → Rels K ρ H (kvs.map (·.2)) (kv.map (·.2))
  | _, _, .nil => .nil
  | _, _, .cons r t => .cons r (KVs.rels t)
theorem KVs.mono (l : Le K ρ H ρ' H') : ∀ {kvs : List (κ × W)} {kv : List (κ × V)}, KVs K ρ H kvs kv → KVs K ρ' H' kvs kv
  | _, _, .nil => .nil
  | _, _, .cons r t => .cons (r.mono l) (KVs.mono l t)
theorem KVs.length : ∀ {kvs : List (κ × W)} {kv : List (κ × V)}, KVs K ρ H kvs kv → kvs.length = kv.length
  | _, _, .nil => rfl
  | _, _, .cons _ t => by rw [List.length_cons, List.length_cons, KVs.length t]
variable [DecidableEq κ]
theorem KVs.val (k : κ) : ∀ {kvs : List (κ × W)} {kv : List (κ × V)}, KVs K ρ H kvs kv → (valW kvs k = none ∧ valV kv k = none) ∨ ∃ w v, valW kvs k = some w ∧ valV kv k = some v ∧ Rel K ρ H w v
  | _, _, .nil => .inl ⟨rfl, rfl⟩
  | _, _, .cons (k := k') (w := w) (v := v) r t => by
    by_cases e : k' = k
    · refine .inr ⟨w, v, ?_, ?_, r⟩
      · simp [valW, List.find?_cons, e]
      · exact valV_pos e
    · have e1 : ∀ ws : List (κ × W), valW ((k', w) :: ws) k = valW ws k := fun ws => by simp [valW, List.find?_cons, e]
      rw [e1, valV_neg e]
      exact KVs.val k t
theorem KVs.any (k : κ) : ∀ {kvs : List (κ × W)} {kv : List (κ × V)}, KVs K ρ H kvs kv → (kv.any fun p => decide (p.1 = k)) = (kvs.any fun p => decide (p.1 = k))
  | _, _, .nil => rfl
  | _, _, .cons _ t => by rw [List.any_cons, List.any_cons, KVs.any k t]
theorem KVs.repl (k : κ) {w : W} {v : V} (q : Rel K ρ H w v) : ∀ {kvs : List (κ × W)} {kv : List (κ × V)}, KVs K ρ H kvs kv → KVs K ρ H (kvs.map fun p => if p.1 = k then (p.1, w) else p) (kv.map fun p => if p.1 = k then (p.1, v) else p)
  | _, _, .nil => .nil
  | _, _, .cons (k := k') r t => by
    rw [List.map_cons, List.map_cons]
    by_cases e : k' = k
    · rw [if_pos e, if_pos e]
      exact .cons q (KVs.repl k q t)
    · rw [if_neg e, if_neg e]
      exact .cons r (KVs.repl k q t)
theorem KVs.append {ws2 : List (κ × W)} {vs2 : List (κ × V)} (b : KVs K ρ H ws2 vs2) : ∀ {kvs : List (κ × W)} {kv : List (κ × V)}, KVs K ρ H kvs kv → KVs K ρ H (kvs ++ ws2) (kv ++ vs2)
  | _, _, .nil => b
  | _, _, .cons r t => .cons r (KVs.append b t)
theorem KVs.put (k : κ) {w : W} {v : V} (q : Rel K ρ H w v) (r : KVs K ρ H kvs kv) : KVs K ρ H (putKW kvs k w) (putK kv k v) := by
  unfold putKW putK
  rw [r.any k]
  split
  · exact r.repl k q
  · exact KVs.append (.cons q .nil) r
theorem KVs.drop (k : κ) : ∀ {kvs : List (κ × W)} {kv : List (κ × V)}, KVs K ρ H kvs kv → KVs K ρ H (dropKW kvs k) (dropK kv k)
  | _, _, .nil => .nil
  | _, _, .cons (k := k') (w := w) (v := v) (ws := ws) (vs := vs) r t => by
    have ih := KVs.drop k t
    unfold dropKW dropK at ih ⊢
    by_cases e : k' = k
    · rw [List.filter_cons_of_neg (by simp [e]), List.filter_cons_of_neg (by simp [e])]
      exact ih
    · rw [List.filter_cons_of_pos (by simp [e]), List.filter_cons_of_pos (by simp [e])]
      exact .cons r ih
end
theorem KVs.merge {K : PySem.W.Frag} {ρ : List Addr} {H : Hp} : ∀ {more : List (Key × W)} {moreV : List (Key × V)} {kvs : List (Key × W)} {kv : List (Key × V)}, KVs K ρ H more moreV → KVs K ρ H kvs kv → KVs K ρ H (mergeKW kvs more) (mergeK kv moreV)
  | _, _, _, _, .nil, b => b
  | _, _, _, _, .cons (k := k) r t, b => by
    have q := KVs.merge t (b.put k r)
    exact q
/-- a dict to be read, locked or not -/
def dOf (h : Hw) (x : W) : Option (List (Key × W)) := match x with
  | .ref p => match h[p]? with
    | some (.dK kvs) => some kvs
    | some (.dF kvs) => some kvs
    | _ => none
  | _ => none
/-- a dict to be written -/
def dMut (h : Hw) (x : W) : Option (Nat × List (Key × W)) := match x with
  | .ref p => match h[p]? with
    | some (.dK kvs) => some (p, kvs)
    | _ => none
  | _ => none
def keyW : W → Option Key
  | .int i => some (.inl i)
  | .str x => some (.inr x)
  | _ => none
section
variable {K : PySem.W.Frag} {cm : Cm} {ρ : List Addr} {h h' : Hw} {H : Hp}
theorem dOf_of {x : W} {v : V} {kvs : List (Key × W)} (rh : RelH K cm ρ h H) (r : Rel K ρ H x v) (e : dOf h x = some kvs) : ∃ p a kv, x = .ref p ∧ ρ[p]? = some a ∧ v = .ref a ∧ Rd H a (.dK kv) ∧ KVs K ρ H kvs kv := by
  unfold dOf at e
  split at e
  · rename_i p
    cases r with
    | ref hp =>
      split at e
      · rename_i kvs' ho
        cases e
        obtain ⟨kv, ea, ek, rl⟩ := rh.obj p _ _ ho hp
        exact ⟨p, _, kv, rfl, hp, rfl, .inl ea, .of ek rl⟩
      · rename_i kvs' ho
        cases e
        obtain ⟨o, kv, ea, ek, rl⟩ := rh.obj p _ _ ho hp
        exact ⟨p, _, kv, rfl, hp, rfl, .inr ⟨o, ea⟩, .of ek rl⟩
      · cases e
  · cases e
theorem dMut_of {x : W} {v : V} {p : Nat} {kvs : List (Key × W)} (rh : RelH K cm ρ h H) (r : Rel K ρ H x v) (e : dMut h x = some (p, kvs)) : ∃ a kv, x = .ref p ∧ ρ[p]? = some a ∧ v = .ref a ∧ H a = some (.dK kv) ∧ KVs K ρ H kvs kv := by
  unfold dMut at e
  split at e
  · cases r with
    | ref hp =>
      split at e
      · rename_i kvs' ho
        cases e
        obtain ⟨kv, ea, ek, rl⟩ := rh.obj _ _ _ ho hp
        exact ⟨_, kv, rfl, hp, rfl, ea, .of ek rl⟩
      · cases e
  · cases e
theorem keyW_of {x : W} {v : V} {k : Key} (r : Rel K ρ H x v) (e : keyW x = some k) : v = kV k := by
  cases r <;> cases e <;> rfl
theorem relO_dK {a : Addr} {kvs : List (Key × W)} {kv : List (Key × V)} (r : KVs K ρ (upd H a (.dK kv)) kvs kv) : RelO K cm ρ (upd H a (.dK kv)) a (.dK kvs) := ⟨kv, upd_same, r.keys, r.rels⟩
theorem rd_get {a : Addr} {kv : List (Key × V)} {k : Key} (e : Rd H a (.dK kv)) : DGet H a (kV k) (valV kv k) := .inl ⟨kv, k, e, rfl, rfl⟩
end
def fDget : W → W → M W := fun d k h => match dOf h d, keyW k with
  | some kvs, some k => (match valW kvs k with
    | some w => .ok w h
    | none => .no)
  | _, _ => .no
def fDin (neg : Bool) : W → W → M W := fun k d h => match dOf h d, keyW k with
  | some kvs, some k => .ok (.bl (neg != (valW kvs k).isSome)) h
  | _, _ => .no
def mDget2 (a k x : ME) : ME := fun sw => bnd (a sw) fun d h1 => match dOf h1 d with
  | some _ => bnd (k sw) (fun y => bnd (x sw) fun z h => match dOf h d, keyW y with
    | some kvs, some k => .ok ((valW kvs k).getD z) h
    | _, _ => .no) h1
  | none => .no
def mDpop2 (a k x : ME) : ME := fun sw => bnd (a sw) fun d h1 => match dOf h1 d with
  | some _ => bnd (k sw) (fun y => bnd (x sw) fun z h => match dMut h d, keyW y with
    | some (p, kvs), some k => (match valW kvs k with
      | some w => .ok w (h.set p (.dK (dropKW kvs k)))
      | none => .ok z h)
    | _, _ => .no) h1
  | none => .no
def sDput (a k v : ME) : MS := fun sw => bnd (v sw) fun z => bnd (a sw) fun d => bnd (k sw) fun y h => match dMut h d, keyW y with
  | some (p, kvs), some k => if kvs.length < lim then .ok (.nx sw) (h.set p (.dK (putKW kvs k z))) else .no
  | _, _ => .no
def bLenD : List W → M W
  | [x] => fun h => match dMut h x with
    | some (_, kvs) => .ok (.int kvs.length) h
    | none => .no
  | _ => bad
section
variable {X : Cx} {cm : Cm} {a b x e : Expr} {ma mb mx me : ME} {pos apos cpos pos' : Pos}
theorem re_dsub (hu : X.A.units + 1 < cLine) (ha : RE X cm a ma) (hb : RE X cm b mb) (hs : NoSl b := by exact fun _ _ => rfl) : RE X cm (.Subscript a b pos) (mBin fDget ma mb) := by
  refine peM (pe_dget hu ha hb hs) fun σ H Q q => ?_
  obtain ⟨ρ, h, sw, w, h', rh, rs, e, k⟩ := q
  obtain ⟨d, h1, e1, e2⟩ := bnd_ok e
  obtain ⟨y, h2, e3, e4⟩ := bnd_ok e2
  refine ⟨ρ, h, sw, d, h1, rh, rs, e1, fun ρ1 H1 d' l1 rh1 rd => ?_⟩
  refine ⟨ρ1, h1, sw, y, h2, rh1, rs.mono l1, e3, fun ρ2 H2 y' l2 rh2 ry => ?_⟩
  unfold fDget at e4
  split at e4
  · rename_i kvs kk hd hk
    obtain ⟨p, ad, kv, rfl, hp, rfl, er, rk⟩ := dOf_of rh2 (rd.mono l2) hd
    have ek := keyW_of ry hk
    subst ek
    rcases rk.val kk with ⟨n1, n2⟩ | ⟨w', v, n1, n2, rv⟩
    · rw [n1] at e4; cases e4
    · rw [n1] at e4
      cases e4
      refine ⟨ad, v, rfl, ?_, k ρ2 H2 v (l1.trans l2) rh2 rv⟩
      have g := rd_get (k := kk) er
      rw [n2] at g
      exact g
  · cases e4
theorem re_din (hu : X.A.units + 1 < cLine) (ha : RE X cm a ma) (hb : RE X cm b mb) (hm : behindInMarks .In b = false := by first | exact nobehind _ (by decide) (by decide) | rfl) : RE X cm (.Compare a [.In] [b] pos) (mBin (fDin false) ma mb) := by
  refine peM (pe_cmp (pc_din hu ha hb) hm) fun σ H Q q => ?_
  obtain ⟨ρ, h, sw, w, h', rh, rs, e, k⟩ := q
  obtain ⟨y, h1, e1, e2⟩ := bnd_ok e
  obtain ⟨d, h2, e3, e4⟩ := bnd_ok e2
  refine ⟨ρ, h, sw, y, h1, rh, rs, e1, fun ρ1 H1 y' l1 rh1 ry => ?_⟩
  refine ⟨ρ1, h1, sw, d, h2, rh1, rs.mono l1, e3, fun ρ2 H2 d' l2 rh2 rd => ?_⟩
  unfold fDin at e4
  split at e4
  · rename_i kvs kk hd hk
    obtain ⟨p, ad, kv, rfl, hp, rfl, er, rk⟩ := dOf_of rh2 rd hd
    have ek := keyW_of ry hk
    subst ek
    cases e4
    refine ⟨ad, _, rfl, rd_get er, ?_⟩
    have es : (valV kv kk).isSome = (valW kvs kk).isSome := by
      rcases rk.val kk with ⟨n1, n2⟩ | ⟨w', v, n1, n2, rv⟩ <;> rw [n1, n2] <;> rfl
    rw [es]
    have q := k ρ2 H2 (.bl (false != (valW kvs kk).isSome)) (l1.trans l2) rh2 (.bl _)
    simpa using q
  · cases e4
theorem re_dget2 (hu : X.A.units + 1 < cLine) (ha : RE X cm a ma) (hb : RE X cm b mb) (hx : RE X cm x mx) (m : M2 X a "get" apos b x cpos := by exact ⟨rfl, rfl, rfl, rfl⟩) : RE X cm (.Call (.Attribute a "get" apos) [b, x] [] cpos) (mDget2 ma mb mx) := by
  refine peM (pe_dget2 hu ha hb hx m) fun σ H Q q => ?_
  obtain ⟨ρ, h, sw, w, h', rh, rs, e, k⟩ := q
  obtain ⟨d, h1, e1, e2⟩ := bnd_ok e
  refine ⟨ρ, h, sw, d, h1, rh, rs, e1, fun ρ1 H1 d' l1 rh1 rd => ?_⟩
  split at e2
  · rename_i kvs0 hd0
    obtain ⟨p0, ad0, kv0, _, _, rfl, er0, _⟩ := dOf_of rh1 rd hd0
    obtain ⟨y, h2, e3, e4⟩ := bnd_ok e2
    obtain ⟨z, h3, e5, e6⟩ := bnd_ok e4
    refine ⟨ad0, rfl, .inl ⟨kv0, er0⟩, ρ1, h1, sw, y, h2, rh1, rs.mono l1, e3, fun ρ2 H2 y' l2 rh2 ry => ?_⟩
    refine ⟨ρ2, h2, sw, z, h3, rh2, rs.mono (l1.trans l2), e5, fun ρ3 H3 z' l3 rh3 rz => ?_⟩
    split at e6
    · rename_i kvs kk hd hk
      obtain ⟨p, ad, kv, rfl, hp, ev, er, rk⟩ := dOf_of rh3 (rd.mono (l2.trans l3)) hd
      cases ev
      have ek := keyW_of ry hk
      subst ek
      cases e6
      refine ⟨_, rd_get er, ?_⟩
      rcases rk.val kk with ⟨n1, n2⟩ | ⟨w', v, n1, n2, rv⟩
      · rw [n1] at k
        rw [n2]
        exact k ρ3 H3 _ (l1.trans (l2.trans l3)) rh3 rz
      · rw [n1] at k
        rw [n2]
        exact k ρ3 H3 _ (l1.trans (l2.trans l3)) rh3 rv
    · cases e6
  · cases e2
theorem re_dpop2 (ha : RE X cm a ma) (hb : RE X cm b mb) (hx : RE X cm x mx) (m : M2 X a "pop" apos b x cpos := by exact ⟨rfl, rfl, rfl, rfl⟩) : RE X cm (.Call (.Attribute a "pop" apos) [b, x] [] cpos) (mDpop2 ma mb mx) := by
  refine peM (pe_dpop2 ha hb hx m) fun σ H Q q => ?_
  obtain ⟨ρ, h, sw, w, h', rh, rs, e, k⟩ := q
  obtain ⟨d, h1, e1, e2⟩ := bnd_ok e
  refine ⟨ρ, h, sw, d, h1, rh, rs, e1, fun ρ1 H1 d' l1 rh1 rd => ?_⟩
  split at e2
  · rename_i kvs0 hd0
    obtain ⟨p0, ad0, kv0, _, _, rfl, er0, _⟩ := dOf_of rh1 rd hd0
    obtain ⟨y, h2, e3, e4⟩ := bnd_ok e2
    obtain ⟨z, h3, e5, e6⟩ := bnd_ok e4
    refine ⟨ad0, rfl, .inl ⟨kv0, er0⟩, ρ1, h1, sw, y, h2, rh1, rs.mono l1, e3, fun ρ2 H2 y' l2 rh2 ry => ?_⟩
    refine ⟨ρ2, h2, sw, z, h3, rh2, rs.mono (l1.trans l2), e5, fun ρ3 H3 z' l3 rh3 rz => ?_⟩
    split at e6
    · rename_i p kvs kk hd hk
      obtain ⟨ad, kv, rfl, hp, ev, ea, rk⟩ := dMut_of rh3 (rd.mono (l2.trans l3)) hd
      cases ev
      have ek := keyW_of ry hk
      subst ek
      refine ⟨kv, kk, ea, rfl, fun v hv => ?_, fun hv => ?_⟩
      · rcases rk.val kk with ⟨n1, n2⟩ | ⟨w', v', n1, n2, rv⟩
        · rw [n2] at hv; cases hv
        · rw [n2] at hv
          cases hv
          rw [n1] at e6
          cases e6
          have lu : Le X.K ρ3 H3 ρ3 (upd H3 ad0 (.dK (dropK kv kk))) := le_mut ea trivial
          exact k ρ3 _ _ (l1.trans (l2.trans (l3.trans lu))) (rh3.set hp ea trivial (relO_dK ((rk.drop kk).mono lu))) (rv.mono lu)
      · rcases rk.val kk with ⟨n1, n2⟩ | ⟨w', v', n1, n2, rv⟩
        · rw [n1] at e6
          cases e6
          exact k ρ3 H3 _ (l1.trans (l2.trans l3)) rh3 rz
        · rw [n2] at hv; cases hv
    · cases e6
  · cases e2
theorem rs_dput (hu : X.A.units + 1 < cLine) (ha : RE X cm a ma) (hb : RE X cm b mb) (hx : RE X cm x mx) (hs : swapsWith x (some (.Subscript a b pos')) pos.line X.env = pure false := by rfl) : RS X cm (.Assign [.Subscript a b pos'] x pos) (sDput ma mb mx) := by
  refine psM (ps_dput hu ha hb hx hs) fun D σ H q => ?_
  obtain ⟨ρ, h, sw, f, h', rh, rs, e, k⟩ := q
  obtain ⟨z, h1, e1, e2⟩ := bnd_ok e
  obtain ⟨d, h2, e3, e4⟩ := bnd_ok e2
  obtain ⟨y, h3, e5, e6⟩ := bnd_ok e4
  refine ⟨ρ, h, sw, z, h1, rh, rs, e1, fun ρ1 H1 z' l1 rh1 rz => ?_⟩
  refine ⟨ρ1, h1, sw, d, h2, rh1, rs.mono l1, e3, fun ρ2 H2 d' l2 rh2 rd => ?_⟩
  refine ⟨ρ2, h2, sw, y, h3, rh2, rs.mono (l1.trans l2), e5, fun ρ3 H3 y' l3 rh3 ry => ?_⟩
  split at e6
  · rename_i p kvs kk hd hk
    obtain ⟨ad, kv, rfl, hp, rfl, ea, rk⟩ := dMut_of rh3 (rd.mono l3) hd
    have ek := keyW_of ry hk
    subst ek
    split at e6
    · rename_i hl
      cases e6
      have lu : Le X.K ρ3 H3 ρ3 (upd H3 ad (.dK (putK kv kk z'))) := le_mut ea trivial
      refine ⟨ad, _, rfl, DPut.k ea (by rw [← rk.length, ← lim_eq]; exact hl), ?_⟩
      have l03 := l1.trans (l2.trans l3)
      exact k ρ3 _ σ (l03.trans lu) (rh3.set hp ea trivial (relO_dK ((rk.put kk (rz.mono (l2.trans l3))).mono lu))) ((rs.mono l03).mono lu)
    · cases e6
  · cases e6
theorem wLenD : CallW X.K cm (fun xs H Q => ∃ a kvs, xs = [V.ref a] ∧ H a = some (.dK kvs) ∧ Q (.int kvs.length) H) bLenD := by
  intro ρ h H ws vs z h' Q rh r e k
  cases r with
  | nil => cases e
  | cons r t =>
    cases t with
    | cons _ _ => cases e
    | nil =>
      have e' : (match dMut h _ with
        | some (_, kvs) => EL.R.ok (W.int kvs.length) h
        | none => EL.R.no) = .ok z h' := e
      split at e'
      · rename_i p kvs hd
        cases e'
        obtain ⟨ad, kv, rfl, hp, rfl, ea, rk⟩ := dMut_of rh r hd
        refine ⟨ad, kv, rfl, ea, ?_⟩
        rw [← rk.length]
        exact k.at rh (.int _)
      · cases e'
end
end EL
namespace EL
open PySem PySem.Spec L2
open PyProof.Rows hiding St

/-! ### a dict that is walked: locked meanwhile -/
structure Le0 (K : PySem.W.Frag) (ρ : List Addr) (H : Hp) (ρ' : List Addr) (H' : Hp) : Prop where
  pre : ρ <+: ρ'
  sq : ∀ a vs, SqT K H a vs → SqT K H' a vs
  sl : ∀ a vs, SqP K H a vs → SqP K H' a vs
  xd : ∀ a fs, H a = some (.xd fs) → H' a = some (.xd fs)
section
variable {K : PySem.W.Frag} {cm : Cm} {ρ ρ' : List Addr} {h h' : Hw} {H H' : Hp}
mutual
theorem Rel.mono0 (l : Le0 K ρ H ρ' H') : ∀ {w : W} {v : V}, Rel K ρ H w v → Rel K ρ' H' w v
  | _, _, .non => .non
  | _, _, .bl b => .bl b
  | _, _, .int i => .int i
  | _, _, .str x => .str x
  | _, _, .ref h => .ref (pre_get l.pre h)
  | _, _, .tup h r => .tup (l.sq _ _ h) (Rels.mono0 l r)
  | _, _, .rol h r => .rol (l.sl _ _ h) (Rels.mono0 l r)
theorem Rels.mono0 (l : Le0 K ρ H ρ' H') : ∀ {ws : List W} {vs : List V}, Rels K ρ H ws vs → Rels K ρ' H' ws vs
  | _, _, .nil => .nil
  | _, _, .cons r t => .cons (Rel.mono0 l r) (Rels.mono0 l t)
end
theorem RelO.mono0 {a : Addr} {o : O} (l : Le0 K ρ H ρ' H') (e : H' a = H a) (r : RelO K cm ρ H a o) : RelO K cm ρ' H' a o := by
  cases o with
  | lst xs => obtain ⟨vs, e1, q⟩ := r; exact ⟨vs, e.trans e1, q.mono0 l⟩
  | ins C fs => obtain ⟨dx, fv, e1, e2, q⟩ := r; exact ⟨dx, fv, e.trans e1, e2, q.mono0 l⟩
  | dK kvs => obtain ⟨kv, e1, e2, q⟩ := r; exact ⟨kv, e.trans e1, e2, q.mono0 l⟩
  | dF kvs => obtain ⟨o, kv, e1, e2, q⟩ := r; exact ⟨o, kv, e.trans e1, e2, q.mono0 l⟩
  | st ks => obtain ⟨n, l1, e1⟩ := r; exact ⟨n, l1, e.trans e1⟩
  | xc C f w => obtain ⟨d, v, e1, e2, q⟩ := r; exact ⟨d, v, e.trans e1, l.xd _ _ e2, q.mono0 l⟩
theorem RelS.mono0 {sw : SW} {σ : St} (l : Le0 K ρ H ρ' H') (r : RelS K ρ H sw σ) : RelS K ρ' H' sw σ := ⟨r.1, fun i w e =>
  let ⟨v, h1, h2⟩ := r.2 i w e
  ⟨v, h1, h2.mono0 l⟩⟩
theorem le_unlock {d : Addr} {od : Obj} {kv : List (Key × V)} (e : H d = some (.frz od (.dK kv))) : Le0 K ρ H ρ (upd H d (.dK kv)) := by
  have keep : ∀ b x, H b = some x → x ≠ .frz od (.dK kv) → upd H d (.dK kv) b = some x := fun b x hb hx => by
    have ne : b ≠ d := fun z => by
      subst z
      rw [hb] at e
      exact hx (Option.some.inj e)
    rw [upd_ne ne]
    exact hb
  refine ⟨List.prefix_refl _, fun b vs q => ?_, fun b vs q => ?_, fun b fs q => keep b _ q fun z => by cases z⟩
  · rcases q with (q | ⟨ob, q⟩) | q
    · exact .inl (.inl (keep b _ q fun z => by cases z))
    · exact .inl (.inr ⟨ob, keep b _ q fun z => by cases z⟩)
    · exact .inr q
  · rcases q with ⟨ob, q⟩ | q
    · exact .inl ⟨ob, keep b _ q fun z => by cases z⟩
    · exact .inr q
theorem lock_le {d : Addr} {od : Obj} {kv : List (Key × V)} (ea : H d = some (.dK kv)) (l : Le K ρ (upd H d (.frz od (.dK kv))) ρ' H') : Le K ρ H ρ' (upd H' d (.dK kv)) := by
  have lu : Le K ρ H ρ (upd H d (.frz od (.dK kv))) := le_mut ea trivial
  have ed : H' d = some (.frz od (.dK kv)) := l.fz _ _ _ upd_same
  have l0 : Le0 K ρ' H' ρ' (upd H' d (.dK kv)) := le_unlock ed
  refine ⟨l.pre, fun a vs q => l0.sq a vs (l.sq a vs (lu.sq a vs q)), fun a vs q => l0.sl a vs (l.sl a vs (lu.sl a vs q)), fun a o u q => ?_, fun a f q => ?_⟩
  · have ne : a ≠ d := fun z => by
      subst z
      rw [ea] at q
      cases q
    rw [upd_ne ne]
    exact l.fz a o u (by rw [upd_ne ne]; exact q)
  · have ne : a ≠ d := fun z => by
      subst z
      rw [ea] at q
      cases q
    rw [upd_ne ne]
    exact l.xd a f (by rw [upd_ne ne]; exact q)
theorem unlock_rel {d : Addr} {od : Obj} {kv : List (Key × V)} {p : Nat} {kvs : List (Key × W)} (rh : RelH K cm ρ h H) (hp : ρ[p]? = some d) (ed : H d = some (.frz od (.dK kv))) (eo : h[p]? = some (.dF kvs)) : RelH K cm ρ (h.set p (.dK kvs)) (upd H d (.dK kv)) := by
  have l0 : Le0 K ρ H ρ (upd H d (.dK kv)) := le_unlock ed
  refine ⟨by rw [List.length_set]; exact rh.len, rh.nd, fun j o1 b hj hb => ?_⟩
  by_cases hji : p = j
  · subst hji
    rw [hp] at hb
    cases hb
    rw [List.getElem?_set, if_pos rfl, if_pos (List.getElem?_eq_some_iff.mp eo).1] at hj
    cases hj
    obtain ⟨o', kv', e1, e2, q⟩ := rh.obj p _ _ eo hp
    rw [ed] at e1
    cases e1
    exact ⟨kv, upd_same, e2, q.mono0 l0⟩
  · rw [List.getElem?_set_ne hji] at hj
    exact (rh.obj j o1 b hj hb).mono0 l0 (upd_ne fun z => by
      subst z
      exact hji (nd_ix rh.nd hp hb))
end
def selM (m : ME) : SW → Hw → Option Nat := fun sw h => match m sw h with
  | .ok (.ref p) _ => some p
  | _ => none
def lockG {α : Type} (p : Option Nat) (b : M α) : M α := fun h => match p with
  | some p => (match h[p]? with
    | some (.dK kvs) => (match b (h.set p (.dF kvs)) with
      | .ok f h2 => (match h2[p]? with
        | some (.dF kvs2) => .ok f (h2.set p (.dK kvs2))
        | _ => .no)
      | _ => .no)
    | _ => .no)
  | none => .no
def lockS (sel : SW → Hw → Option Nat) (b : MS) : MS := fun sw h => lockG (sel sw h) (b sw) h
def lockE (sel : SW → Hw → Option Nat) (b : ME) : ME := fun sw h => lockG (sel sw h) (b sw) h
theorem lockG_inv {α : Type} {p : Option Nat} {b : M α} {h h' : Hw} {f : α} (e : lockG p b h = .ok f h') : ∃ p0 kvs h2 kvs2, p = some p0 ∧ h[p0]? = some (.dK kvs) ∧ b (h.set p0 (.dF kvs)) = .ok f h2 ∧ h2[p0]? = some (.dF kvs2) ∧ h' = h2.set p0 (.dK kvs2) := by
  unfold lockG at e
  split at e
  · split at e
    · split at e
      · split at e
        · cases e
          exact ⟨_, _, _, _, rfl, by assumption, by assumption, by assumption, rfl⟩
        · cases e
      · cases e
    · cases e
  · cases e
section
variable {X : Cx} {cm : Cm} {st : Stmt} {e : Expr} {b : MS} {be : ME} {sel : SW → Hw → Option Nat}
theorem rs_lock (hb : RS X cm st b) : RS X cm st (lockS sel b) := by
  refine psM (ps_lock hb) fun D σ H q => ?_
  obtain ⟨ρ, h, sw, f, h', rh, rs, e, k⟩ := q
  obtain ⟨p, kvs, h2, kvs2, ep, eo, e2, eo2, rfl⟩ := lockG_inv e
  have hl : p < ρ.length := by rw [rh.len]; exact (List.getElem?_eq_some_iff.mp eo).1
  have hp : ρ[p]? = some ρ[p] := List.getElem?_eq_getElem hl
  obtain ⟨kv, ea, ek, rl⟩ := rh.obj p _ _ eo hp
  refine ⟨ρ[p], _, ea, trivial, fun od => ?_⟩
  have lu : Le X.K ρ H ρ (upd H ρ[p] (.frz od (.dK kv))) := le_mut ea trivial
  refine ⟨ρ, _, sw, f, h2, RelH.set (o := .dF kvs) rh hp ea trivial ⟨od, kv, upd_same, ek, rl.mono lu⟩, rs.mono lu, e2, ?_⟩
  have key : ∀ ρ' H', Le X.K ρ (upd H ρ[p] (.frz od (.dK kv))) ρ' H' → RelH X.K cm ρ' h2 H' → H' ρ[p] = some (.frz od (.dK kv)) ∧ Le X.K ρ H ρ' (upd H' ρ[p] (.dK kv)) ∧ RelH X.K cm ρ' (h2.set p (.dK kvs2)) (upd H' ρ[p] (.dK kv)) ∧ Le0 X.K ρ' H' ρ' (upd H' ρ[p] (.dK kv)) := fun ρ' H' l' rh' => by
    have ed := l'.fz _ _ _ upd_same
    exact ⟨ed, lock_le ea l', unlock_rel rh' (pre_get l'.pre hp) ed eo2, le_unlock ed⟩
  cases f with
  | nx s => exact fun ρ' H' σ' l' rh' rs' => let ⟨a1, a2, a3, a4⟩ := key ρ' H' l' rh'; ⟨a1, k ρ' _ σ' a2 a3 (rs'.mono0 a4)⟩
  | bk s => exact fun ρ' H' σ' l' rh' rs' => let ⟨a1, a2, a3, a4⟩ := key ρ' H' l' rh'; ⟨a1, k ρ' _ σ' a2 a3 (rs'.mono0 a4)⟩
  | ct s => exact fun ρ' H' σ' l' rh' rs' => let ⟨a1, a2, a3, a4⟩ := key ρ' H' l' rh'; ⟨a1, k ρ' _ σ' a2 a3 (rs'.mono0 a4)⟩
  | rt w => exact fun ρ' H' v l' rh' rv => let ⟨a1, a2, a3, a4⟩ := key ρ' H' l' rh'; ⟨a1, k ρ' _ v a2 a3 (rv.mono0 a4)⟩
theorem re_lock (hb : RE X cm e be) : RE X cm e (lockE sel be) := by
  refine peM (pe_lock hb) fun σ H Q q => ?_
  obtain ⟨ρ, h, sw, f, h', rh, rs, e, k⟩ := q
  obtain ⟨p, kvs, h2, kvs2, ep, eo, e2, eo2, rfl⟩ := lockG_inv e
  have hl : p < ρ.length := by rw [rh.len]; exact (List.getElem?_eq_some_iff.mp eo).1
  have hp : ρ[p]? = some ρ[p] := List.getElem?_eq_getElem hl
  obtain ⟨kv, ea, ek, rl⟩ := rh.obj p _ _ eo hp
  refine ⟨ρ[p], _, ea, trivial, fun od => ?_⟩
  have lu : Le X.K ρ H ρ (upd H ρ[p] (.frz od (.dK kv))) := le_mut ea trivial
  refine ⟨ρ, _, sw, f, h2, RelH.set (o := .dF kvs) rh hp ea trivial ⟨od, kv, upd_same, ek, rl.mono lu⟩, rs.mono lu, e2, fun ρ' H' v l' rh' rv => ?_⟩
  have ed := l'.fz _ _ _ upd_same
  exact ⟨ed, k ρ' _ v (lock_le ea l') (unlock_rel rh' (pre_get l'.pre hp) ed eo2) (rv.mono0 (le_unlock ed))⟩
end
/-! ### walks over dicts, enumerate -/
def iDit (a : ME) : MI := fun sw => bnd (a sw) fun x h => match x with
  | .ref p => match h[p]? with
    | some (.dF kvs) => .ok (.dit p, kvs.length) h
    | _ => .no
  | _ => .no
def iDky (a : ME) : MI := fun sw => bnd (a sw) fun x h => match x with
  | .ref p => match h[p]? with
    | some (.dF kvs) => .ok (.dky p, kvs.length) h
    | _ => .no
  | _ => .no
def iDvl (a : ME) : MI := fun sw => bnd (a sw) fun x h => match x with
  | .ref p => match h[p]? with
    | some (.dF kvs) => .ok (.dvl p, kvs.length) h
    | _ => .no
  | _ => .no
def iEnu (a : ME) : MI := fun sw => bnd (a sw) fun x h => match x with
  | .ref p => match h[p]? with
    | some (.lst xs) => .ok (.enu p, xs.length) h
    | _ => .no
  | .rol xs => .ok (.enr xs, xs.length) h
  | .tup xs => .ok (.enuT xs, xs.length) h
  | _ => .no
section
variable {X : Cx} {cm : Cm} {a : Expr} {ma : ME} {pos apos cpos tpos : Pos} {elts : List Expr} {kk : Nat}
theorem dF_inv {x : W} {h h' : Hw} {g : Nat → Src} {src : Src × Nat} (e : (match x with
  | .ref p => match h[p]? with
    | some (.dF kvs) => EL.R.ok (g p, kvs.length) h
    | _ => EL.R.no
  | _ => EL.R.no) = .ok src h') : ∃ p kvs, x = .ref p ∧ h[p]? = some (.dF kvs) ∧ src.1 = g p ∧ h' = h := by
  split at e
  · split at e
    · cases e
      exact ⟨_, _, rfl, by assumption, rfl, rfl⟩
    · cases e
  · cases e
theorem ri_items (ha : RE X cm a ma) (hbase : attributeBase a "items" X.env (eval a X.env) = eval a X.env := by rfl) (hline : (apos.endLine == cpos.line) = true := by rfl) : RI X cm (.Tuple elts kk tpos) (.Call (.Attribute a "items" apos) [] [] cpos) (iDit ma) := by
  refine piM (pi_items ha hbase hline) fun σ H R q => ?_
  obtain ⟨ρ, h, sw, src, h', rh, rs, e, k⟩ := q
  obtain ⟨x, h1, e1, e2⟩ := bnd_ok e
  refine ⟨ρ, h, sw, x, h1, rh, rs, e1, fun ρ1 H1 x' l1 rh1 rx => ?_⟩
  obtain ⟨p, kvs, rfl, eo, es, rfl⟩ := dF_inv (g := Src.dit) e2
  cases rx with
  | ref hp =>
    obtain ⟨o, kv, ea, ek, rl⟩ := rh1.obj p _ _ eo hp
    exact ⟨_, o, kv, rfl, ea, k ρ1 H1 _ l1 rh1 (by rw [es]; exact ⟨_, o, kv, hp, ea, rfl⟩)⟩
theorem ri_values (ha : RE X cm a ma) {tg : Expr} (hbase : attributeBase a "values" X.env (eval a X.env) = eval a X.env := by rfl) (hline : (apos.endLine == cpos.line) = true := by rfl) : RI X cm tg (.Call (.Attribute a "values" apos) [] [] cpos) (iDvl ma) := by
  refine piM (pi_values ha hbase hline) fun σ H R q => ?_
  obtain ⟨ρ, h, sw, src, h', rh, rs, e, k⟩ := q
  obtain ⟨x, h1, e1, e2⟩ := bnd_ok e
  refine ⟨ρ, h, sw, x, h1, rh, rs, e1, fun ρ1 H1 x' l1 rh1 rx => ?_⟩
  obtain ⟨p, kvs, rfl, eo, es, rfl⟩ := dF_inv (g := Src.dvl) e2
  cases rx with
  | ref hp =>
    obtain ⟨o, kv, ea, ek, rl⟩ := rh1.obj p _ _ eo hp
    exact ⟨_, o, kv, rfl, ea, k ρ1 H1 _ l1 rh1 (by rw [es]; exact ⟨_, o, kv, hp, ea, rfl⟩)⟩
theorem ri_keys (ha : RE X cm a ma) {tg : Expr} : RI X cm tg a (iDky ma) := by
  refine piM (pi_keys ha) fun σ H R q => ?_
  obtain ⟨ρ, h, sw, src, h', rh, rs, e, k⟩ := q
  obtain ⟨x, h1, e1, e2⟩ := bnd_ok e
  refine ⟨ρ, h, sw, x, h1, rh, rs, e1, fun ρ1 H1 x' l1 rh1 rx => ?_⟩
  obtain ⟨p, kvs, rfl, eo, es, rfl⟩ := dF_inv (g := Src.dky) e2
  cases rx with
  | ref hp =>
    obtain ⟨o, kv, ea, ek, rl⟩ := rh1.obj p _ _ eo hp
    exact ⟨_, o, rfl, .inl ⟨kv, ea, k ρ1 H1 _ l1 rh1 (by rw [es]; exact ⟨_, o, kv, hp, ea, rfl⟩)⟩⟩
def iEnS (a : ME) : MI := fun sw => bnd (a sw) fun x h => match x with
  | .str y => .ok (.enuS y, y.cps.size) h
  | _ => .no
theorem ri_enumS {p : Pos} (hm : X.mg "enumerate" = none) (ha : RE X cm a ma) (hg : Gl X "enumerate" := by rfl) (hs : starEach [a] X.env = [(false, eval a X.env)] := by rfl) : RI X cm (.Tuple elts kk tpos) (.Call (.Name "enumerate" p) [a] [] pos) (iEnS ma) := by
  refine piM (pi_enumS hg hm (pa_cons ha pa_nil hs) hs) fun σ H R q => ?_
  obtain ⟨ρ, h, sw, src, h', rh, rs, e, k⟩ := q
  obtain ⟨x, h1, e1, e2⟩ := bnd_ok e
  refine ⟨ρ, h, sw, x, h1, rh, rs, e1, fun ρ1 H1 x' l1 rh1 rx => ?_⟩
  cases x with
  | str y =>
    cases rx
    cases e2
    exact ⟨y, rfl, k ρ1 H1 _ l1 rh1 rfl⟩
  | _ => cases e2
def iZip2 (a b : ME) : MI := fun sw => bnd (a sw) fun x => bnd (b sw) fun y h => match x, y with
  | .str z, .ref p => match h[p]? with
    | some (.lst ys) => .ok (.zSL z p, z.cps.size) h
    | _ => .no
  | _, _ => .no
theorem ri_zipSL {b : Expr} {mb : ME} {p pos : Pos} (hm : X.mg "zip" = none) (ha : RE X cm a ma) (hb : RE X cm b mb) (hg : Gl X "zip" := by rfl) (hs : starEach [a, b] X.env = (false, eval a X.env) :: starEach [b] X.env := by rfl) (hs2 : starEach [b] X.env = (false, eval b X.env) :: starEach [] X.env := by rfl) (hpl : (backTo pos (starEach [b] X.env)).any (·.1) = false := by rfl) :
    RI X cm (.Tuple elts kk tpos) (.Call (.Name "zip" p) [a, b] [] pos) (iZip2 ma mb) := by
  refine piM (pi_zipSL hg hm (pa_cons ha (pa_cons hb pa_nil hs2) hs) hs hpl) fun σ H R q => ?_
  obtain ⟨ρ, h, sw, src, h', rh, rs, e, k⟩ := q
  obtain ⟨x, h1, e1, e2⟩ := bnd_ok e
  obtain ⟨y, h2, e3, e4⟩ := bnd_ok e2
  refine ⟨ρ, h, sw, x, h1, rh, rs, e1, fun ρ1 H1 x' l1 rh1 rx => ?_⟩
  refine ⟨ρ1, h1, sw, y, h2, rh1, rs.mono l1, e3, fun ρ2 H2 y' l2 rh2 ry => ?_⟩
  split at e4
  · rename_i z p
    split at e4
    · rename_i ys hp
      cases e4
      cases rx
      cases ry with
      | @ref _ ad hq =>
      obtain ⟨vs, ea, rl⟩ := rh2.obj p _ _ hp hq
      exact ⟨z, ad, vs, rfl, .of ea, k ρ2 H2 _ (l1.trans l2) rh2 ⟨ad, hq, rfl⟩⟩
    · cases e4
  · cases e4
theorem ri_enum {p : Pos} (hm : X.mg "enumerate" = none) (ha : RE X cm a ma) (hg : Gl X "enumerate" := by rfl) (hs : starEach [a] X.env = [(false, eval a X.env)] := by rfl) : RI X cm (.Tuple elts kk tpos) (.Call (.Name "enumerate" p) [a] [] pos) (iEnu ma) := by
  refine piM (pi_enum2 hg hm (pa_cons ha pa_nil hs) hs) fun σ H R q => ?_
  obtain ⟨ρ, h, sw, src, h', rh, rs, e, k⟩ := q
  obtain ⟨x, h1, e1, e2⟩ := bnd_ok e
  refine ⟨ρ, h, sw, x, h1, rh, rs, e1, fun ρ1 H1 x' l1 rh1 rx => ?_⟩
  cases rx with
  | @ref p ad hp =>
    have e2' : (match h1[p]? with
      | some (.lst xs) => EL.R.ok (Src.enu p, xs.length) h1
      | _ => EL.R.no) = .ok src h' := e2
    split at e2'
    · rename_i xs eo
      cases e2'
      obtain ⟨vs, ea, rl⟩ := rh1.obj p _ _ eo hp
      exact ⟨_, rfl, .inl ⟨vs, .of ea, k ρ1 H1 _ l1 rh1 ⟨_, hp, rfl⟩⟩⟩
    · cases e2'
  | rol hq rl =>
    cases e2
    exact ⟨_, rfl, .inl ⟨_, hq.sq, k ρ1 H1 _ l1 rh1 ⟨_, _, hq, rl, rfl⟩⟩⟩
  | tup hq rl =>
    cases e2
    exact ⟨_, rfl, .inr ⟨_, hq, k ρ1 H1 _ l1 rh1 ⟨_, _, hq, rl, rfl⟩⟩⟩
  | _ => cases e2
end
/-! ### dict comprehensions -/
def putD (d y z : W) : M Unit := fun h => match dMut h d, keyW y with
  | some (p, kvs), some k => if kvs.length < lim then .ok () (h.set p (.dK (putKW kvs k z))) else .no
  | _, _ => .no
def dcGo (src : Src) (g : MG) (t : MT) (ek ev : ME) (vs : List Nat) (d : W) (sw : SW) : Nat → Nat → M Unit
  | _, 0 => bad
  | i, n + 1 => fun h => match src.item i h with
    | none => .no
    | some none => .ok () h
    | some (some x) => bnd (g x (wipeW sw vs)) (fun s => bnd (t s) fun b => if b = true then bnd (ek s) (fun y => bnd (ev s) fun z => bnd (putD d y z) fun _ => dcGo src g t ek ev vs d sw (i + 1) n) else dcGo src g t ek ev vs d sw (i + 1) n) h
def mDc (mi : MI) (g : MG) (t : MT) (ek ev : ME) (vs : List Nat) : ME := fun sw => bnd (mi sw) fun src => bnd (alloc (.dK [])) fun d => bnd (dcGo src.1 g t ek ev vs d sw 0 (src.2 + 1)) fun _ => rtn d
theorem putD_ok {K : PySem.W.Frag} {cm : Cm} {ρ : List Addr} {h h' : Hw} {H : Hp} {p : Nat} {D : Addr} {y z : W} {v u : V} {r : Unit} (rh : RelH K cm ρ h H) (hp : ρ[p]? = some D) (ry : Rel K ρ H y v) (rz : Rel K ρ H z u) (e : putD (.ref p) y z h = .ok r h') :
    ∃ kv k, v = kV k ∧ H D = some (.dK kv) ∧ kv.length < sizeLine ∧ RelH K cm ρ h' (upd H D (.dK (putK kv k u))) ∧ Le K ρ H ρ (upd H D (.dK (putK kv k u))) := by
  unfold putD at e
  split at e
  · rename_i p' kvs kk hd hk
    obtain ⟨ad, kv, ex, hp', ev, ea, rk⟩ := dMut_of rh (.ref hp) hd
    cases ex
    cases ev
    have ek := keyW_of ry hk
    subst ek
    split at e
    · rename_i hl
      cases e
      have lu : Le K ρ H ρ (upd H D (.dK (putK kv kk u))) := le_mut ea trivial
      exact ⟨kv, kk, rfl, ea, by rw [← rk.length, ← lim_eq]; exact hl, rh.set hp ea trivial (relO_dK ((rk.put kk rz).mono lu)), lu⟩
    · cases e
  · cases e
section
variable {X : Cx} {cm : Cm} {kx vx tg it : Expr} {scope : Scope} {pos : Pos} {mi : MI} {g : MG} {t : MT} {mk mv : ME}
theorem dc_tE {σ : St} {H : Hp} {Q : VK} {vs : List Nat} {G : TG} {T : TT} {E1 E2 : TE} (q : tE X.K cm (mDc mi g t mk mv vs) σ H Q)
    (hG : ∀ v σ H Q, tG X.K cm vs g v σ H Q → G v σ H Q) (hT : ∀ σ H Q, tT X.K cm t σ H Q → T σ H Q) (hE1 : ∀ σ H Q, tE X.K cm mk σ H Q → E1 σ H Q) (hE2 : ∀ σ H Q, tE X.K cm mv σ H Q → E2 σ H Q) : tDc (tI X.K cm mi) G T E1 E2 vs σ H Q := by
  obtain ⟨ρ, h, sw, w, h', rh, rs, e, k⟩ := q
  obtain ⟨src, h1, e1, e2⟩ := bnd_ok e
  obtain ⟨d, h2, e3, e4⟩ := bnd_ok e2
  obtain ⟨u, h3, e5, e6⟩ := bnd_ok e4
  cases e6
  cases e3
  refine ⟨ρ, h, sw, src, h1, rh, rs, e1, fun ρ1 H1 J l1 rh1 rj => ?_⟩
  intro D hD
  have l2 : Le X.K ρ1 H1 (ρ1 ++ [D]) (upd H1 D (.dK [])) := (le_new hD).trans (le_app D)
  have rh2 : RelH X.K cm (ρ1 ++ [D]) (h1 ++ [.dK []]) (upd H1 D (.dK [])) := rh1.push hD ⟨[], upd_same, rfl, .nil⟩
  refine ⟨fun i n H3 => ∃ ρ3 h3, Le X.K ρ H ρ3 H3 ∧ Le X.K (ρ1 ++ [D]) (upd H1 D (.dK [])) ρ3 H3 ∧ RelH X.K cm ρ3 h3 H3 ∧ SrcR X.K ρ3 H3 src.1 J ∧ dcGo src.1 g t mk mv vs (.ref h1.length) sw i n h3 = .ok u h', ⟨_, ρ1 ++ [D], _, l1.trans l2, .refl, rh2, rj.mono l2, e5⟩, fun i n H3 w => ?_⟩
  obtain ⟨ρ3, h3, l3, m3, rh3, rj3, e7⟩ := w
  have hp : ρ3[h1.length]? = some D := pre_get m3.pre (push_at rh1)
  cases n with
  | zero => cases e7
  | succ n =>
    have e7' : (match src.1.item i h3 with
      | none => (EL.R.no : EL.R Unit)
      | some none => .ok () h3
      | some (some x) => bnd (g x (wipeW sw vs)) (fun s => bnd (t s) fun b => if b = true then bnd (mk s) (fun y => bnd (mv s) fun z => bnd (putD (.ref h1.length) y z) fun _ => dcGo src.1 g t mk mv vs (.ref h1.length) sw (i + 1) n) else dcGo src.1 g t mk mv vs (.ref h1.length) sw (i + 1) n) h3) = .ok u h' := e7
    split at e7'
    · cases e7'
    · rename_i he
      cases e7'
      exact .inl ⟨src_stop rh3 rj3 he, k ρ3 H3 _ l3 rh3 (.ref hp)⟩
    · rename_i x he
      obtain ⟨s2, h4, e8, e9⟩ := bnd_ok e7'
      obtain ⟨b, h5, e10, e11⟩ := bnd_ok e9
      obtain ⟨go, yl⟩ := src_go rh3 rj3 he
      refine .inr ⟨go, fun H6 => ∃ ρ6 h6, Le X.K ρ H ρ6 H6 ∧ Le X.K (ρ1 ++ [D]) (upd H1 D (.dK [])) ρ6 H6 ∧ RelH X.K cm ρ6 h6 H6 ∧ SrcR X.K ρ6 H6 src.1 J ∧ dcGo src.1 g t mk mv vs (.ref h1.length) sw (i + 1) n h6 = .ok u h', fun H6 z => ⟨n, Nat.lt_succ_self n, z⟩, fun v H6 y => ?_⟩
      obtain ⟨ly, rhy, rv⟩ := yl v H6 y
      have l3 := l3.trans ly
      have m3 := m3.trans ly
      have rj3 := rj3.mono ly
      refine hG _ _ _ _ ⟨ρ3, h3, _, x, s2, h4, rhy, relS_wipe (rs.mono l3) vs, rv, e8, fun ρ4 H4 σ4 b4 l4 rh4 rs4 => ⟨wipe_ext b4, ?_⟩⟩
      refine hT _ _ _ ⟨ρ4, h4, s2, b, h5, rh4, rs4, e10, fun ρ5 H5 l5 rh5 => ?_⟩
      have l45 := l4.trans l5
      cases b with
      | false => exact iteF ⟨ρ5, h5, l3.trans l45, m3.trans l45, rh5, rj3.mono l45, e11⟩
      | true =>
        obtain ⟨yw, h6, e12, e13⟩ := bnd_ok e11
        obtain ⟨zw, h7, e14, e15⟩ := bnd_ok e13
        obtain ⟨u2, h8, e16, e17⟩ := bnd_ok e15
        refine iteT (hE1 _ _ _ ⟨ρ5, h5, s2, yw, h6, rh5, rs4.mono l5, e12, fun ρ6 H6 v6 l6 rh6 rv6 => ?_⟩)
        refine hE2 _ _ _ ⟨ρ6, h6, s2, zw, h7, rh6, rs4.mono (l5.trans l6), e14, fun ρ7 H7 v7 l7 rh7 rv7 => ?_⟩
        have l47 := (l45.trans l6).trans l7
        obtain ⟨kv, kk, ev, ea, hl, rh8, l8⟩ := putD_ok rh7 (pre_get l47.pre hp) (rv6.mono l7) rv7 e16
        have l48 := l47.trans l8
        exact ⟨kv, kk, ev, ea, hl, ρ7, h8, l3.trans l48, m3.trans l48, rh8, rj3.mono l48, e17⟩
theorem re_dc (own : List (Str × Nat)) (hc : X.calm = true) (hN : X.N.Nodup) (hi : RI X cm tg it mi) {N0 : List Str} {sc0 : Scope} (ok : blkC N0 sc0 scope own = true)
    (hg : ∀ (s : Shared) (H : Hp) (C : Addr) (cl : List (Str × Addr)) (fp : List Addr), RG (X.blk s H scope (compEnvC scope cl C X.env) fp) cm (own.map (·.2)) tg g)
    (hk : ∀ (s : Shared) (H : Hp) (C : Addr) (cl : List (Str × Addr)) (fp : List Addr), RE (X.blk s H scope (compEnvC scope cl C X.env) fp) cm kx mk)
    (hv : ∀ (s : Shared) (H : Hp) (C : Addr) (cl : List (Str × Addr)) (fp : List Addr), RE (X.blk s H scope (compEnvC scope cl C X.env) fp) cm vx mv) (hs : ∀ x, foldedSetIterable it X.env x = pure x := by intro _; rfl) (eN : N0 = X.N := by rfl) (eS : sc0 = X.env.scope := by rfl) :
    RE X cm (.DictComp kx vx [⟨tg, it, [], 0⟩] scope pos) (mDc mi g tYs mk mv (own.map (·.2))) :=
  peM (pe_dc (own := own) hc hN hi (by rw [← eN, ← eS]; exact blkOk_by ok) hg (fun _ _ _ _ _ => pts_nil) hk hv hs) fun σ H Q q => dc_tE q (fun _ _ _ _ z => z) (fun _ _ _ z => by
    obtain ⟨ρ, h, sw, b, h', rh, rs, e, k⟩ := z
    cases e
    exact k ρ _ .refl rh) (fun _ _ _ z => z) (fun _ _ _ z => z)
theorem re_dc1 {c : Expr} (own : List (Str × Nat)) (hc : X.calm = true) (hN : X.N.Nodup) (hi : RI X cm tg it mi) {N0 : List Str} {sc0 : Scope} (ok : blkC N0 sc0 scope own = true)
    (hg : ∀ (s : Shared) (H : Hp) (C : Addr) (cl : List (Str × Addr)) (fp : List Addr), RG (X.blk s H scope (compEnvC scope cl C X.env) fp) cm (own.map (·.2)) tg g)
    (ht : ∀ (s : Shared) (H : Hp) (C : Addr) (cl : List (Str × Addr)) (fp : List Addr), RT (X.blk s H scope (compEnvC scope cl C X.env) fp) cm c t)
    (hk : ∀ (s : Shared) (H : Hp) (C : Addr) (cl : List (Str × Addr)) (fp : List Addr), RE (X.blk s H scope (compEnvC scope cl C X.env) fp) cm kx mk)
    (hv : ∀ (s : Shared) (H : Hp) (C : Addr) (cl : List (Str × Addr)) (fp : List Addr), RE (X.blk s H scope (compEnvC scope cl C X.env) fp) cm vx mv) (hs : ∀ x, foldedSetIterable it X.env x = pure x := by intro _; rfl) (eN : N0 = X.N := by rfl) (eS : sc0 = X.env.scope := by rfl) :
    RE X cm (.DictComp kx vx [⟨tg, it, [c], 0⟩] scope pos) (mDc mi g t mk mv (own.map (·.2))) :=
  peM (pe_dc (own := own) hc hN hi (by rw [← eN, ← eS]; exact blkOk_by ok) hg (fun _ _ _ _ _ => pts_one (ht _ _ _ _ _)) hk hv hs) fun σ H Q q => dc_tE q (fun _ _ _ _ z => z) (fun _ _ _ z => z) (fun _ _ _ z => z) (fun _ _ _ z => z)
end
end EL
namespace EL
open PySem PySem.Spec L2
open PyProof.Rows hiding St

/-! ### texts in order -/
def leS (a b : Str) : Bool := !ltCps b.cps.toList a.cps.toList
def insS (x : Str) : List Str → List Str
  | [] => [x]
  | y :: r => if leS x y = true then x :: y :: r else y :: insS x r
def sortS : List Str → List Str
  | [] => []
  | x :: r => insS x (sortS r)
theorem insS_perm (x : Str) : ∀ xs : List Str, (insS x xs).Perm (x :: xs)
  | [] => .refl _
  | y :: r => by
    unfold insS
    split
    · exact .refl _
    · exact ((insS_perm x r).cons y).trans (.swap x y r)
theorem sortS_perm : ∀ xs : List Str, (sortS xs).Perm xs
  | [] => .refl _
  | x :: r => (insS_perm x (sortS r)).trans ((sortS_perm r).cons x)
theorem leS_iff {a b : Str} : leS a b = true ↔ a.cps.toList ≤ b.cps.toList := by
  unfold leS
  rw [ltCps_eq]
  simp [List.not_lt]
theorem leS_trans (a b c : Str) (h : leS a b = true) (h' : leS b c = true) : leS a c = true := leS_iff.mpr (List.le_trans (leS_iff.mp h) (leS_iff.mp h'))
theorem leS_total (a b : Str) : (leS a b || leS b a) = true := by
  rw [Bool.or_eq_true, leS_iff, leS_iff]
  exact List.le_total _ _
theorem leS_anti {a b : Str} (h : leS a b = true) (h' : leS b a = true) : a = b := by
  have e := List.le_antisymm (leS_iff.mp h) (leS_iff.mp h')
  cases a with
  | mk x => cases b with
    | mk y =>
      have e' : x = y := Array.toList_inj.mp e
      rw [e']
theorem rising_pw : ∀ (xs : List Str) (p : Str), risingS p xs = true → (∀ x ∈ xs, leS p x = true) ∧ xs.Pairwise (fun a b => leS a b = true)
  | [], _, _ => ⟨(fun _ h => by cases h), List.Pairwise.nil⟩
  | x :: r, p, h => by
    have h' : (!ltCps x.cps.toList p.cps.toList && risingS x r) = true := h
    rw [Bool.and_eq_true] at h'
    obtain ⟨h1, h2⟩ := rising_pw r x h'.2
    have hx : leS p x = true := h'.1
    refine ⟨fun y hy => ?_, List.pairwise_cons.mpr ⟨h1, h2⟩⟩
    rcases List.mem_cons.mp hy with e | e
    · rw [e]; exact hx
    · exact leS_trans _ _ _ hx (h1 y e)
theorem sorted_pw {xs : List Str} (h : sortedS xs = true) : xs.Pairwise (fun a b => leS a b = true) := by
  cases xs with
  | nil => exact List.Pairwise.nil
  | cons x r =>
    obtain ⟨h1, h2⟩ := rising_pw r x h
    exact List.pairwise_cons.mpr ⟨h1, h2⟩
theorem insS_pw (x : Str) : ∀ xs : List Str, xs.Pairwise (fun a b => leS a b = true) → (insS x xs).Pairwise (fun a b => leS a b = true)
  | [], _ => by
    unfold insS
    exact List.pairwise_singleton _ _
  | y :: r, h => by
    unfold insS
    have hy := List.pairwise_cons.mp h
    split
    · rename_i hx
      exact List.pairwise_cons.mpr ⟨fun z hz => (List.mem_cons.mp hz).elim (fun e => e ▸ hx) fun e => leS_trans _ _ _ hx (hy.1 z e), h⟩
    · rename_i hx
      have hx' : leS y x = true := by
        have q := leS_total x y
        rw [Bool.or_eq_true] at q
        exact q.resolve_left hx
      exact List.pairwise_cons.mpr ⟨fun z hz => (List.mem_cons.mp ((insS_perm x r).mem_iff.mp hz)).elim (fun e => e ▸ hx') (hy.1 z), insS_pw x r hy.2⟩
theorem sortS_pw : ∀ xs : List Str, (sortS xs).Pairwise (fun a b => leS a b = true)
  | [] => .nil
  | x :: r => insS_pw x _ (sortS_pw r)
theorem sort_eq {xs ys : List Str} (p : ys.Perm xs) (h : sortedS ys = true) : ys = sortS xs :=
  List.Perm.eq_of_pairwise (fun a b _ _ h1 h2 => leS_anti h1 h2) (sorted_pw h) (sortS_pw xs) (p.trans (sortS_perm xs).symm)
theorem sort_uniq {xs ys : List Str} (p : xs.Perm ys) : sortS xs = sortS ys :=
  List.Perm.eq_of_pairwise (fun a b _ _ h1 h2 => leS_anti h1 h2) (sortS_pw xs) (sortS_pw ys) ((sortS_perm xs).trans (p.trans (sortS_perm ys).symm))
/-! ### built-ins -/
def bSortS : List W → M W
  | [x] => fun h => match items h x with
    | some xs => (match wStrs xs with
      | some ys => if ys.length < 64 then alloc (.lst ((sortS ys).map W.str)) h else .no
      | none => .no)
    | none => .no
  | _ => bad
def tupOf : W → Option (List W)
  | .tup xs => some xs
  | _ => none
def bList1 : List W → M W
  | [x] => fun h => match items h x with
    | some xs => alloc (.lst xs) h
    | none => (match tupOf x with
      | some xs => alloc (.lst xs) h
      | none => .no)
  | _ => bad
def bTup1 : List W → M W
  | [x] => fun h => match items h x with
    | some xs => .ok (.tup xs) h
    | none => (match tupOf x with
      | some xs => .ok (.tup xs) h
      | none => .no)
  | _ => bad
def bStr1 : List W → M W
  | [.str x] => rtn (.str x)
  | _ => bad
def pairW : W → Option (Key × W)
  | .tup [k, v] => (keyW k).map fun k => (k, v)
  | _ => none
def bDict : List W → M W
  | [x] => fun h => match items h x with
    | some xs => (match mapO pairW xs with
      | some kvs => alloc (.dK (mergeKW [] kvs)) h
      | none => .no)
    | none => .no
  | _ => bad
section
variable {K : PySem.W.Frag} {cm : Cm} {ρ : List Addr} {h h' : Hw} {H : Hp}
theorem tupOf_of {x : W} {v : V} {xs : List W} (r : Rel K ρ H x v) (e : tupOf x = some xs) : ∃ a vs, v = .ref a ∧ SqT K H a vs ∧ Rels K ρ H xs vs := by
  cases r with
  | tup hq rl => cases e; exact ⟨_, _, rfl, hq, rl⟩
  | _ => cases e
theorem Rels.strs : ∀ (ns : List Str), Rels K ρ H (ns.map W.str) (ns.map V.str)
  | [] => .nil
  | n :: r => .cons (.str n) (Rels.strs r)
theorem pairs_of' : ∀ {xs : List W} {vs : List V} {kvs : List (Key × W)}, Rels K ρ H xs vs → mapO pairW xs = some kvs → ∃ ps kv, vs = ps.map V.ref ∧ Paired (fun p (q : Key × V) => SqT K H p [kV q.1, q.2]) ps kv ∧ KVs K ρ H kvs kv
  | _, _, _, .nil, e => by cases e; exact ⟨[], [], rfl, .nil, .nil⟩
  | x :: xs, v :: vs, kvs, .cons r t, e => by
    unfold mapO at e
    split at e
    · rename_i y ys e1 e2
      cases e
      obtain ⟨ps, kv, rfl, hp, hk⟩ := pairs_of' t e2
      cases r with
      | @tup ws us a hq r1 =>
        cases r1 with
        | nil => cases e1
        | cons ra ta =>
          cases ta with
          | nil => cases e1
          | cons rb tb =>
            cases tb with
            | cons _ _ => cases e1
            | nil =>
              rename_i w1 v1 w2 v2
              have e1' : (keyW w1).map (fun k => (k, w2)) = some y := e1
              cases q : keyW w1 with
              | none => rw [q] at e1'; cases e1'
              | some k =>
                rw [q] at e1'
                cases e1'
                have ek := keyW_of ra q
                subst ek
                exact ⟨a :: ps, (k, v2) :: kv, rfl, .cons hq hp, .cons rb hk⟩
      | _ => cases e1
    · cases e
theorem one' {ws : List W} {vs : List V} {f : W → M W} {g : List W → M W} {z : W} (r : Rels K ρ H ws vs) (hg : ∀ x, g [x] = f x) (hb : ∀ ws, (∀ x, ws ≠ [x]) → g ws = bad) (e : g ws h = .ok z h') : ∃ x v, ws = [x] ∧ vs = [v] ∧ Rel K ρ H x v ∧ f x h = .ok z h' := by
  cases r with
  | nil => rw [hb [] (fun x q => by cases q)] at e; cases e
  | cons r t =>
    cases t with
    | cons _ _ => rw [hb _ (fun x q => by cases q)] at e; cases e
    | nil =>
      rw [hg] at e
      exact ⟨_, _, rfl, rfl, r, e⟩
end
section
variable {X : Cx} {cm : Cm}
theorem wSortS : CallW X.K cm (rSortedS X.K) bSortS := by
  intro ρ h H ws vs z h' Q rh r e k
  obtain ⟨x, v, rfl, rfl, rx, e'⟩ := one' r (f := fun x => bSortS [x]) (fun _ => rfl) (fun ws hw => by cases ws with
    | nil => rfl
    | cons a t => cases t with
      | nil => exact absurd rfl (hw a)
      | cons _ _ => rfl) e
  have e2 : (match items h x with
    | some xs => (match wStrs xs with
      | some ys => if ys.length < 64 then alloc (.lst ((sortS ys).map W.str)) h else EL.R.no
      | none => EL.R.no)
    | none => EL.R.no) = .ok z h' := e'
  split at e2
  · rename_i xs hi
    split at e2
    · rename_i ys hy
      split at e2
      · rename_i hl
        cases e2
        obtain ⟨a, us, rfl, hq, rl⟩ := items_of rh rx hi
        have q := wStrs_of hy
        subst q
        rw [Rels.of_strs rl] at hq
        refine ⟨a, ys, rfl, hq, hl, fun zs p hp hs hn => ?_⟩
        rw [sort_eq hp hs]
        exact new_lst rh (Rels.strs _) hn k
      · cases e2
    · cases e2
  · cases e2
theorem wList1 : CallW X.K cm (fun xs H Q => ∃ p ys, xs = [.ref p] ∧ (SqL X.K H p ys ∨ SqT X.K H p ys) ∧ ∀ l, H l = none → Q (.ref l) (upd H l (.lst ys))) bList1 := by
  intro ρ h H ws vs z h' Q rh r e k
  obtain ⟨x, v, rfl, rfl, rx, e'⟩ := one' r (f := fun x => bList1 [x]) (fun _ => rfl) (fun ws hw => by cases ws with
    | nil => rfl
    | cons a t => cases t with
      | nil => exact absurd rfl (hw a)
      | cons _ _ => rfl) e
  have e2 : (match items h x with
    | some xs => alloc (.lst xs) h
    | none => (match tupOf x with
      | some xs => alloc (.lst xs) h
      | none => EL.R.no)) = .ok z h' := e'
  split at e2
  · rename_i xs hi
    cases e2
    obtain ⟨a, us, rfl, hq, rl⟩ := items_of rh rx hi
    exact ⟨a, us, rfl, .inl hq, fun l hl => new_lst rh rl hl k⟩
  · split at e2
    · rename_i xs ht
      cases e2
      obtain ⟨a, us, rfl, hq, rl⟩ := tupOf_of rx ht
      exact ⟨a, us, rfl, .inr hq, fun l hl => new_lst rh rl hl k⟩
    · cases e2
theorem wTup1 : CallW X.K cm (fun xs H Q => ∃ p ys, xs = [.ref p] ∧ ((SqL X.K H p ys ∧ ∀ l, H l = none → Q (.ref l) (upd H l (.tup ys))) ∨ (SqT X.K H p ys ∧ Q (.ref p) H))) bTup1 := by
  intro ρ h H ws vs z h' Q rh r e k
  obtain ⟨x, v, rfl, rfl, rx, e'⟩ := one' r (f := fun x => bTup1 [x]) (fun _ => rfl) (fun ws hw => by cases ws with
    | nil => rfl
    | cons a t => cases t with
      | nil => exact absurd rfl (hw a)
      | cons _ _ => rfl) e
  have e2 : (match items h x with
    | some xs => EL.R.ok (W.tup xs) h
    | none => (match tupOf x with
      | some xs => EL.R.ok (W.tup xs) h
      | none => EL.R.no)) = .ok z h' := e'
  split at e2
  · rename_i xs hi
    cases e2
    obtain ⟨a, us, rfl, hq, rl⟩ := items_of rh rx hi
    exact ⟨a, us, rfl, .inl ⟨hq, fun l hl => new_tup rh rl hl k⟩⟩
  · split at e2
    · rename_i xs ht
      cases e2
      obtain ⟨a, us, rfl, hq, rl⟩ := tupOf_of rx ht
      exact ⟨a, us, rfl, .inr ⟨hq, k.at rh (.tup hq rl)⟩⟩
    · cases e2
theorem wStr1 : CallW X.K cm (fun xs H Q => ∃ a, xs = [.str a] ∧ Q (.str a) H) bStr1 := by
  intro ρ h H ws vs z h' Q rh r e k
  cases r with
  | nil => cases e
  | cons r t =>
    cases t with
    | cons _ _ => cases r <;> cases e
    | nil =>
      cases r with
      | str x => cases e; exact ⟨x, rfl, k.at rh (.str x)⟩
      | _ => cases e
theorem wDict : CallW X.K cm (fun xs H Q => ∃ (a : Addr) (ps : List Addr) (kvs : List (Key × V)), xs = [.ref a] ∧ SqL X.K H a (ps.map V.ref) ∧ Paired (fun p kv => SqT X.K H p [kV kv.1, kv.2]) ps kvs ∧
    ∀ p, H p = none → Q (.ref p) (upd H p (.dK (mergeK [] kvs)))) bDict := by
  intro ρ h H ws vs z h' Q rh r e k
  obtain ⟨x, v, rfl, rfl, rx, e'⟩ := one' r (f := fun x => bDict [x]) (fun _ => rfl) (fun ws hw => by cases ws with
    | nil => rfl
    | cons a t => cases t with
      | nil => exact absurd rfl (hw a)
      | cons _ _ => rfl) e
  have e2 : (match items h x with
    | some xs => (match mapO pairW xs with
      | some kvs => alloc (.dK (mergeKW [] kvs)) h
      | none => EL.R.no)
    | none => EL.R.no) = .ok z h' := e'
  split at e2
  · rename_i xs hi
    split at e2
    · rename_i kvs hk
      cases e2
      obtain ⟨a, us, rfl, hq, rl⟩ := items_of rh rx hi
      obtain ⟨ps, kv, rfl, hp, rk⟩ := pairs_of' rl hk
      refine ⟨a, ps, kv, rfl, hq, hp, fun p hn => ?_⟩
      have l := (le_new (K := X.K) (ρ := ρ) (o := .dK (mergeK [] kv)) hn).trans (le_app p)
      exact k (ρ ++ [p]) _ _ l (rh.push hn (relO_dK (KVs.merge (rk.mono l) .nil))) (.ref (push_at rh))
    · cases e2
  · cases e2
end
/-- {k: v} -/
def mDisp1 (mk mv : ME) : ME := fun sw => bnd (alloc (.dK [])) fun d => bnd (mk sw) fun y => bnd (mv sw) fun z h => match dMut h d, keyW y with
  | some (p, []), some k => .ok d (h.set p (.dK (mergeKW [] [(k, z)])))
  | _, _ => .no
section
variable {X : Cx} {cm : Cm}
theorem re_disp1 {k v : Expr} {mk mv : ME} {pos : Pos} (hk : RE X cm k mk) (hv : RE X cm v mv) : RE X cm (.Dict [some k] [v] pos) (mDisp1 mk mv) := by
  refine peM (pe_disp (pps_cons hk hv pps_nil) (by rfl) (by rfl) (fun z => by cases z) (by show 1 ≤ 15; decide)) fun σ H Q q => ?_
  obtain ⟨ρ, h, sw, w, h', rh, rs, e, kq⟩ := q
  obtain ⟨d, h1, e1, e2⟩ := bnd_ok e
  obtain ⟨y, h2, e3, e4⟩ := bnd_ok e2
  obtain ⟨z, h3, e5, e6⟩ := bnd_ok e4
  cases e1
  intro p hp
  have l1 : Le X.K ρ H (ρ ++ [p]) (upd H p (.dK [])) := (le_new hp).trans (le_app p)
  have rh1 : RelH X.K cm (ρ ++ [p]) (h ++ [.dK []]) (upd H p (.dK [])) := rh.push hp ⟨[], upd_same, rfl, .nil⟩
  refine ⟨ρ ++ [p], _, sw, y, h2, rh1, rs.mono l1, e3, fun ρ2 H2 y' l2 rh2 ry => ?_⟩
  refine ⟨ρ2, h2, sw, z, h3, rh2, rs.mono (l1.trans l2), e5, fun ρ3 H3 z' l3 rh3 rz => ?_⟩
  have hpp : ρ3[h.length]? = some p := pre_get l3.pre (pre_get l2.pre (push_at rh))
  split at e6
  · rename_i p' kk hd hkk
    obtain ⟨ad, kv, ex, hp', ev, ea, rk⟩ := dMut_of rh3 (.ref hpp) hd
    cases ex
    cases ev
    cases rk
    have ek := keyW_of ry hkk
    subst ek
    cases e6
    refine ⟨ea, [(kk, z')], rfl, (by show 1 ≤ 15; decide), ?_⟩
    have lu : Le X.K ρ3 H3 ρ3 (upd H3 p (.dK (mergeK [] [(kk, z')]))) := le_mut ea trivial
    refine kq ρ3 _ _ (l1.trans (l2.trans (l3.trans lu))) (rh3.set hpp ea trivial (relO_dK (KVs.merge (.cons (rz.mono lu) .nil) .nil))) (.ref hpp)
  · cases e6
end
/-! ### dicts compared -/
def flV : W → Option V
  | .non => some .non
  | .bl b => some (.bl b)
  | .int i => some (.int i)
  | .str x => some (.str x)
  | _ => none
def flKV (kvs : List (Key × W)) : Option (List (Key × V)) := mapO (fun kv => (flV kv.2).map fun v => (kv.1, v)) kvs
def keqV (kb ka : List (Key × V)) : Bool := ka.all fun kv => match valV kb kv.1 with
  | some y => eqV kv.2 y
  | none => false
def fDeq (neg : Bool) : W → W → M W := fun x y h => match dOf h x, dOf h y with
  | some ka, some kb => (match flKV ka, flKV kb with
    | some va, some vb => .ok (.bl (neg != (va.length == vb.length && keqV vb va))) h
    | _, _ => .no)
  | _, _ => .no
theorem flV_of {K : PySem.W.Frag} {ρ : List Addr} {H : Hp} {w : W} {v u : V} (r : Rel K ρ H w v) (e : flV w = some u) : v = u ∧ flatV u = true := by
  cases r <;> cases e <;> exact ⟨rfl, rfl⟩
theorem flKV_of {K : PySem.W.Frag} {ρ : List Addr} {H : Hp} : ∀ {kvs : List (Key × W)} {kv us : List (Key × V)}, KVs K ρ H kvs kv → flKV kvs = some us → kv = us ∧ ∀ p ∈ us, flatV p.2 = true
  | _, _, _, .nil, e => by cases e; exact ⟨rfl, (fun p h => by cases h)⟩
  | (k, w) :: ws, (_, v) :: vs, us, .cons r t, e => by
    unfold flKV mapO at e
    split at e
    · rename_i y ys e1 e2
      cases e
      cases q : flV w with
      | none => rw [q] at e1; cases e1
      | some u =>
        rw [q] at e1
        cases e1
        obtain ⟨h1, h2⟩ := flV_of r q
        subst h1
        obtain ⟨h3, h4⟩ := flKV_of t e2
        subst h3
        exact ⟨rfl, fun p hp => (List.mem_cons.mp hp).elim (fun z => by rw [z]; exact h2) (h4 p)⟩
    · cases e
theorem hits_of {A : Around} {s : Shared} {kb : List (Key × V)} {vb : List (Key × Value)} (rb : KV kb vb) (fb : ∀ p ∈ kb, flatV p.2 = true) : ∀ {ka : List (Key × V)} {va : List (Key × Value)}, KV ka va → (∀ p ∈ ka, flatV p.2 = true) → PySem.W.KeqHits A s vb va (keqV kb ka)
  | _, _, .nil, _ => .nil
  | (k, x) :: ka, (_, u) :: va, .cons r t, fa => by
    obtain ⟨e, ru⟩ := r
    have e' : k = _ := e
    subst e'
    have q := rb.val k
    have ih := hits_of (A := A) (s := s) rb fb t fun p hp => fa p (List.mem_cons_of_mem _ hp)
    have step : keqV kb ((k, x) :: ka) = ((match valV kb k with
      | some y => eqV x y
      | none => false) && keqV kb ka) := rfl
    rw [step]
    cases h1 : valV kb k with
    | none =>
      rw [h1] at q
      exact .miss (RelO.none_of q)
    | some y =>
      rw [h1] at q
      obtain ⟨u', hu, ry⟩ := RelO.some_of q
      have fy : flatV y = true := by
        unfold valV at h1
        cases h2 : kb.find? fun kv => decide (kv.1 = k) with
        | none => rw [h2] at h1; cases h1
        | some p =>
          rw [h2] at h1
          cases h1
          exact fb p (List.mem_of_find?_eq_some h2)
      exact .hit hu (eqAt_V ru ry (fa _ List.mem_cons_self) fy) ih
def rDEq (neg : Bool) : R2 := fun x y H Q => ∃ a b ka kb, x = .ref a ∧ y = .ref b ∧ Rd H a (.dK ka) ∧ Rd H b (.dK kb) ∧ (∀ p ∈ ka, flatV p.2 = true) ∧ (∀ p ∈ kb, flatV p.2 = true) ∧ Q (.bl (neg != (ka.length == kb.length && keqV kb ka))) H
theorem op_dEq {X : Cx} (hu : X.A.units < cLine) : OpR X (compareOp .Eq) (rDEq false) := by
  intro pins s σ H x y v u Q I rx ry hq
  obtain ⟨a, b, ka, kb, rfl, rfl, ea, eb, fa, fb, q⟩ := hq
  cases (show v = Value.ref a from rx)
  cases (show u = Value.ref b from ry)
  obtain ⟨z1, d1, va, r1, D1⟩ := dk_rd I.hok ea
  obtain ⟨z2, d2, vb, r2, D2⟩ := dk_rd I.hok eb
  refine PySem.W.keq_eq d1 d2 D1 D2 hu (fun _ => hits_of r2 fb r1 fa) ?_
  rw [← r1.length, ← r2.length]
  exact ⟨.bl (ka.length == kb.length && keqV kb ka), H, I, rfl, by simpa using q⟩
theorem op_dNe {X : Cx} (hu : X.A.units < cLine) : OpR X (compareOp .NotEq) (rDEq true) := by
  intro pins s σ H x y v u Q I rx ry hq
  obtain ⟨a, b, ka, kb, rfl, rfl, ea, eb, fa, fb, q⟩ := hq
  cases (show v = Value.ref a from rx)
  cases (show u = Value.ref b from ry)
  obtain ⟨z1, d1, va, r1, D1⟩ := dk_rd I.hok ea
  obtain ⟨z2, d2, vb, r2, D2⟩ := dk_rd I.hok eb
  refine PySem.W.keq_ne d1 d2 D1 D2 hu (fun _ => hits_of r2 fb r1 fa) ?_
  rw [← r1.length, ← r2.length]
  exact ⟨.bl (!(ka.length == kb.length && keqV kb ka)), H, I, rfl, by simpa using q⟩
theorem wDEq {X : Cx} {cm : Cm} {neg : Bool} : OpW X.K cm (rDEq neg) (fDeq neg) := by
  intro ρ h H x y x' y' z h' Q rh rx ry e k
  unfold fDeq at e
  split at e
  · rename_i ka kb hx hy
    split at e
    · rename_i va vb ea eb
      cases e
      obtain ⟨p, a, kv, rfl, _, rfl, e1, rk⟩ := dOf_of rh rx hx
      obtain ⟨p2, b, kv2, rfl, _, rfl, e2, rk2⟩ := dOf_of rh ry hy
      obtain ⟨h1, f1⟩ := flKV_of rk ea
      obtain ⟨h2, f2⟩ := flKV_of rk2 eb
      subst h1 h2
      exact ⟨a, b, kv, kv2, rfl, rfl, e1, e2, f1, f2, k.at rh (.bl _)⟩
    · cases e
  · cases e
/-! ### isinstance of an own class -/
structure InsK (K : PySem.W.Frag) (C : Addr) : Prop where
  cl : Cls K C
  ha : PySem.W.findIn K (.ref C) "__class__" = some (some (.builtin "object.__class__"))
  hn : PySem.W.specialIn K (.builtin "object.__class__") "__get__" = some (some (.builtin "getset_descriptor.__get__"))
  htk : PySem.W.takesIn K (.builtin "object.__class__") = some true
  hm : PySem.W.mroIn K C (.type "object") = some true
/-- which class it is asked for; what each class and each built-in type answers -/
def mIsiC (tab : List (Str × Bool)) (tys : List String) (a : ME) : ME := fun sw => bnd (a sw) fun x h => match tab.find? fun q => insB h x q.1 with
  | some q => .ok (.bl q.2) h
  | none => if tyIn h x tys = true then .ok (.bl false) h else .no
theorem re_isiC {X : Cx} {cm : Cm} {C x : Str} {a : Expr} {ma : ME} {tab : List (Str × Bool)} {tys : List String} {p p2 pos : Pos} (hm : X.mg "isinstance" = none) (hC : X.mg x = some (.ref (cm C))) (ht : ∀ q ∈ tab, InsK X.K (cm q.1) ∧ PySem.W.kitOne X.K (.ref (cm q.1)) (.ref (cm C)) = some q.2)
    (hy : ∀ n ∈ tys, PySem.W.kitOne X.K (.type n) (.ref (cm C)) = some false) (ha : RE X cm a ma) (hg : Gl X "isinstance" := by rfl) (hg2 : Gl X x := by rfl) (hd : (x == ("__debug__" : Str)) = false := by decide)
    (hs1 : starEach (a :: [.Name x p2]) X.env = (false, eval a X.env) :: starEach [.Name x p2] X.env := by rfl) (hs2 : starEach (.Name x p2 :: []) X.env = (false, eval (.Name x p2) X.env) :: starEach [] X.env := by rfl) (hpl : (backTo pos (starEach [.Name x p2] X.env)).any (·.1) = false := by rfl) :
    RE X cm (.Call (.Name "isinstance" p) [a, .Name x p2] [] pos) (mIsiC tab tys ma) := by
  refine peM (pe_callB call_isi hg hm (by decide +kernel) (pa_cons ha (pa_cons (pe_glob (v := .ref (cm C)) hg2 hC rfl hd) pa_nil hs2) hs1) (by decide) (by decide) hs1 hpl) fun σ H Q q => ?_
  obtain ⟨ρ, h, sw, w, h', rh, rs, e, k⟩ := q
  obtain ⟨y, h1, e1, e2⟩ := bnd_ok e
  refine ⟨ρ, h, sw, y, h1, rh, rs, e1, fun ρ1 H1 v l1 rh1 rx => ?_⟩
  split at e2
  · rename_i q hq
    cases e2
    obtain ⟨hI, hk⟩ := ht q (List.mem_of_find?_eq_some hq)
    have hb : insB h' y q.1 = true := by simpa using List.find?_some hq
    obtain ⟨p', ad, dx, fv, rfl, rfl, _, ea⟩ := insB_of rh1 rx hb
    exact ⟨_, .ref (cm C), .ref (cm q.1), .ref (cm C), q.2, rfl, .own _, .base (.ins ea hI.cl hI.ha hI.hn hI.htk hI.hm), hk, k ρ1 H1 _ l1 rh1 (.bl _)⟩
  · split at e2
    · rename_i ht'
      cases e2
      unfold tyIn at ht'
      split at ht'
      · rename_i n hn
        exact ⟨v, .ref (cm C), .type n, .ref (cm C), false, rfl, .own _, tyX_of rh1 rx hn, hy n (by simpa using ht'), k ρ1 H1 _ l1 rh1 (.bl _)⟩
      · cases ht'
    · cases e2
end EL
namespace EL
open PySem PySem.Spec L2
open PyProof.Rows hiding St

/-! ### sets of texts, with what their table must bear to be walked -/
def keyT (e : Int × Value) : Str := match e.2 with
  | .str x _ => x
  | _ => Str.empty
def GoodT (P : Program) (w : World) (e : Int × Value) : Prop := ∃ x tk, e.2 = Value.str x tk ∧ e.1 = (strKind P w).hash x
structure TabT (P : Program) (w : World) (ob : Obj) (es : Array (Int × Value)) (ep : Nat) (tb : SetTable) (ks : List Str) : Prop where
  exs : ob.ExactSet
  dat : ob.data = .set es ep tb
  good : ∀ e ∈ es.toList, GoodT P w e
  perm : (es.toList.map keyT).Perm ks
  nd : ks.Nodup
  few : es.size < scanBound
  fit : tb.fits es.size = true
  ris : Ris tb.place.toList
  led : w.params.followText "set-order" = true ∨ tb.led = true
def SetS (P : Program) (w : World) (h : Heap) (a : Addr) (ks : List Str) : Prop := ∃ ob es ep tb, h.get? a = some ob ∧ TabT P w ob es ep tb ks
def addK (ks : List Str) (x : Str) : List Str := if x ∈ ks then ks else ks ++ [x]
section
variable {P : Program} {w : World} {A : Around} {E : Value → Shared → Prop} {s : Shared} {a : Addr} {ks : List Str}
theorem goodT_is {e : Int × Value} (g : GoodT P w e) (x : Str) : (strKind P w).is x e.2 = true ↔ keyT e = x := by
  obtain ⟨y, tk, h1, _⟩ := g
  unfold keyT
  rw [h1]
  show Value.isStrOf x (.str y tk) = true ↔ y = x
  constructor
  · intro z
    obtain ⟨t, q⟩ := Value.isStrOf_shape z
    cases q
    rfl
  · intro z
    subst z
    exact strKind_is P w y tk
theorem goodT_els {l : List (Int × Value)} (g : ∀ e ∈ l, GoodT P w e) : ElemsOf (strKind P w) l := fun e he => by
  obtain ⟨y, tk, h1, h2⟩ := g e he
  rw [h1]
  exact ⟨⟨y, strKind_is P w y tk, h2⟩, rfl⟩
theorem TabT.len {ob : Obj} {es : Array (Int × Value)} {ep : Nat} {tb : SetTable} (T : TabT P w ob es ep tb ks) : es.size = ks.length := by
  have q := T.perm.length_eq
  simpa using q
/-- the new entries are laid, and laid anew where the table is too full -/
theorem tailT {note : Bool → Sem Unit} (quiet : ∀ (b : Bool) (s₁ : Shared) (Q' : Unit → Shared → Prop), Q' () s₁ → wpAny (model P w) A (note b) Q' E s₁) {ob : Obj} {es es1 : Array (Int × Value)} {ep : Nat} {tb t2 : SetTable} {ks1 : List Str} (got : s.heap.get? a = some ob) (exs : ob.ExactSet) (dat : ob.data = .set es ep tb)
    (good : ∀ e ∈ es1.toList, GoodT P w e) (perm : (es1.toList.map keyT).Perm ks1) (nd : ks1.Nodup) (few : es1.size < scanBound) (fit : t2.fits es1.size = true) (ris : Ris t2.place.toList) (led : w.params.followText "set-order" = true ∨ t2.led = true) {gone : Bool} {R : Option Bool → Shared → Prop}
    (fin : ∀ h', Heap.SameBut a s.heap h' → SetS P w h' a ks1 → R (some true) { s with heap := h' }) :
    wpAny (model P w) A (storeSet a es1 t2 >>= fun _ => if (!gone && t2.tooFull) = true then (note (relayAll t2 es1 (SetTable.grown es1.size)).2.2 >>= fun _ => storeSet a (relayAll t2 es1 (SetTable.grown es1.size)).1 (relayAll t2 es1 (SetTable.grown es1.size)).2.1 >>= fun _ => pure (some true)) else pure (some true)) R E s := by
  apply wpAny_bind
  refine wpAny_storeSet_of got dat ?_ (fits_of_scanBound few)
  have put1 := store_at (es' := es1) (t' := t2) got dat
  have but1 := Heap.SameBut.update s.heap a (Obj.putSet es1 t2)
  cases full : (!gone && t2.tooFull) with
  | false => exact wpAny_pure (fin _ but1 ⟨_, es1, _, t2, put1, ⟨exs, rfl, good, perm, nd, few, fit, ris, led⟩⟩)
  | true =>
    rw [if_pos rfl]
    have q1 := relayAll_perm t2 es1 (SetTable.grown es1.size)
    have q2 := relayAll_fits t2 es1 (SetTable.grown es1.size)
    have q3 := relayAll_ris t2 es1 (SetTable.grown es1.size)
    have q4 := relayAll_led t2 es1 (SetTable.grown es1.size)
    generalize relayAll t2 es1 (SetTable.grown es1.size) = Z at q1 q2 q3 q4 ⊢
    obtain ⟨es2, t3, was⟩ := Z
    dsimp only at q1 q2 q3 q4 ⊢
    have same : es2.size = es1.size := by
      have := q1.length_eq
      simpa using this
    have few2 : es2.size < scanBound := same ▸ few
    apply wpAny_bind
    apply quiet
    apply wpAny_bind
    refine wpAny_storeSet_of put1 rfl ?_ (fits_of_scanBound few2)
    have put2 := store_at (es' := es2) (t' := t3) put1 rfl
    refine wpAny_pure (fin _ (but1.trans (Heap.SameBut.update _ a _)) ⟨_, es2, _, t3, put2, ⟨exs, rfl, fun e he => good e (q1.mem_iff.mp he), (q1.map keyT).trans perm, nd, few2, q2, q3, ?_⟩⟩)
    exact led.imp id fun z => q4.trans z
theorem addT {x : Str} {tk : Tok} {Q : Bool → Shared → Prop} (R : SetS P w s.heap a ks) (room : ks.length + 1 < scanBound) (fin : ∀ b h', Heap.SameBut a s.heap h' → SetS P w h' a (addK ks x) → Q b { s with heap := h' }) :
    wpAny (model P w) A (setAddHashed a (.str x tk) ((strKind P w).hash x)) Q E s := by
  obtain ⟨ob, es, ep, tb, got, T⟩ := R
  have isx : (strKind P w).is x (.str x tk) = true := strKind_is P w x tk
  have scx : (Value.str x tk).scannable = true := rfl
  have els := goodT_els T.good
  unfold setAddHashed setAddHashedIn
  apply wpAny_holding
  apply wpAny_bind
  refine wpAny_setState_of got T.dat T.fit ?_
  dsimp only
  rw [byScan_of scx T.few els]
  simp only [↓reduceIte]
  unfold setAddByScan
  apply wpAny_bind
  apply wpAny_bind
  apply wpAny_rule
  apply wpAny_bind
  refine wpAny_setScan_of isx got T.dat T.fit els ?_
  cases met : List.findIdx? (fun e => (strKind P w).is x e.2) es.toList with
  | some j =>
    dsimp only
    obtain ⟨hj, isj, _⟩ := List.findIdx?_eq_some_iff_getElem.mp met
    have old : x ∈ ks := T.perm.mem_iff.mp (List.mem_map.mpr ⟨_, List.getElem_mem hj, (goodT_is (T.good _ (List.getElem_mem hj)) x).mp isj⟩)
    have q := fin false s.heap (Heap.SameBut.refl a s.heap) ⟨ob, es, ep, tb, got, by unfold addK; rw [if_pos old]; exact T⟩
    exact wpAny_pure (wpAny_pure q)
  | none =>
    dsimp only
    have new : x ∉ ks := fun z => by
      obtain ⟨e, he, q⟩ := List.mem_map.mp (T.perm.mem_iff.mpr z)
      have c := List.findIdx?_eq_none_iff.mp met e he
      rw [(goodT_is (T.good e he) x).mpr q] at c
      cases c
    have still : ∀ (b : Bool) {s₁ : Shared} {Q' : Unit → Shared → Prop}, Q' () s₁ → wpAny (model P w) A (match b with
      | true => rule "set.scan.the-table-gave-way"
      | false => pure ()) Q' E s₁ := fun b s₁ Q' q => by
        cases b
        · exact wpAny_pure q
        · exact wpAny_rule q
    have q1 := layNew_perm tb es ((strKind P w).hash x) (.str x tk)
    have q2 := layNew_fits tb es ((strKind P w).hash x) (.str x tk)
    have q3 := layNew_ris tb es ((strKind P w).hash x) (.str x tk) T.ris
    have q4 := layNew_led tb es ((strKind P w).hash x) (.str x tk)
    generalize layNew tb es ((strKind P w).hash x) (.str x tk) = Z at q1 q2 q3 q4 ⊢
    obtain ⟨es1, t1, gone, gave⟩ := Z
    dsimp only at q1 q2 q3 q4 ⊢
    rw [Array.toList_push] at q1
    have good1 : ∀ e ∈ es1.toList, GoodT P w e := fun e he => by
      rcases List.mem_append.mp (q1.mem_iff.mp he) with z | z
      · exact T.good e z
      · rw [List.mem_singleton.mp z]
        exact ⟨x, tk, rfl, rfl⟩
    have perm1 : (es1.toList.map keyT).Perm (ks ++ [x]) := by
      have z := q1.map keyT
      rw [List.map_append] at z
      exact z.trans (T.perm.append_right _)
    have nd1 : (ks ++ [x]).Nodup := List.nodup_append.mpr ⟨T.nd, by simp, fun y hy z hz e => new (by rw [List.mem_singleton.mp hz] at e; exact e ▸ hy)⟩
    have few1 : es1.size < scanBound := by
      have z := q1.length_eq
      rw [List.length_append, Array.length_toList, Array.length_toList, T.len] at z
      simp at z
      omega
    have led1 : w.params.followText "set-order" = true ∨ t1.led = true := T.led.imp id fun z => q4.trans z
    have fin1 : ∀ h', Heap.SameBut a s.heap h' → SetS P w h' a (ks ++ [x]) → Q true { s with heap := h' } := fun h' sb r => fin true h' sb (by unfold addK; rw [if_neg new]; exact r)
    apply wpAny_bind
    apply still
    split
    · apply wpAny_bind
      rw [hashByValue_scannable 8 scx]
      apply wpAny_pure
      refine tailT ?_ got T.exs T.dat good1 perm1 nd1 few1 ?_ ?_ ?_ ?_
      · intro b s₁ Q' q
        cases b
        · exact wpAny_pure q
        · exact wpAny_rule q
      · split
        · exact q2
        · exact SetTable.fits_plain_off q2
      · split <;> exact q3
      · split <;> exact led1
      · intro h' sb r
        exact wpAny_pure (fin1 h' sb r)
    · apply wpAny_bind
      apply wpAny_pure
      simp only [↓reduceIte]
      refine tailT ?_ got T.exs T.dat good1 perm1 nd1 few1 q2 q3 led1 ?_
      · intro b s₁ Q' q
        cases b
        · exact wpAny_pure q
        · exact wpAny_rule q
      · intro h' sb r
        exact wpAny_pure (fin1 h' sb r)
end
end EL
namespace EL
open PySem PySem.Spec L2
open PyProof.Rows hiding St

/-! ### set(xs) of texts, and sorted of it -/
def dedK (xs : List Str) : List Str := xs.foldl addK []
theorem dedK_snoc (xs : List Str) (x : Str) : dedK (xs ++ [x]) = addK (dedK xs) x := by
  unfold dedK
  rw [List.foldl_append]
  rfl
theorem addK_mem {ks : List Str} {x y : Str} : y ∈ addK ks x ↔ y ∈ ks ∨ y = x := by
  unfold addK
  split
  · rename_i h
    exact ⟨.inl, fun z => z.elim id fun e => e ▸ h⟩
  · rw [List.mem_append, List.mem_singleton]
theorem addK_nd {ks : List Str} {x : Str} (h : ks.Nodup) : (addK ks x).Nodup := by
  unfold addK
  split
  · exact h
  · rename_i hn
    exact List.nodup_append.mpr ⟨h, by simp, fun y hy z hz e => hn (by rw [List.mem_singleton.mp hz] at e; exact e ▸ hy)⟩
theorem dedK_all (xs : List Str) : ∀ (ks : List Str), ks.Nodup → (xs.foldl addK ks).Nodup ∧ (∀ y, y ∈ xs.foldl addK ks ↔ y ∈ ks ∨ y ∈ xs) ∧ (xs.foldl addK ks).length ≤ ks.length + xs.length := by
  induction xs with
  | nil => exact fun ks h => ⟨h, fun y => by simp, by simp⟩
  | cons x r ih =>
    intro ks h
    obtain ⟨h1, h2, h3⟩ := ih (addK ks x) (addK_nd h)
    refine ⟨h1, fun y => ?_, ?_⟩
    · rw [List.foldl_cons, h2, addK_mem, List.mem_cons]
      constructor
      · rintro ((q | q) | q)
        · exact .inl q
        · exact .inr (.inl q)
        · exact .inr (.inr q)
      · rintro (q | q | q)
        · exact .inl (.inl q)
        · exact .inl (.inr q)
        · exact .inr q
    · have hl : (addK ks x).length ≤ ks.length + 1 := by
        unfold addK
        split <;> simp
      rw [List.foldl_cons, List.length_cons]
      omega
theorem dedK_nd (xs : List Str) : (dedK xs).Nodup := (dedK_all xs [] List.nodup_nil).1
theorem dedK_mem {xs : List Str} {y : Str} : y ∈ dedK xs ↔ y ∈ xs := by
  have q := (dedK_all xs [] List.nodup_nil).2.1 y
  unfold dedK
  simpa using q
theorem dedK_len (xs : List Str) : (dedK xs).length ≤ xs.length := by
  have q := (dedK_all xs [] List.nodup_nil).2.2
  unfold dedK
  simpa using q
theorem SetS.at {P : Program} {w : World} {h h' : Heap} {a : Addr} {ks : List Str} (R : SetS P w h a ks) (k : ∀ o, h.get? a = some o → h'.get? a = some o) : SetS P w h' a ks := by
  obtain ⟨ob, es, ep, tb, got, T⟩ := R
  exact ⟨ob, es, ep, tb, k _ got, T⟩
section
variable {P : Program} {w : World} {A : Around} {R : Result → Shared → Prop} {I : Addr} {fp wr : List Addr} {G : Array GenState → Array GenState → Prop} {n : Nat} {Pv : Nat → Value → Prop} {St : Nat → Shared → Prop}
/-- the texts of a walk go into the set one by one -/
theorem loopT (W : WalksS P w A.in1 I fp wr G n Pv St) (S : Addr) (out : S ∉ fp) (xs : List Str) (hn : xs.length = n) (room : n + 1 < scanBound) (val : ∀ i v, Pv i v → ∃ t, v = .str (xs.getD i Str.empty) t) :
    ∀ (k i : Nat) (s : Shared), n - i = k → i ≤ n → St i s → SetS P w s.heap S (dedK (xs.take i)) →
      (∀ s', Moved (S :: wr) G s s' → SetS P w s'.heap S (dedK xs) → R (.ok (.ret .none)) s') → codeAny (model P w) A (.builtin "set.update.loop" ⟨[.ref S, .ref I], []⟩) R s := by
  have outw : S ∉ wr := fun z => out (W.sub _ z)
  have more : ∀ b ∈ wr, b ∈ S :: wr := fun b z => List.mem_cons_of_mem _ z
  intro k
  induction k with
  | zero =>
    intro i s hk hi st set ret
    have ei : i = n := by omega
    subst ei
    apply codeAny_builtin PyProof.Rows.F.entry_set_update_loop
    rw [Around.under_plainId PyProof.Rows.F.plain_set_update_loop _]
    show wpAny _ A.in1 (pyNext (.ref I) >>= _) _ _ s
    apply wpAny_bind
    refine W.done s _ _ st fun s' mv => ?_
    show wpAny _ A.in1 (PySem.ret Value.none) _ _ s'
    refine wpAny_pure (ret s' (mv.mono more) ?_)
    rw [List.take_of_length_le (by omega)] at set
    exact set.at fun o e => mv.heap S o outw e
  | succ k ih =>
    intro i s hk hi st set ret
    have lt : i < n := by omega
    apply codeAny_builtin PyProof.Rows.F.entry_set_update_loop
    rw [Around.under_plainId PyProof.Rows.F.plain_set_update_loop _]
    show wpAny _ A.in1 (pyNext (.ref I) >>= _) _ _ s
    apply wpAny_bind
    refine W.item i s _ _ lt st fun v s' pv st' mv => ?_
    obtain ⟨t, rfl⟩ := val i v pv
    have set' := set.at (h' := s'.heap) fun o e => mv.heap S o outw e
    show wpAny _ A.in1 (holding [Value.str (xs.getD i Str.empty) t] (setAdd S (.str (xs.getD i Str.empty) t)) >>= _) _ _ s'
    apply wpAny_bind
    apply wpAny_holding
    unfold setAdd
    apply wpAny_holding
    apply wpAny_bind
    refine (strKind P w).pyHash (k := xs.getD i Str.empty) (strKind_is _ _ _ _) ?_
    have few : (dedK (xs.take i)).length + 1 < scanBound := by
      have q := dedK_len (xs.take i)
      rw [List.length_take] at q
      omega
    refine addT (s := { s' with toks := s'.toks + 1 }) set' few fun b h' but set2 => ?_
    have nxt : SetS P w h' S (dedK (xs.take (i + 1))) := by
      have e1 : xs.take (i + 1) = xs.take i ++ [xs.getD i Str.empty] := by
        rw [List.take_succ, List.getD_eq_getElem?_getD, List.getElem?_eq_getElem (by omega)]
        rfl
      rw [e1, dedK_snoc]
      exact set2
    refine wpAny_pure ⟨plainId_quiet PyProof.Rows.F.plain_set_update_loop _, ih (i + 1) _ (by omega) lt (W.frame _ s' _ _ st' (Nat.le_succ _) fun b hb o e => ?_) nxt fun s'' mv2 set3 => ?_⟩
    · rw [but.2 b fun z => out (by rw [← z]; exact hb)]
      exact e
    · refine ret s'' (Moved.trans W.gtrans ((mv.mono more).then_heap (Nat.le_succ _) fun b o hb e => ?_) mv2) set3
      rw [but.2 b fun z => hb (by rw [z]; exact List.mem_cons_self)]
      exact e
end
section
variable {P : Program} {w : World} {A : Around} {E : Value → Shared → Prop} {s : Shared}
abbrev newSetO (w : World) : Obj := { cls := .type "set", dict := none, data := .set #[] 0 (.fresh 0 0 (!w.params.followText "set-order")) }
theorem made_set1 (x : Value) {Q : Value → Shared → Prop} (fin : Q (.ref s.heap.objs.size) { s with heap := s.heap.push (newSetO w) }) : codeAny (model P w) A (.call (.builtin "set.__new__") ⟨[.type "set", x], []⟩) (wants Q E) s := by
  apply codeAny_of_tree
  show wpAny _ A.in1 (checkBuiltinCall "set.__new__" ⟨[.type "set", x], []⟩ >>= fun _ => again (.builtin "set.__new__" ⟨[.type "set", x], []⟩)) _ _ s
  apply wpAny_bind
  apply wpAny_of_eq (F.newCall_set_1 x)
  refine wpAny_pure ⟨plainId_quiet F.plain_set_new _, codeAny_builtin F.entry_set_new ?_⟩
  rw [Around.under_plainId F.plain_set_new _]
  unfold Builtin.«set.__new__» Builtin.Frozenset.newClass
  have z := sub_set_self
  obtain ⟨hp, g, d, tk, os⟩ := s
  dsimp only
  wp_walk
  apply wpAny_askSetting
  apply wpAny_pure
  dsimp only
  simp only [newObj]
  apply wpAny_bind
  apply wpAny_alloc
  apply wpAny_pure
  exact wpAny_pure fin
theorem setS_new (h : Heap) : SetS P w (h.push (newSetO w)) h.objs.size [] := by
  refine ⟨_, #[], 0, _, Heap.get?_push_size _ rfl, ⟨⟨rfl, rfl, rfl⟩, rfl, (fun e he => by simp at he), by simp, List.nodup_nil, (by decide), by rfl, List.Pairwise.nil, ?_⟩⟩
  show _ ∨ (!w.params.followText "set-order") = true
  cases w.params.followText "set-order"
  · exact .inr rfl
  · exact .inl rfl
set_option maxHeartbeats 3000000 in
theorem call_setT {l : Addr} {items : Array Value} {xs : List Str} {Q : Value → Shared → Prop} (calm : A.handled = none) (isl : s.heap.IsList l items) (are : StrsAre items.toList xs) (room : xs.length + 1 < scanBound)
    (fin : ∀ (h' : Heap) (tk : Nat), SetS P w h' s.heap.objs.size (dedK xs) → (∀ b o, s.heap.get? b = some o → h'.get? b = some o) → Q (.ref s.heap.objs.size) { s with heap := h', toks := tk }) : wpAny (model P w) A (call (.type "set") [.ref l]) Q E s := by
  have nx : xs.length = items.size := by
    have q := are.length
    simpa using q.symm
  obtain ⟨c, tl, hmro⟩ := F.called_set.mro
  have f1 := F.called_set.made
  have f2 := F.called_set.sub
  have f3 := F.called_set.notType
  have f4 := F.called_set.canCreate
  have f5 := F.typeCall_set_1 (.ref l)
  apply wpAny_call
  apply codeAny_of_tree
  show wpAny _ _ (callAny (.type "set") _) _ _ _
  refine wpAny_pure ⟨Code.quiet_builtin _ (by decide +kernel), codeAny_builtin F.entry_type_call ?_⟩
  rw [Around.under_plain (weight_type_call_type "set" [.ref l] []) rfl]
  repeat (any_goals (first | assumption | wp_step))
  refine codeAny_mono (made_set1 (.ref l) (E := E) (Q := fun obj s₁ => obj = .ref s.heap.objs.size ∧ s₁ = { s with heap := s.heap.push (newSetO w) }) ⟨rfl, rfl⟩) fun r s₁ back => ?_
  cases r with
  | error e => exact back
  | ok fl =>
    cases fl with
    | ret obj =>
      obtain ⟨rfl, rfl⟩ := back
      have gS : (s.heap.push (newSetO w)).get? s.heap.objs.size = some (newSetO w) := Heap.get?_push_size _ rfl
      have tS : Shared.TypeIs { s with heap := s.heap.push (newSetO w) } (.ref s.heap.objs.size) "set" := ⟨_, gS, rfl⟩
      have f6 := F.called_set.init.lookup
      have f7 := F.called_set.init.bind (.ref s.heap.objs.size)
      repeat (any_goals (first | assumption | wp_step))
      refine codeAny_mono (codeAny_call_builtin (R := wants (fun r s₂ => r = .none ∧ ∃ h' tk, s₂ = { s with heap := h', toks := tk } ∧ SetS P w h' s.heap.objs.size (dedK xs) ∧ (∀ b o, s.heap.get? b = some o → h'.get? b = some o)) E) F.called_set.init.plain F.entry_set_init (check_set_init_1 tS ?_)) fun r₂ s₂ back₂ => ?_
      · obtain ⟨ol, gl, cl, nl, dl⟩ := isl
        obtain ⟨ocls, odict, odata, oslots⟩ := ol
        simp only at cl dl
        subst cl
        subst dl
        have gl1 : (s.heap.push (newSetO w)).get? l = some { cls := .type "list", dict := odict, data := .seq items nl, slots := oslots } := Heap.get?_push_of_some _ gl
        have g1 := F.sub_list_set
        have g2 := F.sub_list_frozenset
        have g3 : (Value.type "list" == Value.type "dict") = false := by decide
        have isl1 : (s.heap.push (newSetO w)).IsList l items := ⟨_, gl1, rfl, nl, rfl⟩
        unfold Builtin.«set.__init__» noKeywords Builtin.Frozenset.updateFrom
        generalize keepIt : pyIter = PI
        wp_walk
        subst keepIt
        refine wpAny_pyIter_list isl1 ?_
        apply wpAny_bind
        apply wpAny_runValue
        have ltl : l < s.heap.objs.size := Heap.lt_size gl
        have calm3 : A.in1.in1.in1.handled = none := by simp [calm]
        have neI : l ≠ (s.heap.push (newSetO w)).objs.size := by
          rw [Heap.size_push]
          exact Nat.ne_of_lt (Nat.lt_succ_of_lt ltl)
        have outS : s.heap.objs.size ∉ [(s.heap.push (newSetO w)).objs.size, l] := by
          rw [Heap.size_push]
          simp only [List.mem_cons, List.mem_singleton, List.not_mem_nil, or_false, not_or]
          exact ⟨Nat.ne_of_lt (Nat.lt_succ_self _), Nat.ne_of_gt ltl⟩
        have val : ∀ (i : Nat) (v : Value), items[i]? = some v → ∃ t, v = .str (xs.getD i Str.empty) t := fun i v hv => SS.strs_at are i v (by rw [Array.getElem?_toList]; exact hv)
        refine loopT ((Walks.list calm3 _ l neI items).toS) s.heap.objs.size outS xs nx (by omega) val (items.size - 0) 0 _ (by omega) (Nat.zero_le _) ⟨⟨_, Heap.get?_push_size _ rfl, rfl, rfl⟩, (isl1.push _)⟩ ?set0 ?back
        case set0 => exact (setS_new (P := P) (w := w) s.heap).at fun o e => Heap.get?_push_of_some _ e
        case back =>
          intro s' mv set
          obtain ⟨h', g', d', tk', os'⟩ := s'
          have e1 : g' = s.gens := mv.gens
          have e2 : d' = s.drawn := mv.drawn
          have e3 : os' = s.os := mv.os
          subst e1
          subst e2
          subst e3
          show wpAny _ _ _ _ _ _
          apply wpAny_pure
          show wpAny _ _ (PySem.ret Value.none) _ _ _
          refine wpAny_pure ⟨rfl, h', tk', rfl, set, fun b o e => ?_⟩
          have lb : b < s.heap.objs.size := Heap.lt_size e
          refine mv.heap b o ?_ (Heap.get?_push_of_some _ (Heap.get?_push_of_some _ e))
          rw [Heap.size_push]
          simp only [List.mem_cons, List.mem_singleton, List.not_mem_nil, or_false, not_or]
          exact ⟨Nat.ne_of_lt lb, Nat.ne_of_lt (Nat.lt_succ_of_lt lb)⟩
      · cases r₂ with
        | error e => exact back₂
        | ok fl₂ =>
          cases fl₂ with
          | ret r =>
            obtain ⟨rfl, h', tk, rfl, set, keep⟩ := back₂
            repeat (any_goals (first | assumption | wp_step))
            exact fin _ _ set keep
          | _ => exact back₂.elim
    | _ => exact back.elim
end
end EL
namespace EL
open PySem PySem.Spec L2
open PyProof.Rows hiding St

section
variable {P : Program} {w : World} {A : Around} {E : Value → Shared → Prop} {s : Shared} {a : Addr} {ks : List Str}
theorem strs_of_keys : ∀ (l : List Value), (∀ v ∈ l, ∃ x tk, v = Value.str x tk) → StrsAre l (l.map fun v => keyT (0, v))
  | [], _ => .nil
  | v :: l, h => by
    obtain ⟨x, tk, rfl⟩ := h v List.mem_cons_self
    exact .cons x tk (strs_of_keys l fun u hu => h u (List.mem_cons_of_mem _ hu))
/-- sorted(a set of texts) -/
theorem sorted_setT {Q : Value → Shared → Prop} (R : SetS P w s.heap a ks) (calm : A.handled = none) (few : ks.length < 64)
    (fin : ∀ s' p (out : Array Value) (c : Nat), (∀ b o, s.heap.get? b = some o → s'.heap.get? b = some o) → s'.gens = s.gens → s'.os = s.os → s.heap.objs.size ≤ p → s'.heap.get? p = some (seqObj "list" out c) → StrsAre out.toList (sortS ks) → Q (.ref p) s') :
    wpAny (model P w) A (call (.builtin "sorted") [.ref a]) Q E s := by
  obtain ⟨ob, es, ep, tb, got, T⟩ := R
  apply Calls.call_function_entry kind_sorted plain_sorted entry_sorted (args_sorted1 _)
  unfold Builtin.«sorted»
  refine wpAny_bind (m := checkCount "sorted" 1 1 _) (wpAny_pure ?_)
  apply wpAny_bind
  refine collect_set (A := A.in1) calm ⟨ob, got, T.exs.1, T.dat⟩ T.fit T.few T.ris T.led fun s1 vs keep big gens os pm => ?_
  have len : vs.length = ks.length := by
    rw [pm.length_eq, List.length_map, Array.length_toList]
    exact T.len
  have are : StrsAre vs (vs.map fun v => keyT (0, v)) := strs_of_keys vs fun v hv => by
    obtain ⟨e, he, q⟩ := List.mem_map.mp (pm.mem_iff.mp hv)
    obtain ⟨x, tk, h1, _⟩ := T.good e he
    exact ⟨x, tk, by rw [← q]; exact h1⟩
  have keys : (vs.map fun v => keyT (0, v)).Perm ks := by
    have q := pm.map fun v => keyT (0, v)
    rw [List.map_map] at q
    exact q.trans T.perm
  apply wpAny_bind
  refine wpAny_newList ?_ (by rw [len, sizeLine_eq]; omega)
  have gL : (s1.heap.push (seqObj "list" vs.toArray 0)).get? s1.heap.objs.size = some (seqObj "list" vs.toArray 0) := Heap.get?_push_size _ rfl
  apply wpAny_bind
  apply wpAny_holding
  refine wpAny_call_entry slot_list_sort ⟨_, gL, rfl⟩ entry_list_sort (list_sort_treeK strKind_oneLt gL are.keysOf (fun v₁ v₂ rest e => keyKind_strs (by rw [← e]; exact are)) (by rw [len]; exact few) fun st' hp hs => ⟨_, rfl, ?_⟩) (args_list_sort _)
  obtain ⟨ys, g1, g2, g3⟩ := sorted_out_str are hp hs
  obtain ⟨c, hc⟩ := sortedHeap_at (vs := vs) (out := (arrOf st').map (·.2)) gL
  rw [sort_eq (g2.trans keys) g3] at g1
  refine wpAny_pure ⟨_, rfl, fin _ s1.heap.objs.size _ c (fun b u e => ?_) gens os big hc g1⟩
  have q := keep b u e
  have lt := Heap.lt_size q
  show (sortedHeap (s1.heap.push (seqObj "list" vs.toArray 0)) s1.heap.objs.size vs _).get? b = some u
  rw [sortedHeap_old (Nat.ne_of_lt lt) (by rw [size_push']; exact Nat.lt_succ_of_lt lt)]
  exact Heap.get?_push_of_some _ q
end
/-! ### by values -/
def SetSO (P : Program) (w : World) (a : Addr) (ks : List Str) : HO := .ext fun h => SetS P w h a ks
theorem setSO_ok {P : Program} {w : World} {H : Hp} {h : Heap} {a : Addr} {ks : List Str} (R : SetS P w h a ks) : ObjOk P w H h a (SetSO P w a ks) := by
  have ⟨ob, _, _, _, got, _⟩ := R
  exact ⟨R, ⟨ob, got⟩, fun h1 h2 p k => SetS.at p k⟩
theorem setSO_get {X : Cx} {pins : List (Addr × Obj)} {σ : St} {H : Hp} {s : Shared} {a : Addr} {ks : List Str} (I : Inv X pins σ H s) (ha : H a = some (SetSO X.prog X.w a ks)) : SetS X.prog X.w s.heap a ks := (I.hok a _ ha).1
def rSetS (P : Program) (w : World) (K : PySem.W.Frag) : List V → Hp → VK → Prop := fun vs H Q => ∃ (a : Addr) (xs : List Str), vs = [.ref a] ∧ SqL K H a (xs.map V.str) ∧ xs.length + 1 < 4096 ∧ ∀ p, H p = none → Q (.ref p) (upd H p (SetSO P w p (dedK xs)))
def rSortSetS (P : Program) (w : World) : List V → Hp → VK → Prop := fun vs H Q => ∃ (a : Addr) (ks : List Str), vs = [.ref a] ∧ H a = some (SetSO P w a ks) ∧ ks.length < 64 ∧ ∀ p, H p = none → Q (.ref p) (upd H p (.lst ((sortS ks).map V.str)))
section
variable {X : Cx}
theorem cr_setS (hc : X.calm = true) : CallR X (.type "set") (rSetS X.prog X.w X.K) := by
  intro pins s σ H vs us Q I r q
  obtain ⟨a, xs, rfl, hs, few, q⟩ := q
  obtain ⟨its, rv, hl, _⟩ := I.list hs
  rw [Vals.ref1 r]
  refine call_setT (I.ok.hd hc) hl.isList rv.strs (by show _ < 4096; exact few) fun h' tk R k => ?_
  exact ⟨.ref s.heap.objs.size, _, I.laid (t' := tk) k (Nat.le_refl _) (setSO_ok R), rfl, q _ (I.hok.fresh (Nat.le_refl _))⟩
theorem cr_sortSetS (hc : X.calm = true) : CallR X (.builtin "sorted") (rSortSetS X.prog X.w) := by
  intro pins s σ H vs us Q I r q
  obtain ⟨a, ks, rfl, ha, few, q⟩ := q
  rw [Vals.ref1 r]
  refine sorted_setT (setSO_get I ha) (I.ok.hd hc) few fun s' p out c keep gens os big hp are => ?_
  have hn : H p = none := I.hok.fresh big
  have len : ((sortS ks).map V.str).length ≤ sizeLine := by
    rw [List.length_map, show (sortS ks).length = ks.length from (sortS_perm ks).length_eq, sizeLine_eq]
    omega
  have J : Inv X pins σ (upd H p (.lst ((sortS ks).map V.str))) { s with heap := s'.heap, gens := s'.gens, drawn := s'.drawn, toks := s'.toks } :=
    I.call (ch := []) (Un.laid keep big hn) (I.hok.laid keep big ⟨len, out.toList, c, vals_of_strs are, hp⟩) (by rw [gens]; exact I.bare) (fun _ z => nomatch z)
  have e : s' = { s with heap := s'.heap, gens := s'.gens, drawn := s'.drawn, toks := s'.toks } := by
    cases s'
    cases s
    cases os
    rfl
  rw [e]
  exact ⟨.ref p, _, J, rfl, q p hn⟩
end
/-- sorted(set(xs)) of a list of texts -/
def bSortSet : List W → M W
  | [x] => fun h => match items h x with
    | some xs => (match wStrs xs with
      | some ys => if ys.length < 64 then alloc (.lst ((sortS (dedK ys)).map W.str)) h else .no
      | none => .no)
    | none => .no
  | _ => bad
section
variable {X : Cx} {cm : Cm} {a : Expr} {ma : ME} {p p2 pos pos2 : Pos}
theorem re_sortSet (hc : X.calm = true) (hm : X.mg "sorted" = none) (hm2 : X.mg "set" = none) (ha : RE X cm a ma) (hg : Gl X "sorted" := by rfl) (hg2 : Gl X "set" := by rfl)
    (h1 : starEach [a] X.env = [(false, eval a X.env)] := by rfl) (h2 : (backTo pos2 (starEach ([] : List Expr) X.env)).any (·.1) = false := by rfl)
    (h3 : starEach [.Call (.Name "set" p2) [a] [] pos2] X.env = [(false, eval (.Call (.Name "set" p2) [a] [] pos2) X.env)] := by rfl) (h4 : (backTo pos (starEach ([] : List Expr) X.env)).any (·.1) = false := by rfl) :
    RE X cm (.Call (.Name "sorted" p) [.Call (.Name "set" p2) [a] [] pos2] [] pos) (mCall bSortSet (aCons ma aNil)) := by
  refine peM (pe_callB (cr_sortSetS hc) hg hm (by decide +kernel) (pa_cons (pe_callTy (cr_setS hc) hg2 hm2 (by decide +kernel) (pa_cons ha pa_nil h1) (by decide) (by decide) h1 h2) pa_nil h3) (by decide) (by decide) h3 h4) fun σ H Q q => ?_
  obtain ⟨ρ, h, sw, w, h', rh, rs, e, k⟩ := q
  obtain ⟨ws, h1, e1, e2⟩ := bnd_ok e
  obtain ⟨x, h3, e3, e4⟩ := bnd_ok e1
  obtain ⟨us, h4, e5, e6⟩ := bnd_ok e4
  cases e5
  cases e6
  refine ⟨ρ, h, sw, x, h1, rh, rs, e3, fun ρ1 H1 v l1 rh1 rx => ?_⟩
  have e2' : (match items h1 x with
    | some xs => (match wStrs xs with
      | some ys => if ys.length < 64 then alloc (.lst ((sortS (dedK ys)).map W.str)) h1 else EL.R.no
      | none => EL.R.no)
    | none => EL.R.no) = .ok w h' := e2
  split at e2'
  · rename_i xs hi
    split at e2'
    · rename_i ys hy
      split at e2'
      · rename_i hl
        cases e2'
        obtain ⟨ad, vs, rfl, hq, rl⟩ := items_of rh1 rx hi
        have q := wStrs_of hy
        subst q
        rw [Rels.of_strs rl] at hq
        refine ⟨ad, ys, rfl, hq, by omega, fun D hD => ?_⟩
        have l2 : Le X.K ρ1 H1 ρ1 (upd H1 D (SetSO X.prog X.w D (dedK ys))) := le_new hD
        refine ⟨D, dedK ys, rfl, upd_same, by have := dedK_len ys; omega, fun D2 hD2 => ?_⟩
        refine new_lst (rh1.new hD) (Rels.strs _) hD2 fun ρ3 H3 v3 l3 => k ρ3 H3 v3 (l1.trans (l2.trans l3))
      · cases e2'
    · cases e2'
  · cases e2'
end
end EL
namespace EL
open PySem PySem.Spec L2
open PyProof.Rows hiding St

/-! ### set(d), d a dict whose keys are texts -/
theorem tab0 : ∀ n : Fin 31, ∀ led : Bool, (match (SetTable.fresh 0 0 led).roomFor n.val with
    | none => true
    | some wanted => decide (SetTable.sizeAbove wanted ≤ 16777216) && (match (SetTable.fresh 0 0 led).relaid #[] wanted with
      | some (t', order) => decide (order = #[]) && t'.fits 0 && decide (t'.place = #[]) && (t'.led == led)
      | none => false)) = true := by decide +kernel
section
variable {P : Program} {w : World} {A : Around} {E : Value → Shared → Prop} {s : Shared} {a : Addr}
theorem relay0 {o : Obj} {ep : Nat} {led : Bool} {wanted : Nat} {t' : SetTable} (got : s.heap.get? a = some o) (exs : o.ExactSet) (dat : o.data = .set #[] ep (.fresh 0 0 led)) (hled : w.params.followText "set-order" = true ∨ led = true)
    (h1 : SetTable.sizeAbove wanted ≤ 16777216) (h2 : (SetTable.fresh 0 0 led).relaid #[] wanted = some (t', #[])) (h3 : t'.fits 0 = true) (h4 : t'.place = #[]) (h5 : t'.led = led) {Q : Unit → Shared → Prop}
    (fin : ∀ h', Heap.SameBut a s.heap h' → SetS P w h' a [] → Q () { s with heap := h' }) : wpAny (model P w) A (setRelay a wanted) Q E s := by
  unfold setRelay
  apply wpAny_bind
  refine wpAny_setState_of got dat (by rfl) ?_
  dsimp only
  rw [if_neg (by rw [sizeLine_eq]; omega)]
  have e : ((#[] : Array (Int × Value)).map (·.1)) = #[] := by simp
  rw [e, h2]
  refine wpAny_bind (m := _) ?_
  show wpAny _ _ (pure ((#[] : Array (Int × Value)), t')) _ _ s
  apply wpAny_pure
  refine wpAny_storeSet_of got dat ?_ (by rw [sizeLine_eq]; exact Nat.zero_le _)
  refine fin _ (Heap.SameBut.update s.heap a _) ⟨_, #[], _, t', store_at got dat, ⟨exs, rfl, (fun e he => by simp at he), by simp, List.nodup_nil, (by decide), h3, ?_, ?_⟩⟩
  · rw [h4]
    exact List.Pairwise.nil
  · rw [h5]
    exact hled
theorem room0 {o : Obj} {ep : Nat} {led : Bool} {n : Nat} (got : s.heap.get? a = some o) (exs : o.ExactSet) (dat : o.data = .set #[] ep (.fresh 0 0 led)) (hled : w.params.followText "set-order" = true ∨ led = true) (hn : n < 31) {Q : Unit → Shared → Prop}
    (fin : ∀ h', Heap.SameBut a s.heap h' → SetS P w h' a [] → Q () { s with heap := h' }) : wpAny (model P w) A (setRoomFor a n) Q E s := by
  have q := tab0 ⟨n, hn⟩ led
  unfold setRoomFor
  apply wpAny_bind
  refine wpAny_setState_of got dat (by rfl) ?_
  dsimp only at q ⊢
  cases r : (SetTable.fresh 0 0 led).roomFor n with
  | none =>
    exact wpAny_pure (fin s.heap (Heap.SameBut.refl a s.heap) ⟨o, #[], ep, _, got, ⟨exs, dat, (fun e he => by simp at he), by simp, List.nodup_nil, (by decide), by rfl, List.Pairwise.nil, hled⟩⟩)
  | some wanted =>
    rw [r] at q
    dsimp only at q ⊢
    rw [Bool.and_eq_true] at q
    cases z : (SetTable.fresh 0 0 led).relaid #[] wanted with
    | none => rw [z] at q; exact absurd q.2 Bool.false_ne_true
    | some p =>
      obtain ⟨t', order⟩ := p
      rw [z] at q
      simp only [Bool.and_eq_true, decide_eq_true_eq, beq_iff_eq] at q
      obtain ⟨q1, ⟨⟨q2, q3⟩, q4⟩, q5⟩ := q
      subst q2
      exact relay0 got exs dat hled q1 z q3 q4 q5 fin
theorem entry_text {es : Array DictEntry} {vs : List (Key × Value)} {xs : List Str} (ko : KeysOf (mixKind P w) es) (pr : Pairs (mixKind P w) es.toList vs) (hk : vs.map (·.1) = xs.map Sum.inr) (i : Nat) (hi : i < xs.length) :
    ∃ e tk, es[i]? = some e ∧ e.key = Value.str (xs.getD i Str.empty) tk ∧ e.hash = (strKind P w).hash (xs.getD i Str.empty) := by
  have go : ∀ (l : List DictEntry) (vs : List (Key × Value)) (xs : List Str) (i : Nat), Pairs (mixKind P w) l vs → vs.map (·.1) = xs.map Sum.inr → i < xs.length → ∃ e tk, l[i]? = some e ∧ e.key = Value.str (xs.getD i Str.empty) tk := by
    intro l
    induction l with
    | nil =>
      intro vs xs i p hk hi
      cases p
      cases xs with
      | nil => simp at hi
      | cons _ _ => cases hk
    | cons e l ih =>
      intro vs xs i p hk hi
      cases p with
      | @cons _ kv _ kvs h1 h2 h3 =>
        cases xs with
        | nil => simp at hi
        | cons x xs =>
          obtain ⟨hx, ht⟩ := List.cons.inj hk
          cases i with
          | zero =>
            have hx' : kv.1 = Sum.inr x := hx
            rw [hx'] at h1
            obtain ⟨t, q⟩ := Value.isStrOf_shape (show Value.isStrOf x e.key = true from h1)
            exact ⟨e, t, rfl, q⟩
          | succ i => exact ih _ xs i h3 ht (by simpa using hi)
  obtain ⟨e, tk, h1, h2⟩ := go es.toList vs xs i pr hk hi
  have h1' : es[i]? = some e := by rw [← Array.getElem?_toList]; exact h1
  obtain ⟨k, h3, h4⟩ := ko e (Array.mem_of_getElem? h1')
  refine ⟨e, tk, h1', h2, ?_⟩
  rw [h2] at h3
  cases k with
  | inl n => cases (show false = true from h3)
  | inr y =>
    obtain ⟨t, q⟩ := Value.isStrOf_shape (show Value.isStrOf y (Value.str (xs.getD i Str.empty) tk) = true from h3)
    cases q
    exact h4
set_option maxHeartbeats 3000000 in
theorem call_setD {d : Addr} {vs : List (Key × Value)} {xs : List Str} {Q : Value → Shared → Prop} (calm : A.handled = none) (dd : s.heap.DictOf (mixKind P w) d vs) (far : (d == sysModules) = false) (hk : vs.map (·.1) = xs.map Sum.inr) (few : xs.length < 31)
    (fin : ∀ (h' : Heap) (tk : Nat), SetS P w h' s.heap.objs.size (dedK xs) → (∀ b o, s.heap.get? b = some o → h'.get? b = some o) → Q (.ref s.heap.objs.size) { s with heap := h', toks := tk }) : wpAny (model P w) A (call (.type "set") [.ref d]) Q E s := by
  obtain ⟨od, ds, dp, gd, exd, dat, ko, pr, _⟩ := dd
  have nx : xs.length = ds.size := by
    have q1 := congrArg List.length hk
    have q2 := pr.length
    rw [List.length_map, List.length_map] at q1
    rw [Array.length_toList] at q2
    omega
  obtain ⟨c, tl, hmro⟩ := F.called_set.mro
  have f1 := F.called_set.made
  have f2 := F.called_set.sub
  have f3 := F.called_set.notType
  have f4 := F.called_set.canCreate
  have f5 := F.typeCall_set_1 (.ref d)
  apply wpAny_call
  apply codeAny_of_tree
  show wpAny _ _ (callAny (.type "set") _) _ _ _
  refine wpAny_pure ⟨Code.quiet_builtin _ (by decide +kernel), codeAny_builtin F.entry_type_call ?_⟩
  rw [Around.under_plain (weight_type_call_type "set" [.ref d] []) rfl]
  repeat (any_goals (first | assumption | wp_step))
  refine codeAny_mono (made_set1 (.ref d) (E := E) (Q := fun obj s₁ => obj = .ref s.heap.objs.size ∧ s₁ = { s with heap := s.heap.push (newSetO w) }) ⟨rfl, rfl⟩) fun r s₁ back => ?_
  cases r with
  | error e => exact back
  | ok fl =>
    cases fl with
    | ret obj =>
      obtain ⟨rfl, rfl⟩ := back
      have gS : (s.heap.push (newSetO w)).get? s.heap.objs.size = some (newSetO w) := Heap.get?_push_size _ rfl
      have tS : Shared.TypeIs { s with heap := s.heap.push (newSetO w) } (.ref s.heap.objs.size) "set" := ⟨_, gS, rfl⟩
      have gd1 : (s.heap.push (newSetO w)).get? d = some od := Heap.get?_push_of_some _ gd
      have tD : Shared.TypeIs { s with heap := s.heap.push (newSetO w) } (.ref d) "dict" := ⟨_, gd1, exd.1⟩
      have f6 := F.called_set.init.lookup
      have f7 := F.called_set.init.bind (.ref s.heap.objs.size)
      repeat (any_goals (first | assumption | wp_step))
      refine codeAny_mono (codeAny_call_builtin (R := wants (fun r s₂ => r = .none ∧ ∃ h' tk, s₂ = { s with heap := h', toks := tk } ∧ SetS P w h' s.heap.objs.size (dedK xs) ∧ (∀ b o, s.heap.get? b = some o → h'.get? b = some o)) E) F.called_set.init.plain F.entry_set_init (check_set_init_1 tS ?_)) fun r₂ s₂ back₂ => ?_
      · have g1 : isSubtype (.type "dict") (.type "set") = pure false := by rw [isSubtype_type]; kernel_rfl
        have g2 : isSubtype (.type "dict") (.type "frozenset") = pure false := by rw [isSubtype_type]; kernel_rfl
        have ltd : d < s.heap.objs.size := Heap.lt_size gd
        unfold Builtin.«set.__init__» noKeywords Builtin.Frozenset.updateFrom
        generalize keepIt : setRoomFor = RF
        wp_walk
        subst keepIt
        rw [dat]
        apply wpAny_pure
        apply wpAny_bind
        refine wpAny_dictEntries gd1 dat ?_
        apply wpAny_bind
        have led : w.params.followText "set-order" = true ∨ (!w.params.followText "set-order") = true := by
          cases w.params.followText "set-order"
          · exact .inr rfl
          · exact .inl rfl
        refine room0 (n := ds.size) gS ⟨rfl, rfl, rfl⟩ rfl led (by omega) fun h0 but set0 => ?_
        have neD : ∀ {b : Addr} {o : Obj}, s.heap.get? b = some o → b ≠ s.heap.objs.size := fun e => Nat.ne_of_lt (Heap.lt_size e)
        have gd2 : h0.get? d = some od := (but.2 d (neD gd)).trans gd1
        apply wpAny_bind
        refine wpAny_dictEntries (s := { s with heap := h0 }) gd2 dat ?_
        apply wpAny_bind
        refine TI.forIn_rng _ (fun rest b s' => ∃ i, rest = List.range' i (ds.size - i) ∧ i ≤ ds.size ∧ ∃ h1 tk, s' = { s with heap := h1, toks := tk } ∧ SetS P w h1 s.heap.objs.size (dedK (xs.take i)) ∧ ∀ b o, s.heap.get? b = some o → h1.get? b = some o) _ ?turn ?fin _ ?start
        case start =>
          refine ⟨0, by simp, Nat.zero_le _, h0, s.toks, rfl, set0, fun b o e => ?_⟩
          rw [but.2 b (neD e)]
          exact Heap.get?_push_of_some _ e
        case turn =>
          rintro y rest b s' ⟨i, hr, hi, h1, tk, rfl, set, keep⟩
          have lt : i < ds.size := by
            rcases Nat.lt_or_ge i ds.size with z | z
            · exact z
            · rw [show ds.size - i = 0 from by omega] at hr
              cases hr
          have hr2 : y = i ∧ rest = List.range' (i + 1) (ds.size - (i + 1)) := by
            rw [show ds.size - i = (ds.size - (i + 1)) + 1 from by omega, List.range'_succ] at hr
            injection hr with a1 a2
            exact ⟨a1, a2⟩
          obtain ⟨rfl, rfl⟩ := hr2
          obtain ⟨e, tk2, e1, e2, e3⟩ := entry_text ko pr hk y (by omega)
          apply wpAny_bind
          refine wpAny_dictEntries (s := { s with heap := h1, toks := tk }) (keep d od gd) dat ?_
          rw [e1]
          dsimp only
          apply wpAny_bind
          apply wpAny_holding
          rw [e2, e3]
          have few1 : (dedK (xs.take y)).length + 1 < scanBound := by
            have q := dedK_len (xs.take y)
            rw [List.length_take] at q
            show _ < 4096
            omega
          refine addT (s := { s with heap := h1, toks := tk }) set few1 fun b h' but2 set2 => ?_
          have keep2 : ∀ b o, s.heap.get? b = some o → h'.get? b = some o := fun b o z => by
            rw [but2.2 b (neD z)]
            exact keep b o z
          apply wpAny_bind
          refine wpAny_dictEpoch (s := { s with heap := h', toks := tk }) (keep2 d od gd) dat ?_
          simp only [bne_self_eq_false, Bool.false_eq_true, if_false]
          apply wpAny_pure
          refine ⟨y + 1, rfl, lt, h', tk, rfl, ?_, keep2⟩
          have e4 : xs.take (y + 1) = xs.take y ++ [xs.getD y Str.empty] := by
            rw [List.take_succ, List.getD_eq_getElem?_getD, List.getElem?_eq_getElem (by omega)]
            rfl
          rw [e4, dedK_snoc]
          exact set2
        case fin =>
          rintro b s' ⟨i, hr, hi, h1, tk, rfl, set, keep⟩
          have ei : i = ds.size := by
            rcases Nat.lt_or_ge i ds.size with z | z
            · rw [show ds.size - i = (ds.size - (i + 1)) + 1 from by omega, List.range'_succ] at hr
              cases hr
            · omega
          rw [ei, List.take_of_length_le (by omega)] at set
          apply wpAny_pure
          show wpAny _ _ (PySem.ret Value.none) _ _ _
          exact wpAny_pure ⟨rfl, h1, tk, rfl, set, keep⟩
      · cases r₂ with
        | error e => exact back₂
        | ok fl₂ =>
          cases fl₂ with
          | ret r =>
            obtain ⟨rfl, h', tk, rfl, set, keep⟩ := back₂
            repeat (any_goals (first | assumption | wp_step))
            exact fin _ _ set keep
          | _ => exact back₂.elim
    | _ => exact back.elim
end
def rSetD (P : Program) (w : World) : List V → Hp → VK → Prop := fun vs H Q => ∃ (a : Addr) (kvs : List (Key × V)) (xs : List Str), vs = [.ref a] ∧ Rd H a (.dK kvs) ∧ kvs.map (·.1) = xs.map Sum.inr ∧ xs.length < 31 ∧ ∀ p, H p = none → Q (.ref p) (upd H p (SetSO P w p (dedK xs)))
theorem cr_setD {X : Cx} (hc : X.calm = true) : CallR X (.type "set") (rSetD X.prog X.w) := by
  intro pins s σ H vs us Q I r q
  obtain ⟨a, kvs, xs, rfl, er, hk, few, q⟩ := q
  obtain ⟨_, far, ws, rel, dd⟩ := dk_rd I.hok er
  rw [Vals.ref1 r]
  refine call_setD (I.ok.hd hc) dd far (rel.keys.symm.trans hk) few fun h' tk R k => ?_
  exact ⟨.ref s.heap.objs.size, _, I.laid (t' := tk) k (Nat.le_refl _) (setSO_ok R), rfl, q _ (I.hok.fresh (Nat.le_refl _))⟩
def txtK : Key → Option Str
  | .inr x => some x
  | _ => none
theorem txtK_of : ∀ {ks : List Key} {xs : List Str}, mapO txtK ks = some xs → ks = xs.map Sum.inr
  | [], xs, e => by cases e; rfl
  | k :: ks, xs, e => by
    unfold mapO at e
    split at e
    · rename_i y ys e1 e2
      cases e
      rw [txtK_of e2]
      cases k with
      | inl n => cases e1
      | inr z => cases e1; rfl
    · cases e
/-- sorted(set(d)) of a dict with texts as keys -/
def bSortSetD : List W → M W
  | [x] => fun h => match dOf h x with
    | some kvs => (match mapO txtK (kvs.map Prod.fst) with
      | some ys => if ys.length < 31 then alloc (.lst ((sortS (dedK ys)).map W.str)) h else .no
      | none => .no)
    | none => .no
  | _ => bad
section
variable {X : Cx} {cm : Cm} {a : Expr} {ma : ME} {p p2 pos pos2 : Pos}
theorem re_sortSetD (hc : X.calm = true) (hm : X.mg "sorted" = none) (hm2 : X.mg "set" = none) (ha : RE X cm a ma) (hg : Gl X "sorted" := by rfl) (hg2 : Gl X "set" := by rfl)
    (h1 : starEach [a] X.env = [(false, eval a X.env)] := by rfl) (h2 : (backTo pos2 (starEach ([] : List Expr) X.env)).any (·.1) = false := by rfl)
    (h3 : starEach [.Call (.Name "set" p2) [a] [] pos2] X.env = [(false, eval (.Call (.Name "set" p2) [a] [] pos2) X.env)] := by rfl) (h4 : (backTo pos (starEach ([] : List Expr) X.env)).any (·.1) = false := by rfl) :
    RE X cm (.Call (.Name "sorted" p) [.Call (.Name "set" p2) [a] [] pos2] [] pos) (mCall bSortSetD (aCons ma aNil)) := by
  refine peM (pe_callB (cr_sortSetS hc) hg hm (by decide +kernel) (pa_cons (pe_callTy (cr_setD hc) hg2 hm2 (by decide +kernel) (pa_cons ha pa_nil h1) (by decide) (by decide) h1 h2) pa_nil h3) (by decide) (by decide) h3 h4) fun σ H Q q => ?_
  obtain ⟨ρ, h, sw, w, h', rh, rs, e, k⟩ := q
  obtain ⟨ws, h1, e1, e2⟩ := bnd_ok e
  obtain ⟨x, h3, e3, e4⟩ := bnd_ok e1
  obtain ⟨us, h4, e5, e6⟩ := bnd_ok e4
  cases e5
  cases e6
  refine ⟨ρ, h, sw, x, h1, rh, rs, e3, fun ρ1 H1 v l1 rh1 rx => ?_⟩
  have e2' : (match dOf h1 x with
    | some kvs => (match mapO txtK (kvs.map Prod.fst) with
      | some ys => if ys.length < 31 then alloc (.lst ((sortS (dedK ys)).map W.str)) h1 else EL.R.no
      | none => EL.R.no)
    | none => EL.R.no) = .ok w h' := e2
  split at e2'
  · rename_i kvs hd
    split at e2'
    · rename_i ys hy
      split at e2'
      · rename_i hl
        cases e2'
        obtain ⟨_, ad, kv, rfl, _, rfl, er, rk⟩ := dOf_of rh1 rx hd
        refine ⟨ad, kv, ys, rfl, er, rk.keys.trans (txtK_of hy), hl, fun D hD => ?_⟩
        have l2 : Le X.K ρ1 H1 ρ1 (upd H1 D (SetSO X.prog X.w D (dedK ys))) := le_new hD
        refine ⟨D, dedK ys, rfl, upd_same, by have := dedK_len ys; omega, fun D2 hD2 => ?_⟩
        exact new_lst (rh1.new hD) (Rels.strs _) hD2 fun ρ3 H3 v3 l3 => k ρ3 H3 v3 (l1.trans (l2.trans l3))
      · cases e2'
    · cases e2'
  · cases e2'
end
end EL
namespace EL
open PySem PySem.Spec L2
open PyProof.Rows hiding St

/-! ### the methods of a class, defs with defaults -/
/-- the j-th statement in a class's body -/
def inCls (st : Stmt) (j : Nat) : Stmt := match st with
  | .ClassDef _ _ _ b _ _ _ _ _ _ _ => b.getD j (.Pass ⟨0, 0, 0, 0⟩)
  | _ => .Pass ⟨0, 0, 0, 0⟩
section
variable {P : Program} {w : World} {K : PySem.W.Frag} {mg : Str → Option Value} {base : Heap}
theorem efnD {x qual : Str} {st : Stmt} {f : Addr} {fd : FuncData} {N ps : List Str} {k : Nat} {cm : Cm} {m : MS} {dvs : List V} {kws : List (Str × V)} (F : FunD K x qual (defArgs st) (defBody st) (defScope st) dvs kws f fd) (S : FnScope N ps (defScope st))
    (hb : ∀ (cdv : Value) (A : Around) (outer : List Env) (s : Shared) (H : Hp) (E : XK), Room k (A.deeper (envOfC qual (defScope st) s.heap.objs.size f cdv)) → RSs (cxOf CX0 P w K mg base N qual (defScope st) f cdv A outer s H E).nox cm (defBody st) m) :
    FnOk P w K mg base CX0 (k + 1) f fd ps (spM K cm (mFn ps.length N.length m)) := by
  refine F.ok S (fun vs H Q E h => ?_) (fun cdv A outer s H vs Q E hr h => ?_)
  · obtain ⟨ρ, h, ws, w, h', rh, rs, e, k⟩ := h
    unfold mFn at e
    split at e
    · rw [← rs.length]
      assumption
    · cases e
  · refine ⟨_, (hb cdv A outer s H E hr).nox, ?_⟩
    obtain ⟨ρ, h, ws, w, h', rh, rs, e, k⟩ := h
    unfold mFn at e
    split at e
    · rename_i hl
      obtain ⟨fl, h1, e1, e2⟩ := bnd_ok e
      refine ⟨ρ, h, _, fl, h1, rh, ?_, e1, ?_⟩
      · have q := relS_start (N := N) rs
        rw [hl] at q
        exact q
      · cases fl with
        | rt w =>
          cases e2
          exact k
        | nx s =>
          cases e2
          exact fun ρ' H' σ' l rh' _ => k ρ' H' .non l rh' .non
        | bk s => cases e2
        | ct s => cases e2
    · cases e
/-- a def with one default, None -/
theorem fund_mk {x qual : Str} {st : Stmt} {f T : Addr} {oc ocT : Value} {od an odT : Option Addr} {osl slT : Array (Option Value)} {kV doc pm cdv ct : Value} {nT : Nat} (l : K.lookup f = some ⟨oc, od, .func (PySem.W.fnOf x qual (defArgs st) (defBody st) (defScope st) (.ref T) kV doc pm an cdv ct), osl⟩)
    (lT : K.lookup T = some ⟨ocT, odT, .seq [Value.none].toArray nT, slT⟩) (c : PySem.W.codeIn K cdv qual = true) (k : PySem.W.keepIn K (.ref f) = true) : FunD K x qual (defArgs st) (defBody st) (defScope st) [.non] [] f (PySem.W.fnOf x qual (defArgs st) (defBody st) (defScope st) (.ref T) kV doc pm an cdv ct) :=
  ⟨⟨oc, od, .ref T, kV, doc, pm, an, cdv, ct, osl, rfl, l, c, .inr ⟨by simp, T, _, [Value.none], nT, rfl, lT, rfl, .cons rfl .nil⟩, .inl rfl⟩, k⟩
end
/-- what is known of a class whose instances are made here -/
structure ClsK (K : PySem.W.Frag) (mg : Str → Option Value) (x : Str) (C : Addr) : Prop where
  cl : Cls K C
  is : InsK K C
  gl : mg x = some (.ref C)
  slf : PySem.W.kitOne K (.ref C) (.ref C) = some true
  first : PySem.W.selfFirst K C = true
  noseq : PySem.W.noSeq K C = true
  ne : PySem.W.findIn K (.ref C) "__ne__" = some (some (.builtin "object.__ne__"))
  ob : PySem.W.mroIn K C (.type "object") = some true
  tys : ∀ n ∈ ["dict", "list", "tuple", "int", "str", "bool", "NoneType"], PySem.W.kitOne K (.type n) (.ref C) = some false
  nf : ∀ n ∈ ["dict", "list", "tuple", "int", "str", "bool", "NoneType"], PySem.W.notFirst K C (.type n) = true
/-- a function of a class -/
structure Own (K : PySem.W.Frag) (C : Addr) (m : Str) (f : Addr) : Prop where
  at_ : PySem.W.findIn K (.ref C) m = some (some (.ref f))
  fn : PySem.W.isFn K (.ref f) = true
  fi : PySem.W.fnIn K f = true
  kp : PySem.W.keepIn K (.ref f) = true
theorem Own.meth {K : PySem.W.Frag} {C : Addr} {m : Str} {f : Addr} (o : Own K C m f) : Meth K C m f := ⟨o.at_, o.fn, o.kp⟩
abbrev allTys : List String := ["dict", "list", "tuple", "int", "str", "bool", "NoneType"]
theorem rels_nil {K : PySem.W.Frag} (ρ : List Addr) (H : Hp) : Rels K ρ H [] [] := .nil
theorem rels_non {K : PySem.W.Frag} (ρ : List Addr) (H : Hp) : Rels K ρ H [.non] [.non] := .cons .non .nil
theorem isi_tab {K : PySem.W.Frag} {mg : Str → Option Value} {x C : Str} {cm : Cm} (k : ClsK K mg x (cm C)) : ∀ q ∈ [(C, true)], InsK K (cm q.1) ∧ PySem.W.kitOne K (.ref (cm q.1)) (.ref (cm C)) = some q.2 := fun q hq => by
  rw [List.mem_singleton.mp hq]
  exact ⟨k.is, k.slf⟩
end EL
namespace EL
open PySem PySem.Spec L2
open PyProof.Rows hiding St

/-! ### name = {..}: a dict comprehension that is stored within its frame -/
section
variable {X : Cx} {cm : Cm} {kx vx tg it : Expr} {ifs : List Expr} {scope : Scope} {own : List (Str × Nat)} {pos spos : Pos}
theorem ps_setDc {i : Nat} {y : Str} {py : Pos} {wi : TI} {g : TG} {tt : TT} {tk tv : TE} (calm : X.calm = true) (nd : X.N.Nodup) (hy : X.N[i]? = some y) (loc : X.env.scope.names.lookup y = some .local) (sw : swapsWith (.DictComp kx vx [⟨tg, it, ifs, 0⟩] scope pos) (some (.Name y py)) spos.line X.env = pure true)
    (hi : PI X tg it wi) (ok : BlkOk X.N X.env.scope scope own)
    (hg : ∀ (s : Shared) (H : Hp) (C : Addr) (cl : List (Str × Addr)) (fp : List Addr), PG (X.blk s H scope (compEnvC scope cl C X.env) fp) tg g)
    (ht : ∀ (s : Shared) (H : Hp) (C : Addr) (cl : List (Str × Addr)) (fp : List Addr), PTs (X.blk s H scope (compEnvC scope cl C X.env) fp) ifs tt)
    (hk : ∀ (s : Shared) (H : Hp) (C : Addr) (cl : List (Str × Addr)) (fp : List Addr), PE (X.blk s H scope (compEnvC scope cl C X.env) fp) kx tk)
    (hv : ∀ (s : Shared) (H : Hp) (C : Addr) (cl : List (Str × Addr)) (fp : List Addr), PE (X.blk s H scope (compEnvC scope cl C X.env) fp) vx tv) (folded : ∀ x, foldedSetIterable it X.env x = pure x) :
    PS X (.Assign [.Name y py] (.DictComp kx vx [⟨tg, it, ifs, 0⟩] scope pos) spos) (tAsg (tDc wi g tt tk tv (own.map (·.2))) (gName i)) := by
  constructor
  intro pins s σ H D I q
  rw [exec_Assign_Name_used _ _ _ _ sw]
  apply wpAny_bind
  apply wpAny_standAt
  apply wpAny_bind
  show wpAny _ X.A (comprehension (.DictComp kx vx [⟨tg, it, ifs, 0⟩] scope pos) scope X.env (firstIterPos [⟨tg, it, ifs, 0⟩] pos) newDict false (eval it X.env) (some (assign (.Name y py) X.env)) >>= fun _ => _) _ _ s
  have q' : tDc wi g tt tk tv (own.map (·.2)) σ H (fun x H1 => gName i x σ H1 D.nx) := q
  apply wpAny_bind
  refine thn (dc_core (Qf := fun _ s' => SP X pins D .next s') calm nd I hi ok hg ht hk hv folded q' fun L C s' m H' I' q2 hn f => ?_) fun _ s' back => wpAny_pure (wpAny_pure back)
  show wpAny _ _ (assign (.Name y py) X.env (.ref L)) _ _ _
  refine wpAny_assign_Name (store_ok2 (v := V.ref L) I' nd hy (.inl loc) rfl (fun s2 I2 there => ?_) (.inr loc))
  obtain ⟨ad, but, wh⟩ := there
  obtain ⟨g0, g1, g2, g3, g4, g5⟩ := f
  have far : C ≠ ad := by
    rcases wh with z | z
    · rw [z]
      exact g1
    · exact fun e => g4 y ad z e.symm
  exact ⟨m, hn.sameBut but far, fun h3 but3 => ⟨_, H', I2.turned (t' := s2.toks) (fun b o hb e => (but3.2 b hb).trans e) g0 g1 g3 g4 g5, q2⟩⟩
theorem sw_trueD {c : List Comprehension} {py : Pos} {y : Str} {l : Nat} {env : Env} (hk : env.blockKind = .function) (hy : env.kindOf y = some .local) (hl : (py.line == pos.line) = true) (hn : (scope.names.any fun (n, k) => n == y && (k == .local || k == .cell)) = false) :
    swapsWith (.DictComp kx vx c scope pos) (some (.Name y py)) l env = pure true := by
  unfold swapsWith
  dsimp only
  rw [hk, hy]
  have hl' : (py.line == (Expr.DictComp kx vx c scope pos).pos.line) = true := hl
  rw [hl', hn]
  rfl
variable {mi : MI} {g : MG} {mk mv : ME}
theorem rs_setDc {i : Nat} {y : Str} {py : Pos} (own : List (Str × Nat)) (hc : X.calm = true) (hN : X.N.Nodup) (hi : RI X cm tg it mi) {N0 : List Str} {sc0 : Scope} (ok : blkC N0 sc0 scope own = true)
    (hg : ∀ (s : Shared) (H : Hp) (C : Addr) (cl : List (Str × Addr)) (fp : List Addr), RG (X.blk s H scope (compEnvC scope cl C X.env) fp) cm (own.map (·.2)) tg g)
    (hk : ∀ (s : Shared) (H : Hp) (C : Addr) (cl : List (Str × Addr)) (fp : List Addr), RE (X.blk s H scope (compEnvC scope cl C X.env) fp) cm kx mk)
    (hv : ∀ (s : Shared) (H : Hp) (C : Addr) (cl : List (Str × Addr)) (fp : List Addr), RE (X.blk s H scope (compEnvC scope cl C X.env) fp) cm vx mv)
    (hy : X.N[i]? = some y := by rfl) (hyl : X.env.scope.names.lookup y = some .local := by rfl) (hsw : swapsWith (.DictComp kx vx [⟨tg, it, [], 0⟩] scope pos) (some (.Name y py)) spos.line X.env = pure true := by exact sw_trueD rfl rfl rfl (by decide +kernel)) (hs : ∀ x, foldedSetIterable it X.env x = pure x := by intro _; rfl) (eN : N0 = X.N := by rfl) (eS : sc0 = X.env.scope := by rfl) :
    RS X cm (.Assign [.Name y py] (.DictComp kx vx [⟨tg, it, [], 0⟩] scope pos) spos) (sAsg (gNm i) (mDc mi g tYs mk mv (own.map (·.2)))) := by
  refine psM (ps_setDc (own := own) (tk := tE X.K cm mk) (tv := tE X.K cm mv) (g := tG X.K cm (own.map (·.2)) g) hc hN hy hyl hsw hi (by rw [← eN, ← eS]; exact blkOk_by ok) hg (fun _ _ _ _ _ => pts_nil) hk hv hs) fun D σ H q => ?_
  obtain ⟨ρ, h, sw, f, h', rh, rs, e, k⟩ := q
  obtain ⟨x, h1, e1, e2⟩ := bnd_ok e
  obtain ⟨s, h2, e3, e4⟩ := bnd_ok e2
  cases e4
  cases e3
  refine dc_tE (g := g) (t := tYs) (mk := mk) (mv := mv) ⟨ρ, h, sw, x, h', rh, rs, e1, fun ρ1 H1 v l1 rh1 rv => ?_⟩ (fun _ _ _ _ z => z) (fun _ _ _ z => by
    obtain ⟨ρ, h, sw, b, h', rh, rs, e, k⟩ := z
    cases e
    exact k ρ _ .refl rh) (fun _ _ _ z => z) (fun _ _ _ z => z)
  exact k ρ1 H1 _ l1 rh1 ((rs.mono l1).set rv i)
end
end EL
namespace EL
open PySem PySem.Spec L2
open PyProof.Rows hiding St

/-! ### what the readings give: classes, dicts -/
section
variable {a o v b e k x : ME} {as : MA} {sw : SW} {h : Hw} {P : W → Hw → Prop} {PF : Fl → Hw → Prop} {C f m : Str} {fn : List W → M W} {dws : List W} {tys : List String}
theorem ok_fld (q : Ok (a sw) h fun x h1 => ∃ w, fldOf h1 x C f = some w ∧ P w h1) : Ok (mFld C f a sw) h P := ok_bnd (q.imp fun x h1 q => by
  obtain ⟨w, e, p⟩ := q
  exact ⟨w, h1, by simp only [e], p⟩)
theorem ok_sFld (q : Ok (v sw) h fun y h1 => Ok (o sw) h1 fun x h2 => ∃ p fs, x = .ref p ∧ h2[p]? = some (.ins C fs) ∧ fs.length < 1000 ∧ PF (.nx sw) (h2.set p (.ins C (putW f y fs)))) : Ok (sFldS C f o v sw) h PF := ok_bnd (q.imp fun y h1 q => ok_bnd (q.imp fun x h2 q => by
  obtain ⟨p, fs, rfl, e, l, q⟩ := q
  refine ok_bnd ⟨(), h2.set p (.ins C (putW f y fs)), ?_, ok_rtn q⟩
  unfold setFld
  simp only [e]
  rw [if_pos ⟨trivial, l⟩]))
theorem ok_make (q : Ok (as sw) h fun xs h1 => Ok (fn (.ref h1.length :: (xs ++ dws))) (h1 ++ [.ins C []]) fun u h2 => u = .non ∧ P (.ref h1.length) h2) : Ok (mMake C fn dws as sw) h P := ok_bnd (q.imp fun xs h1 q => ok_bnd ⟨.ref h1.length, h1 ++ [.ins C []], rfl, ok_bnd (q.imp fun u h2 q => by
  obtain ⟨rfl, q⟩ := q
  exact ok_rtn q)⟩)
theorem ok_meth (q : Ok (o sw) h fun x h1 => (∃ p fs, x = .ref p ∧ h1[p]? = some (.ins C fs) ∧ fs.lookup m = none) ∧ Ok (as sw) h1 fun xs h2 => Ok (fn (x :: (xs ++ dws))) h2 P) : Ok (mMeth C m fn dws o as sw) h P := ok_bnd (q.imp fun x h1 q => by
  obtain ⟨⟨p, fs, rfl, e, l⟩, q⟩ := q
  refine ok_bnd ⟨(), h1, ?_, ok_bnd q⟩
  unfold isIns
  simp only [e]
  rw [if_pos ⟨trivial, by rw [l]; rfl⟩])
theorem ok_own {y z : W} (h1 : insB h y C = true) (h2 : (insB h z C || tyIn h z tys) = true) (q : Ok (fn [y, z]) h P) : Ok (fOwn C tys fn y z) h P := by
  obtain ⟨w, h', e, p⟩ := q
  exact ⟨w, h', by unfold fOwn; rw [if_pos (by rw [h1, h2]; rfl)]; exact e, p⟩
theorem ok_ownNe {y z : W} (h1 : insB h y C = true) (h2 : (insB h z C || tyIn h z tys) = true) (q : Ok (fn [y, z]) h fun w h' => ∃ b, w = .bl b ∧ P (.bl (!b)) h') : Ok (fOwnNe C tys fn y z) h P := ok_bnd ((ok_own h1 h2 q).imp fun w h' q => by
  obtain ⟨b, rfl, p⟩ := q
  exact ok_rtn p)
theorem ok_ownIx {y z : W} (h1 : insB h y C = true) (q : Ok (fn [y, z]) h P) : Ok (fOwnIx C fn y z) h P := by
  obtain ⟨w, h', e, p⟩ := q
  exact ⟨w, h', by unfold fOwnIx; rw [if_pos h1]; exact e, p⟩
theorem ok_ownIn {neg : Bool} {y z : W} (h1 : insB h y C = true) (q : Ok (fn [y, z]) h fun w h' => ∃ b, w = .bl b ∧ P (.bl (neg != b)) h') : Ok (fOwnIn neg C fn z y) h P := by
  obtain ⟨w, h', e, b, rfl, p⟩ := q
  exact ⟨_, h', by unfold fOwnIn; rw [if_pos h1]; unfold bnd; rw [e]; rfl, p⟩
theorem ok_lenO {y : W} (h1 : insB h y C = true) (q : Ok (fn [y]) h fun w h' => ∃ n : Int, w = .int n ∧ (0 ≤ n ∧ n < 4611686018427387904) ∧ P (.int n) h') : Ok (bLenO C fn [y]) h P := by
  obtain ⟨w, h', e, n, rfl, hn, p⟩ := q
  refine ⟨_, h', ?_, p⟩
  show (if insB h y C = true then _ else _) = _
  rw [if_pos h1]
  unfold bnd
  rw [e]
  show (if 0 ≤ n ∧ n < 4611686018427387904 then rtn (W.int n) else bad) h' = _
  rw [if_pos hn]
  rfl
theorem ok_gSubO {w : W} {PG : SW → Hw → Prop} (q : Ok (o sw) h fun y h1 => Ok (k sw) h1 fun z h2 => insB h2 y C = true ∧ Ok (fn [y, z, w]) h2 fun _ h3 => PG sw h3) : Ok (gSubO C fn o k w sw) h PG := ok_bnd (q.imp fun y h1 q => ok_bnd (q.imp fun z h2 q => by
  obtain ⟨h3, u, h4, e, p⟩ := q
  exact ok_bnd ⟨u, h4, by simp only [if_pos h3]; exact e, ok_rtn p⟩))
theorem ok_dget {d y w : W} {kvs : List (Key × W)} {kk : Key} (h1 : dOf h d = some kvs) (h2 : keyW y = some kk) (h3 : valW kvs kk = some w) (p : P w h) : Ok (fDget d y) h P := ⟨w, h, by unfold fDget; rw [h1, h2]; simp only [h3], p⟩
theorem ok_din {neg : Bool} {d y : W} {kvs : List (Key × W)} {kk : Key} (h1 : dOf h d = some kvs) (h2 : keyW y = some kk) (p : P (.bl (neg != (valW kvs kk).isSome)) h) : Ok (fDin neg y d) h P := ⟨_, h, by unfold fDin; rw [h1, h2], p⟩
theorem ok_dget2 (q : Ok (a sw) h fun d h1 => (∃ kvs, dOf h1 d = some kvs) ∧ Ok (k sw) h1 fun y h2 => Ok (x sw) h2 fun z h3 => ∃ kvs kk, dOf h3 d = some kvs ∧ keyW y = some kk ∧ P ((valW kvs kk).getD z) h3) : Ok (mDget2 a k x sw) h P := ok_bnd (q.imp fun d h1 q => by
  obtain ⟨⟨kvs0, e0⟩, q⟩ := q
  have q2 : Ok (bnd (k sw) (fun y => bnd (x sw) fun z h => match dOf h d, keyW y with
    | some kvs, some k => EL.R.ok ((valW kvs k).getD z) h
    | _, _ => .no)) h1 P := ok_bnd (q.imp fun y h2 q => ok_bnd (q.imp fun z h3 q => by
      obtain ⟨kvs, kk, e1, e2, p⟩ := q
      exact ⟨_, h3, by simp only [e1, e2], p⟩))
  obtain ⟨w, h', e, p⟩ := q2
  exact ⟨w, h', by simp only [e0]; exact e, p⟩)
theorem ok_dput (q : Ok (v sw) h fun z h1 => Ok (a sw) h1 fun d h2 => Ok (k sw) h2 fun y h3 => ∃ p kvs kk, dMut h3 d = some (p, kvs) ∧ keyW y = some kk ∧ kvs.length < lim ∧ PF (.nx sw) (h3.set p (.dK (putKW kvs kk z)))) : Ok (sDput a k v sw) h PF := ok_bnd (q.imp fun z h1 q => ok_bnd (q.imp fun d h2 q => ok_bnd (q.imp fun y h3 q => by
  obtain ⟨p, kvs, kk, e1, e2, l, q⟩ := q
  exact ⟨_, _, by simp only [e1, e2, if_pos l], q⟩)))
theorem ok_lenD {d : W} {p : Nat} {kvs : List (Key × W)} (e : dMut h d = some (p, kvs)) (q : P (.int kvs.length) h) : Ok (bLenD [d]) h P := ⟨_, h, by
  show (match dMut h d with
    | some (_, kvs) => EL.R.ok (W.int kvs.length) h
    | none => EL.R.no) = _
  rw [e], q⟩
theorem ok_deq {neg : Bool} {y z : W} {ka kb : List (Key × W)} {va vb : List (Key × V)} (h1 : dOf h y = some ka) (h2 : dOf h z = some kb) (h3 : flKV ka = some va) (h4 : flKV kb = some vb) (p : P (.bl (neg != (va.length == vb.length && keqV vb va))) h) : Ok (fDeq neg y z) h P := ⟨_, h, by unfold fDeq; rw [h1, h2]; simp only [h3, h4], p⟩
theorem ok_lockG {α : Type} {bb : M α} {PA : α → Hw → Prop} {p : Nat} {kvs : List (Key × W)} (e : h[p]? = some (.dK kvs)) (q : Ok bb (h.set p (.dF kvs)) fun f h2 => ∃ kvs2, h2[p]? = some (.dF kvs2) ∧ PA f (h2.set p (.dK kvs2))) : Ok (lockG (some p) bb) h PA := by
  obtain ⟨f, h2, e2, kvs2, e3, q⟩ := q
  exact ⟨f, _, by unfold lockG; simp only [e, e2, e3], q⟩
theorem ok_lockS {sel : SW → Hw → Option Nat} {bs : MS} {p : Nat} {kvs : List (Key × W)} (es : sel sw h = some p) (e : h[p]? = some (.dK kvs)) (q : Ok (bs sw) (h.set p (.dF kvs)) fun f h2 => ∃ kvs2, h2[p]? = some (.dF kvs2) ∧ PF f (h2.set p (.dK kvs2))) : Ok (lockS sel bs sw) h PF := by
  obtain ⟨f, h', e', q'⟩ := ok_lockG e q
  exact ⟨f, h', by unfold lockS; rw [es]; exact e', q'⟩
theorem ok_lockE {sel : SW → Hw → Option Nat} {p : Nat} {kvs : List (Key × W)} (es : sel sw h = some p) (e : h[p]? = some (.dK kvs)) (q : Ok (b sw) (h.set p (.dF kvs)) fun f h2 => ∃ kvs2, h2[p]? = some (.dF kvs2) ∧ P f (h2.set p (.dK kvs2))) : Ok (lockE sel b sw) h P := by
  obtain ⟨f, h', e', q'⟩ := ok_lockG e q
  exact ⟨f, h', by unfold lockE; rw [es]; exact e', q'⟩
theorem ok_sortSet {y : W} {ys : List Str} (e : items h y = some (ys.map W.str)) (l : ys.length < 64) (p : P (.ref h.length) (h ++ [.lst ((sortS (dedK ys)).map W.str)])) : Ok (bSortSet [y]) h P := ⟨_, _, by
  show (match items h y with
    | some xs => (match wStrs xs with
      | some ys => if ys.length < 64 then alloc (.lst ((sortS (dedK ys)).map W.str)) h else EL.R.no
      | none => EL.R.no)
    | none => EL.R.no) = _
  rw [e]
  simp only [wStrs_map, if_pos l]
  rfl, p⟩
theorem ok_sortS {y : W} {ys : List Str} (e : items h y = some (ys.map W.str)) (l : ys.length < 64) (p : P (.ref h.length) (h ++ [.lst ((sortS ys).map W.str)])) : Ok (bSortS [y]) h P := ⟨_, _, by
  show (match items h y with
    | some xs => (match wStrs xs with
      | some ys => if ys.length < 64 then alloc (.lst ((sortS ys).map W.str)) h else EL.R.no
      | none => EL.R.no)
    | none => EL.R.no) = _
  rw [e]
  simp only [wStrs_map, if_pos l]
  rfl, p⟩
theorem ok_str1 {y : Str} (p : P (.str y) h) : Ok (bStr1 [.str y]) h P := ok_rtn p
theorem ok_isiT {tab : List (Str × Bool)} {q : Str × Bool} (e : Ok (a sw) h fun y h1 => (tab.find? fun q => insB h1 y q.1) = some q ∧ P (.bl q.2) h1) : Ok (mIsiC tab tys a sw) h P := ok_bnd (e.imp fun y h1 e => ⟨_, h1, by simp only [e.1], e.2⟩)
theorem ok_isiF {tab : List (Str × Bool)} (e : Ok (a sw) h fun y h1 => (tab.find? fun q => insB h1 y q.1) = none ∧ tyIn h1 y tys = true ∧ P (.bl false) h1) : Ok (mIsiC tab tys a sw) h P := ok_bnd (e.imp fun y h1 e => ⟨_, h1, by simp only [e.1, if_pos e.2.1], e.2.2⟩)
end
/-- a dict comprehension: Inv by the number of turns and what is made so far; the new dict stands at D -/
theorem ok_mDc {mi : MI} {g : MG} {t : MT} {mk mv : ME} {vs : List Nat} {sw : SW} {h : Hw} {P : W → Hw → Prop} (Inv : Nat → List (Key × W) → Hw → Prop) (D : Nat)
    (o : Ok (mi sw) h fun src h1 => D = h1.length ∧ Inv 0 [] (h1 ++ [.dK []]) ∧
      (∀ i acc h, i < src.2 → Inv i acc h → h[D]? = some (.dK acc) → ∃ x, src.1.item i h = some (some x) ∧ Ok (g x (wipeW sw vs)) h fun s h2 => Ok (t s) h2 fun b h3 => (b = true → Ok (mk s) h3 fun y h4 => Ok (mv s) h4 fun z h5 => ∃ kk, keyW y = some kk ∧ h5[D]? = some (.dK acc) ∧ acc.length < lim ∧ Inv (i + 1) (putKW acc kk z) (h5.set D (.dK (putKW acc kk z)))) ∧ (b = false → h3[D]? = some (.dK acc) ∧ Inv (i + 1) acc h3)) ∧
      (∀ acc h, Inv src.2 acc h → h[D]? = some (.dK acc) → src.1.item src.2 h = some none ∧ P (.ref D) h)) : Ok (mDc mi g t mk mv vs sw) h P := by
  refine ok_bnd (o.imp fun src h1 o => ?_)
  obtain ⟨eD, h0, hs, he⟩ := o
  have go : ∀ (n i : Nat) (acc : List (Key × W)) (h : Hw), i + n = src.2 → Inv i acc h → h[D]? = some (.dK acc) → ∀ m, src.2 < i + m → Ok (dcGo src.1 g t mk mv vs (.ref D) sw i m) h fun _ h' => P (.ref D) h' := by
    intro n
    induction n with
    | zero =>
      intro i acc h ei p hD m hm
      have ei' : i = src.2 := by omega
      subst ei'
      cases m with
      | zero => omega
      | succ m =>
        obtain ⟨e1, q⟩ := he acc h p hD
        exact ⟨(), h, by unfold dcGo; simp only [e1], q⟩
    | succ n ih =>
      intro i acc h ei p hD m hm
      cases m with
      | zero => omega
      | succ m =>
        obtain ⟨x, e1, o⟩ := hs i acc h (by omega) p hD
        have o' : Ok (bnd (g x (wipeW sw vs)) fun s => bnd (t s) fun b => if b = true then bnd (mk s) (fun y => bnd (mv s) fun z => bnd (putD (.ref D) y z) fun _ => dcGo src.1 g t mk mv vs (.ref D) sw (i + 1) m) else dcGo src.1 g t mk mv vs (.ref D) sw (i + 1) m) h fun _ h' => P (.ref D) h' := ok_bnd (o.imp fun s h2 o => ok_bnd (o.imp fun b h3 o => by
          cases b with
          | false =>
            rw [if_neg Bool.false_ne_true]
            obtain ⟨a1, a2⟩ := o.2 rfl
            exact ih (i + 1) acc h3 (by omega) a2 a1 m (by omega)
          | true =>
            rw [if_pos rfl]
            refine ok_bnd ((o.1 rfl).imp fun y h4 o => ok_bnd (o.imp fun z h5 o => ?_))
            obtain ⟨kk, a0, a1, a2, a3⟩ := o
            refine ok_bnd ⟨(), h5.set D (.dK (putKW acc kk z)), ?_, ?_⟩
            · unfold putD dMut
              simp only [a1, a0, if_pos a2]
            · refine ih (i + 1) (putKW acc kk z) _ (by omega) a3 ?_ m (by omega)
              rw [List.getElem?_set, if_pos rfl, if_pos (List.getElem?_eq_some_iff.mp a1).1]))
        obtain ⟨u, h2, e2, q⟩ := o'
        exact ⟨u, h2, by unfold dcGo; simp only [e1]; exact e2, q⟩
  subst eD
  refine ok_bnd ⟨.ref h1.length, h1 ++ [.dK []], rfl, ok_bnd ((go src.2 0 [] _ (by omega) h0 (by simp) (src.2 + 1) (by omega)).imp fun _ _ q => ok_rtn q)⟩
theorem ok_iDit {a : ME} {sw : SW} {h : Hw} {PI : Src × Nat → Hw → Prop} (o : Ok (a sw) h fun x h1 => ∃ p kvs, x = .ref p ∧ h1[p]? = some (.dF kvs) ∧ PI (.dit p, kvs.length) h1) : Ok (iDit a sw) h PI := ok_bnd (o.imp fun x h1 o => by
  obtain ⟨p, kvs, rfl, e, q⟩ := o
  exact ⟨_, h1, by simp only [e], q⟩)
theorem ok_iDky {a : ME} {sw : SW} {h : Hw} {PI : Src × Nat → Hw → Prop} (o : Ok (a sw) h fun x h1 => ∃ p kvs, x = .ref p ∧ h1[p]? = some (.dF kvs) ∧ PI (.dky p, kvs.length) h1) : Ok (iDky a sw) h PI := ok_bnd (o.imp fun x h1 o => by
  obtain ⟨p, kvs, rfl, e, q⟩ := o
  exact ⟨_, h1, by simp only [e], q⟩)
theorem ok_dictL {y : W} {xs : List W} {kvs : List (Key × W)} {h : Hw} {P : W → Hw → Prop} (e : items h y = some xs) (e2 : mapO pairW xs = some kvs) (p : P (.ref h.length) (h ++ [.dK (mergeKW [] kvs)])) : Ok (bDict [y]) h P := ⟨_, _, by
  show (match items h y with
    | some xs => (match mapO pairW xs with
      | some kvs => alloc (.dK (mergeKW [] kvs)) h
      | none => EL.R.no)
    | none => EL.R.no) = _
  rw [e]
  simp only [e2]
  rfl, p⟩
theorem ok_sortSetD {y : W} {kvs : List (Key × W)} {ys : List Str} {h : Hw} {P : W → Hw → Prop} (e : dOf h y = some kvs) (e2 : mapO txtK (kvs.map Prod.fst) = some ys) (l : ys.length < 31) (p : P (.ref h.length) (h ++ [.lst ((sortS (dedK ys)).map W.str)])) : Ok (bSortSetD [y]) h P := ⟨_, _, by
  show (match dOf h y with
    | some kvs => (match mapO txtK (kvs.map Prod.fst) with
      | some ys => if ys.length < 31 then alloc (.lst ((sortS (dedK ys)).map W.str)) h else EL.R.no
      | none => EL.R.no)
    | none => EL.R.no) = _
  rw [e]
  simp only [e2, if_pos l]
  rfl, p⟩
section
variable {a k v x : ME} {sw : SW} {h : Hw} {P : W → Hw → Prop}
theorem ok_dpop2 (q : Ok (a sw) h fun d h1 => (∃ kvs, dOf h1 d = some kvs) ∧ Ok (k sw) h1 fun y h2 => Ok (x sw) h2 fun z h3 => ∃ p kvs kk, dMut h3 d = some (p, kvs) ∧ keyW y = some kk ∧ (∀ w, valW kvs kk = some w → P w (h3.set p (.dK (dropKW kvs kk)))) ∧ (valW kvs kk = none → P z h3)) : Ok (mDpop2 a k x sw) h P := ok_bnd (q.imp fun d h1 q => by
  obtain ⟨⟨kvs0, e0⟩, q⟩ := q
  have q2 : Ok (bnd (k sw) (fun y => bnd (x sw) fun z h => match dMut h d, keyW y with
    | some (p, kvs), some k => (match valW kvs k with
      | some w => EL.R.ok w (h.set p (.dK (dropKW kvs k)))
      | none => .ok z h)
    | _, _ => .no)) h1 P := ok_bnd (q.imp fun y h2 q => ok_bnd (q.imp fun z h3 q => by
      obtain ⟨p, kvs, kk, e1, e2, p1, p2⟩ := q
      cases e3 : valW kvs kk with
      | none => exact ⟨z, h3, by simp only [e1, e2, e3], p2 e3⟩
      | some w => exact ⟨w, _, by simp only [e1, e2, e3], p1 w e3⟩))
  obtain ⟨w, h', e, p⟩ := q2
  exact ⟨w, h', by simp only [e0]; exact e, p⟩)
theorem ok_disp1 (q : Ok (k sw) (h ++ [.dK []]) fun y h1 => Ok (v sw) h1 fun z h2 => h2[h.length]? = some (.dK []) ∧ ∃ kk, keyW y = some kk ∧ P (.ref h.length) (h2.set h.length (.dK (mergeKW [] [(kk, z)])))) : Ok (mDisp1 k v sw) h P := ok_bnd ⟨.ref h.length, h ++ [.dK []], rfl, ok_bnd (q.imp fun y h1 q => ok_bnd (q.imp fun z h2 q => by
  obtain ⟨e, kk, e2, p⟩ := q
  refine ⟨.ref h.length, _, ?_, p⟩
  have e3 : dMut h2 (.ref h.length) = some (h.length, []) := by unfold dMut; simp only [e]
  simp only [e3, e2]))⟩
theorem ok_list1 {y : W} {xs : List W} (e : items h y = some xs) (p : P (.ref h.length) (h ++ [.lst xs])) : Ok (bList1 [y]) h P := ⟨_, _, by
  show (match items h y with
    | some xs => alloc (.lst xs) h
    | none => _) = _
  rw [e]
  rfl, p⟩
theorem ok_list1T {xs : List W} (p : P (.ref h.length) (h ++ [.lst xs])) : Ok (bList1 [.tup xs]) h P := ⟨_, _, rfl, p⟩
theorem ok_tup1 {y : W} {xs : List W} (e : items h y = some xs) (p : P (.tup xs) h) : Ok (bTup1 [y]) h P := ⟨_, h, by
  show (match items h y with
    | some xs => EL.R.ok (W.tup xs) h
    | none => _) = _
  rw [e], p⟩
theorem ok_tup1T {xs : List W} (p : P (.tup xs) h) : Ok (bTup1 [.tup xs]) h P := ⟨_, h, rfl, p⟩
theorem ok_iDvl {PI : Src × Nat → Hw → Prop} (o : Ok (a sw) h fun x h1 => ∃ p kvs, x = .ref p ∧ h1[p]? = some (.dF kvs) ∧ PI (.dvl p, kvs.length) h1) : Ok (iDvl a sw) h PI := ok_bnd (o.imp fun x h1 o => by
  obtain ⟨p, kvs, rfl, e, q⟩ := o
  exact ⟨_, h1, by simp only [e], q⟩)
theorem ok_iEnuL {PI : Src × Nat → Hw → Prop} (o : Ok (a sw) h fun x h1 => ∃ p xs, x = .ref p ∧ h1[p]? = some (.lst xs) ∧ PI (.enu p, xs.length) h1) : Ok (iEnu a sw) h PI := ok_bnd (o.imp fun x h1 o => by
  obtain ⟨p, xs, rfl, e, q⟩ := o
  exact ⟨_, h1, by simp only [e], q⟩)
end
end EL
/-! EL23: what raises. A piece of text either ends as the plain function does, or lets out the exception that the plain function tells: its class and the one value that it holds. -/
namespace EL
open PySem PySem.Spec L2
open PyProof.Rows hiding St

def errTab : List (Str × Str) := [("BadAllowance", "index"), ("BadPlace", "index"), ("BadCount", "part"), ("BadDate", "date"), ("BadMany", "many"), ("BadList", "value"), ("BadStock", "value"), ("BadAllowances", "value"), ("RingOfLists", "word"), ("BadRule", "what"), ("BadEvent", "event"), ("BadEvents", "index"), ("BadShare", "word"), ("BadWait", "wait"), ("BadEither", "index"), ("BadChoice", "choice"), ("BadNumber", "number"), ("BadMenu", "index"), ("BadText", "index"), ("BadPart", "part"), ("BadLine", "line"), ("Lacking", "few"), ("UnknownPlace", "word"), ("UnknownList", "word"), ("TooMany", "limit"), ("NothingToUndo", "index")]
def fieldOf (c : Str) : Str := (errTab.lookup c).getD "index"
def noX {α : Type} (m : SW → M α) : SW → M α := fun sw h => match m sw h with
  | .ok a h' => .ok a h'
  | _ => .no
def noG (g : MG) : MG := fun w sw h => match g w sw h with
  | .ok a h' => .ok a h'
  | _ => .no
theorem bnd_ex {α β : Type} {m : M α} {f : α → M β} {h h' : Hw} {c : Str} {v : W} (e : bnd m f h = .ex c v h') : m h = .ex c v h' ∨ ∃ a h1, m h = .ok a h1 ∧ f a h1 = .ex c v h' := by
  unfold bnd at e
  split at e
  · exact .inr ⟨_, _, by assumption, e⟩
  · cases e
    exact .inl (by assumption)
  · cases e
/-- what is wished of an exception -/
def XOut (K : PySem.W.Frag) (cm : Cm) (ρ : List Addr) (H : Hp) (E : XK) (c : Str) (v : W) (h' : Hw) : Prop :=
  ∀ ρ' H' d v', Le K ρ H ρ' H' → RelH K cm ρ' h' H' → H' d = some (.xd [(fieldOf c, v')]) → Rel K ρ' H' v v' → E (.ref (cm c)) (some d) H'
theorem XOut.le {K : PySem.W.Frag} {cm : Cm} {ρ ρ' : List Addr} {H H' : Hp} {E : XK} {c : Str} {v : W} {h' : Hw} (l : Le K ρ H ρ' H') (q : XOut K cm ρ H E c v h') : XOut K cm ρ' H' E c v h' :=
  fun ρ2 H2 d v' l2 => q ρ2 H2 d v' (l.trans l2)
def OutE (K : PySem.W.Frag) (cm : Cm) (E : XK) (ρ : List Addr) (H : Hp) (r : R W) (Q : VK) : Prop := match r with
  | .ok w h' => KE K cm ρ H w h' Q
  | .ex c v h' => XOut K cm ρ H E c v h'
  | .no => False
def OutT (K : PySem.W.Frag) (cm : Cm) (E : XK) (ρ : List Addr) (H : Hp) (r : R Bool) (Q : Bool → Hp → Prop) : Prop := match r with
  | .ok b h' => ∀ ρ' H', Le K ρ H ρ' H' → RelH K cm ρ' h' H' → Q b H'
  | .ex c v h' => XOut K cm ρ H E c v h'
  | .no => False
def OutS (K : PySem.W.Frag) (cm : Cm) (E : XK) (ρ : List Addr) (H : Hp) (r : R Fl) (D : Ends) : Prop := match r with
  | .ok f h' => FlK K cm ρ H f h' D
  | .ex c v h' => XOut K cm ρ H E c v h'
  | .no => False
def yE (K : PySem.W.Frag) (cm : Cm) (E : XK) (m : ME) : TE := fun σ H Q => ∃ ρ h sw, RelH K cm ρ h H ∧ RelS K ρ H sw σ ∧ OutE K cm E ρ H (m sw h) Q
def yT (K : PySem.W.Frag) (cm : Cm) (E : XK) (m : MT) : TT := fun σ H Q => ∃ ρ h sw, RelH K cm ρ h H ∧ RelS K ρ H sw σ ∧ OutT K cm E ρ H (m sw h) Q
def yS (K : PySem.W.Frag) (cm : Cm) (E : XK) (m : MS) : TS := fun D σ H => ∃ ρ h sw, RelH K cm ρ h H ∧ RelS K ρ H sw σ ∧ OutS K cm E ρ H (m sw h) D
abbrev YE (X : Cx) (cm : Cm) (E : XK) (e : Expr) (m : ME) : Prop := PE X e (yE X.K cm E m)
abbrev YT (X : Cx) (cm : Cm) (E : XK) (e : Expr) (m : MT) : Prop := PT X e (yT X.K cm E m)
abbrev YW (X : Cx) (cm : Cm) (E : XK) (e : Expr) (m : MT) : Prop := PW X e (yT X.K cm E m)
abbrev YS (X : Cx) (cm : Cm) (E : XK) (st : Stmt) (m : MS) : Prop := PS X st (yS X.K cm E m)
abbrev YSs (X : Cx) (cm : Cm) (E : XK) (st : List Stmt) (m : MS) : Prop := PSs X st (yS X.K cm E m)
/-- what may leave is taken around -/
abbrev Tak (X : Cx) (E : XK) : Prop := Takes X fun cls d _ H => E cls d H
section
variable {K : PySem.W.Frag} {cm : Cm} {E : XK} {ρ ρ' : List Addr} {H H' : Hp}
theorem OutS.le {r : R Fl} {D : Ends} (l : Le K ρ H ρ' H') (q : OutS K cm E ρ H r D) : OutS K cm E ρ' H' r D := by
  cases r with
  | ok f h' => exact FlK.le l q
  | ex c v h' => exact XOut.le l q
  | no => exact q
theorem OutE.le {r : R W} {Q : VK} (l : Le K ρ H ρ' H') (q : OutE K cm E ρ H r Q) : OutE K cm E ρ' H' r Q := by
  cases r with
  | ok w h' => exact fun ρ2 H2 v l2 => q ρ2 H2 v (l.trans l2)
  | ex c v h' => exact XOut.le l q
  | no => exact q
end
section
variable {X : Cx} {cm : Cm} {E : XK} {e a b c tg : Expr} {es : List Expr} {st : Stmt} {sts sts' : List Stmt} {ma mb mc : ME} {mr : MA} {mt mu : MT} {m m1 m2 : MS} {g : MG} {pos : Pos} {vs : List Nat}
theorem ye_of (r : RE X cm e ma) : YE X cm E e (noX ma) := peM r fun σ H Q q => by
  obtain ⟨ρ, h, sw, rh, rs, o⟩ := q
  unfold noX at o
  split at o
  · exact ⟨ρ, h, sw, _, _, rh, rs, by assumption, o⟩
  · exact o.elim
theorem yt_of (r : RT X cm e mt) : YT X cm E e (noX mt) := ptM r fun σ H Q q => by
  obtain ⟨ρ, h, sw, rh, rs, o⟩ := q
  unfold noX at o
  split at o
  · exact ⟨ρ, h, sw, _, _, rh, rs, by assumption, o⟩
  · exact o.elim
theorem ys_of (r : RS X cm st m) : YS X cm E st (noX m) := psM r fun D σ H q => by
  obtain ⟨ρ, h, sw, rh, rs, o⟩ := q
  unfold noX at o
  split at o
  · exact ⟨ρ, h, sw, _, _, rh, rs, by assumption, o⟩
  · exact o.elim
theorem yss_of (r : RSs X cm sts m) : YSs X cm E sts (noX m) := pssM r fun D σ H q => by
  obtain ⟨ρ, h, sw, rh, rs, o⟩ := q
  unfold noX at o
  split at o
  · exact ⟨ρ, h, sw, _, _, rh, rs, by assumption, o⟩
  · exact o.elim
theorem yss_nil : YSs X cm E [] sNil := by
  refine pssM pss_nil fun D σ H q => ?_
  obtain ⟨ρ, h, sw, rh, rs, o⟩ := q
  exact o ρ H σ .refl rh rs
theorem yss_cons (h1 : YS X cm E st m1) (h2 : YSs X cm E sts m2) : YSs X cm E (st :: sts) (sSeq m1 m2) := by
  refine pssM (pss_cons h1 h2) fun D σ H q => ?_
  obtain ⟨ρ, h, sw, rh, rs, o⟩ := q
  refine ⟨ρ, h, sw, rh, rs, ?_⟩
  unfold sSeq bnd at o
  cases e1 : m1 sw h with
  | no => rw [e1] at o; exact o
  | ex c v h' => rw [e1] at o; exact o
  | ok f h1 =>
    rw [e1] at o
    cases f with
    | nx s => exact fun ρ1 H1 σ1 l1 rh1 rs1 => ⟨ρ1, h1, s, rh1, rs1, OutS.le l1 o⟩
    | rt w => exact o
    | bk s => exact o
    | ct s => exact o
theorem yss_one (h1 : YS X cm E st m1) : YSs X cm E [st] m1 := pss_one h1
theorem ys_if (hc : YT X cm E c mt) (ha : YSs X cm E sts m1) (hb : YSs X cm E sts' m2) : YS X cm E (.If c sts sts' pos) (sIf mt m1 m2) := by
  refine psM (ps_if hc ha hb) fun D σ H q => ?_
  obtain ⟨ρ, h, sw, rh, rs, o⟩ := q
  refine ⟨ρ, h, sw, rh, rs, ?_⟩
  unfold sIf bnd at o
  cases e1 : mt sw h with
  | no => rw [e1] at o; exact o
  | ex c v h' => rw [e1] at o; exact o
  | ok x h1 =>
    rw [e1] at o
    intro ρ1 H1 l1 rh1
    cases x with
    | true => exact iteT ⟨ρ1, h1, sw, rh1, rs.mono l1, OutS.le l1 o⟩
    | false => exact iteF ⟨ρ1, h1, sw, rh1, rs.mono l1, OutS.le l1 o⟩
theorem ys_ret (ha : YE X cm E e ma) : YS X cm E (.Return (some e) pos) (sRet ma) := by
  refine psM (ps_ret ha) fun D σ H q => ?_
  obtain ⟨ρ, h, sw, rh, rs, o⟩ := q
  refine ⟨ρ, h, sw, rh, rs, ?_⟩
  unfold sRet bnd at o
  cases e1 : ma sw h with
  | no => rw [e1] at o; exact o
  | ex c v h' => rw [e1] at o; exact o
  | ok x h1 => rw [e1] at o; exact o
theorem ys_expr (ha : YE X cm E e ma) (hs : swapsWith e none pos.line X.env = pure false := by rfl) : YS X cm E (.Expr e pos) (sExp ma) := by
  refine psM (ps_expr ha hs) fun D σ H q => ?_
  obtain ⟨ρ, h, sw, rh, rs, o⟩ := q
  refine ⟨ρ, h, sw, rh, rs, ?_⟩
  unfold sExp bnd at o
  cases e1 : ma sw h with
  | no => rw [e1] at o; exact o
  | ex c v h' => rw [e1] at o; exact o
  | ok x h1 =>
    rw [e1] at o
    exact fun ρ1 H1 v l1 rh1 _ => o ρ1 H1 σ l1 rh1 (rs.mono l1)
theorem ys_asg (he : YE X cm E e ma) (hg : RG X cm vs tg g) (hs : swapsWithSole [tg] e pos.line X.env = pure false := by rfl) (hw : swappedStores [tg] e X.env = pure none := by rfl)
    (h1 : (assignEach [tg] X.env).map (·.2) = [assign tg X.env] := by rfl) : YS X cm E (.Assign [tg] e pos) (sAsg (noG g) ma) := by
  refine psM (ps_asg he hg hs hw h1) fun D σ H q => ?_
  obtain ⟨ρ, h, sw, rh, rs, o⟩ := q
  refine ⟨ρ, h, sw, rh, rs, ?_⟩
  unfold sAsg bnd at o
  cases e1 : ma sw h with
  | no => rw [e1] at o; exact o
  | ex c v h' => rw [e1] at o; exact o
  | ok x h1 =>
    rw [e1] at o
    intro ρ1 H1 v l1 rh1 rv
    have e2 : noG g x sw h1 = (match g x sw h1 with
      | .ok a h' => .ok a h'
      | _ => .no) := rfl
    cases e3 : g x sw h1 with
    | no => rw [e3] at e2; simp only [e2] at o; exact o.elim
    | ex c v h' => rw [e3] at e2; simp only [e2] at o; exact o.elim
    | ok s h2 =>
      rw [e3] at e2
      simp only [e2] at o
      exact ⟨ρ1, h1, sw, x, s, h2, rh1, rs.mono l1, rv, e3, fun ρ2 H2 σ2 _ l2 => o ρ2 H2 σ2 (l1.trans l2)⟩
theorem yt_not (ha : YT X cm E a mt) : YT X cm E (.UnaryOp .Not a pos) (tNot mt) := by
  refine ptM (pt_not ha) fun σ H Q q => ?_
  obtain ⟨ρ, h, sw, rh, rs, o⟩ := q
  refine ⟨ρ, h, sw, rh, rs, ?_⟩
  unfold tNot bnd at o
  cases e1 : mt sw h with
  | no => rw [e1] at o; exact o
  | ex c v h' => rw [e1] at o; exact o
  | ok x h1 => rw [e1] at o; exact fun ρ1 H1 l1 rh1 => o ρ1 H1 l1 rh1
end
end EL
/-! EL24: defs that raise, and calls of them. -/
namespace EL
open PySem PySem.Spec L2
open PyProof.Rows hiding St

/-- a def promises: it does what m does, or raises as m does -/
def spY (K : PySem.W.Frag) (cm : Cm) (m : List W → M W) : Sp := fun vs H Q E => ∃ ρ h ws, RelH K cm ρ h H ∧ Rels K ρ H ws vs ∧ OutE K cm E ρ H (m ws h) Q
abbrev FnY (P : Program) (w : World) (K : PySem.W.Frag) (mg : Str → Option Value) (base : Heap) (cm : Cm) (k : Nat) (f : Addr) (fd : FuncData) (ps : List Str) (m : List W → M W) : Prop := FnOk P w K mg base (L2.CX P w) k f fd ps (spY K cm m)
/-- where it raises nothing, it is a def as the others -/
theorem FnOk.calm {P : Program} {w : World} {K : PySem.W.Frag} {mg : Str → Option Value} {base : Heap} {cm : Cm} {k : Nat} {f : Addr} {fd : FuncData} {ps : List Str} {m : List W → M W} (F : FnY P w K mg base cm k f fd ps m) : FnOk P w K mg base CX0 k f fd ps (spM K cm m) := by
  have up : ∀ {vs H Q} {E : XK}, spM K cm m vs H Q E → spY K cm m vs H Q fun _ _ _ => False := fun {vs H Q E} q => by
    obtain ⟨ρ, h, ws, w, h', rh, rs, e, k⟩ := q
    refine ⟨ρ, h, ws, rh, rs, ?_⟩
    rw [e]
    exact k
  refine ⟨fun vs H Q E q => F.len vs H Q _ (up q), fun A outer s H args us vs Q E hr he hb hv q => ?_⟩
  refine codeAny_mono (F.run A outer s H args us vs Q _ hr he hb hv (up q)) fun r s' z => ?_
  cases r with
  | ok fl => cases fl <;> exact z
  | error u =>
    obtain ⟨_, _, _, _, _, _, _, _, _, _, _, _, no⟩ := (show L2.CX P w outer H s (fun _ _ _ => False) u s' from z)
    exact no.elim
section
variable {P : Program} {w : World} {K : PySem.W.Frag} {mg : Str → Option Value} {base : Heap}
theorem efnY {x qual : Str} {st : Stmt} {f : Addr} {fd : FuncData} {N ps : List Str} {k : Nat} {cm : Cm} {m : MS} (F : Fun K x qual st f fd) (S : FnScope N ps (defScope st))
    (hb : ∀ (cdv : Value) (A : Around) (outer : List Env) (s : Shared) (H : Hp) (E : XK), Room k (A.deeper (envOfC qual (defScope st) s.heap.objs.size f cdv)) → Tak (cxOf (L2.CX P w) P w K mg base N qual (defScope st) f cdv A outer s H E) E →
      YSs (cxOf (L2.CX P w) P w K mg base N qual (defScope st) f cdv A outer s H E) cm E (defBody st) m) :
    FnY P w K mg base cm (k + 1) f fd ps (mFn ps.length N.length m) := by
  refine F.okX S (fun vs H Q E h => ?_) (fun cdv A outer s H vs Q E hr h => ?_)
  · obtain ⟨ρ, h, ws, rh, rs, o⟩ := h
    unfold mFn at o
    split at o
    · rw [← rs.length]
      assumption
    · exact o.elim
  · refine ⟨_, hb cdv A outer s H E hr (takes_of rfl rfl rfl rfl), ?_⟩
    obtain ⟨ρ, h, ws, rh, rs, o⟩ := h
    unfold mFn at o
    split at o
    · rename_i hl
      refine ⟨ρ, h, ws.map some ++ List.replicate (N.length - ps.length) none, rh, ?_, ?_⟩
      · have q := relS_start (N := N) rs
        rw [hl] at q
        exact q
      · unfold bnd at o
        cases e1 : m (ws.map some ++ List.replicate (N.length - ps.length) none) h with
        | no => rw [e1] at o; exact o
        | ex c v h' => rw [e1] at o; exact o
        | ok fl h1 =>
          rw [e1] at o
          cases fl with
          | rt w => exact o
          | nx s => exact fun ρ' H' σ' l rh' _ => o ρ' H' .non l rh' .non
          | bk s => exact o.elim
          | ct s => exact o.elim
    · exact o.elim
end
theorem nx_out {α : Type} {m : SW → M α} {f : α → M W} {K : PySem.W.Frag} {cm : Cm} {E : XK} {ρ : List Addr} {H : Hp} {Q : VK} {sw : SW} {h : Hw} (o : OutE K cm E ρ H (bnd (noX m sw) f h) Q) : ∃ a h1, m sw h = .ok a h1 ∧ OutE K cm E ρ H (f a h1) Q := by
  unfold bnd noX at o
  cases e1 : m sw h with
  | no => rw [e1] at o; exact o.elim
  | ex c v h' => rw [e1] at o; exact o.elim
  | ok a h1 => rw [e1] at o; exact ⟨a, h1, rfl, o⟩
theorem of_bnd {α : Type} {m : M α} {f : α → M W} {K : PySem.W.Frag} {cm : Cm} {E : XK} {ρ : List Addr} {H : Hp} {Q : VK} {h h1 : Hw} {a : α} (e : m h = .ok a h1) (o : OutE K cm E ρ H (bnd m f h) Q) : OutE K cm E ρ H (f a h1) Q := by
  unfold bnd at o
  rw [e] at o
  exact o
section
variable {X : Cx} {cm : Cm} {E : XK} {e a b c : Expr} {es rest : List Expr} {ma mb mc mo : ME} {mr : MA} {pos p apos : Pos} {k : Nat} {f : Addr} {fd : FuncData} {ps : List Str} {x : Str} {m : List W → M W} {C n : Str} {o : Expr} {dws : List W} {dvs : List V} {ds : List Value}
theorem tak_pass (tk : Tak X E) : Passes (L2.CX X.prog X.w) X E := passes_call tk fun _ _ _ _ h => h
theorem ye_call (F : FnY X.prog X.w X.K X.mg X.base cm k f fd ps m) (hr : Room k X.A) (hm : X.mg x = some (.ref f)) (hk : PySem.W.keepIn X.K (.ref f) = true) (hb : Binds X.K fd ps []) (ha : RA X cm (e :: es) mr) (tk : Tak X E) (hg : Gl X x := by rfl)
    (hdb : (x == ("__debug__" : Str)) = false := by decide) (he : starEach (e :: es) X.env = (false, eval e X.env) :: starEach es X.env := by rfl) (hpl : (backTo pos (starEach es X.env)).any (·.1) = false := by rfl) : YE X cm E (.Call (.Name x p) (e :: es) [] pos) (mCall m (noX mr)) := by
  refine peM (pe_call F hr hg hm hk hb .nil (tak_pass tk) ha hdb he hpl) fun σ H Q q => ?_
  obtain ⟨ρ, h, sw, rh, rs, o⟩ := q
  obtain ⟨ws, h1, e1, o⟩ := nx_out o
  refine ⟨ρ, h, sw, ws, h1, rh, rs, e1, fun ρ1 H1 vs l1 rh1 rx => ?_⟩
  exact ⟨ρ1, h1, ws, rh1, by rw [List.append_nil]; exact rx, OutE.le l1 o⟩
theorem ymeth_of {σ : St} {H : Hp} {Q : VK} (hd : ∀ ρ H, Rels X.K ρ H dws dvs) (q : yE X.K cm E (mMeth C n m dws (noX mo) (noX mr)) σ H Q) : tMeth (cm C) n (spY X.K cm m) dvs E (tE X.K cm mo) (tA X.K cm mr) σ H Q := by
  obtain ⟨ρ, h, sw, rh, rs, o⟩ := q
  obtain ⟨x, h1, e1, o⟩ := nx_out o
  refine ⟨ρ, h, sw, x, h1, rh, rs, e1, fun ρ1 H1 x' l1 rh1 rx => ?_⟩
  cases e2 : isIns C n x h1 with
  | no => unfold bnd at o; rw [e2] at o; exact o.elim
  | ex c v h' =>
    exfalso
    unfold isIns at e2
    split at e2
    · split at e2
      · split at e2 <;> cases e2
      · cases e2
    · cases e2
  | ok u h2 =>
    have o2 := of_bnd e2 o
    clear o
    obtain ⟨rfl, q⟩ := isIns_inv e2
    obtain ⟨pp, a, dx, fs, fv, rfl, rfl, hp, eo, ea, ek, rl, hl⟩ := ins_of rh1 rx q
    obtain ⟨ws, h3, e3, o⟩ := nx_out o2
    refine ⟨a, dx, fv, rfl, ea, ?_, ρ1, _, sw, ws, h3, rh1, rs.mono l1, e3, fun ρ2 H2 vs l2 rh2 rv => ?_⟩
    · exact lk_none ek hl
    · exact ⟨ρ2, h3, _, rh2, .cons (.ref (pre_get l2.pre hp)) (rv.append (hd _ _)), OutE.le (l1.trans l2) o⟩
theorem ye_meth {pl : Sem Bool} (ck : Cls X.K (cm C)) (me : Meth X.K (cm C) n f) (F : FnY X.prog X.w X.K X.mg X.base cm k f fd ps m) (hr : Room k X.A)
    (hb : Binds X.K fd ps ds) (hd : Vals dvs ds) (hdw : ∀ ρ H, Rels X.K ρ H dws dvs) (ho : RE X cm o mo) (ha : RA X cm (e :: es) mr) (tk : Tak X E)
    (hst : starEach (e :: es) X.env = (false, eval e X.env) :: starEach es X.env := by rfl) (hpl : (backTo pos (starEach es X.env)).any (·.1) = false := by rfl)
    (ht : eval (.Call (.Attribute o n apos) (e :: es) [] pos) X.env = (do
      let ov ← eval o X.env
      standAt apos.atName
      let (f, first) ← holding [ov] (getMethod ov n pl)
      callWith pos f first (backTo pos (starEach (e :: es) X.env)) (backToKw pos (keywordEach [] X.env))) := by rfl) : YE X cm E (.Call (.Attribute o n apos) (e :: es) [] pos) (mMeth C n m dws (noX mo) (noX mr)) :=
  peM (pe_meth ho ck me F hr hb hd (tak_pass tk) ha hst hpl ht) fun σ H Q q => ymeth_of hdw q
theorem ymake_of {σ : St} {H : Hp} {Q : VK} (hd : ∀ ρ H, Rels X.K ρ H dws dvs) (q : yE X.K cm E (mMake C m dws (noX mr)) σ H Q) : tMake (cm C) (spY X.K cm m) dvs E (tA X.K cm mr) σ H Q := by
  obtain ⟨ρ, h, sw, rh, rs, o⟩ := q
  obtain ⟨ws, h1, e1, o⟩ := nx_out o
  refine ⟨ρ, h, sw, ws, h1, rh, rs, e1, fun ρ1 H1 vs l1 rh1 rv => ?_⟩
  intro x dx nx nd hne
  have la : Le X.K ρ1 H1 ρ1 (upd H1 dx (.own x)) := le_new nd
  have n2 : upd H1 dx (.own x) x = none := (upd_ne (Ne.symm hne)).trans nx
  have lb : Le X.K ρ1 (upd H1 dx (.own x)) (ρ1 ++ [x]) (upd (upd H1 dx (.own x)) x (.ins (cm C) dx [])) := (le_new n2).trans (le_app x)
  have rh3 := (rh1.new nd).push n2 (u := .ins (cm C) dx []) (o := .ins C []) ⟨dx, [], upd_same, rfl, .nil⟩
  have o := of_bnd (m := alloc (.ins C [])) (a := W.ref h1.length) (h1 := h1 ++ [.ins C []]) rfl o
  refine ⟨ρ1 ++ [x], _, _, rh3, .cons (.ref (push_at rh1)) (((rv.mono la).mono lb).append (hd _ _)), ?_⟩
  have ll := l1.trans (la.trans lb)
  unfold bnd at o
  cases e3 : m (.ref h1.length :: (ws ++ dws)) (h1 ++ [.ins C []]) with
  | no => rw [e3] at o; exact o.elim
  | ex c v h' => rw [e3] at o; exact XOut.le ll o
  | ok u h3 =>
    rw [e3] at o
    intro ρ4 H4 v l4 rh4 rv4
    cases u with
    | non =>
      cases rv4
      exact ⟨rfl, o ρ4 H4 _ (ll.trans l4) rh4 (.ref (pre_get l4.pre (push_at rh1)))⟩
    | _ => exact o.elim
theorem ye_make {x : Str} (Mk : L2.Mk X.K (cm C) f) (F : FnY X.prog X.w X.K X.mg X.base cm k f fd ps m) (hr : Room (k + 1) X.A) (hm : X.mg x = some (.ref (cm C)))
    (hb : Binds X.K fd ps ds) (hd : Vals dvs ds) (hdw : ∀ ρ H, Rels X.K ρ H dws dvs) (ha : RA X cm (e :: es) mr) (tk : Tak X E) (hg : Gl X x := by rfl) (hdb : (x == ("__debug__" : Str)) = false := by decide) (he : starEach (e :: es) X.env = (false, eval e X.env) :: starEach es X.env := by rfl)
    (hpl : (backTo pos (starEach es X.env)).any (·.1) = false := by rfl) : YE X cm E (.Call (.Name x p) (e :: es) [] pos) (mMake C m dws (noX mr)) :=
  peM (pe_make Mk F hr hg hm hb hd (tak_pass tk) ha hdb he hpl) fun σ H Q q => ymake_of hdw q
end
end EL
/-! EL25: loops, locked walks, own operators, items: what raises in them. -/
namespace EL
open PySem PySem.Spec L2
open PyProof.Rows hiding St

section
variable {X : Cx} {cm : Cm} {E : XK} {tg it : Expr} {st : Stmt} {body : List Stmt} {mi : MI} {g : MG} {m : MS} {pos : Pos} {vs : List Nat}
theorem ys_for (hp : PassesOwn (model X.prog X.w) X.A X.env X.xe) (hc : X.calm = true) (hi : RI X cm tg it mi) (hg : RG X cm vs tg g) (hb : YSs X cm E body m) (hs : ∀ x, foldedSetIterable it X.env x = pure x := by intro _; rfl) : YS X cm E (.For tg it body [] pos) (sForI (noX mi) (noG g) m) := by
  refine psM (ps_for hp hc hi hg hb hs) fun D σ H q => ?_
  obtain ⟨ρ, h, sw, rh, rs, o⟩ := q
  have start : ∃ src h0, mi sw h = .ok src h0 ∧ OutS X.K cm E ρ H (sFor src.1 (noG g) m 0 (src.2 + 1) sw h0) D := by
    unfold sForI bnd noX at o
    cases e1 : mi sw h with
    | no => rw [e1] at o; exact o.elim
    | ex c v h' => rw [e1] at o; exact o.elim
    | ok src h0 => rw [e1] at o; exact ⟨src, h0, rfl, o⟩
  obtain ⟨src, h0, e0, o0⟩ := start
  refine ⟨ρ, h, sw, src, h0, rh, rs, e0, fun ρ0 H0 J l0 rh0 rj => ?_⟩
  refine ⟨fun i n σ1 H1 => ∃ ρ1 h1 sw1, RelH X.K cm ρ1 h1 H1 ∧ RelS X.K ρ1 H1 sw1 σ1 ∧ SrcR X.K ρ1 H1 src.1 J ∧ OutS X.K cm E ρ1 H1 (sFor src.1 (noG g) m i n sw1 h1) D, ⟨_, ρ0, h0, sw, rh0, rs.mono l0, rj, OutS.le l0 o0⟩, fun i n σ1 H1 z => ?_⟩
  obtain ⟨ρ1, h1, sw1, rh1, rs1, rj1, o1⟩ := z
  cases n with
  | zero => exact o1.elim
  | succ n =>
    unfold sFor at o1
    cases he : src.1.item i h1 with
    | none => rw [he] at o1; exact o1.elim
    | some y =>
      rw [he] at o1
      cases y with
      | none => exact .inl ⟨src_stop rh1 rj1 he, o1 ρ1 H1 σ1 .refl rh1 rs1⟩
      | some x =>
        obtain ⟨go, yl⟩ := src_go rh1 rj1 he
        refine .inr ⟨go, fun σ3 H3 => ∃ ρ3 h3 sw3, RelH X.K cm ρ3 h3 H3 ∧ RelS X.K ρ3 H3 sw3 σ3 ∧ SrcR X.K ρ3 H3 src.1 J ∧ OutS X.K cm E ρ3 H3 (sFor src.1 (noG g) m (i + 1) n sw3 h3) D, fun σ3 H3 z => ⟨n, Nat.lt_succ_self n, z⟩, fun v H' y => ?_⟩
        obtain ⟨ly, rhy, rv⟩ := yl v H' y
        have step : ∃ s2 h2, g x sw1 h1 = .ok s2 h2 ∧ OutS X.K cm E ρ1 H1 (bnd (m s2) (fun f => match f with
            | .nx s => sFor src.1 (noG g) m (i + 1) n s
            | .ct s => sFor src.1 (noG g) m (i + 1) n s
            | .bk s => rtn (.nx s)
            | .rt w => rtn (.rt w)) h2) D := by
          unfold bnd noG at o1
          cases e1 : g x sw1 h1 with
          | no => simp only [e1] at o1; exact o1.elim
          | ex c v h' => simp only [e1] at o1; exact o1.elim
          | ok s2 h2 => simp only [e1] at o1; exact ⟨s2, h2, rfl, o1⟩
        obtain ⟨s2, h2, e2, o2⟩ := step
        refine ⟨ρ1, h1, sw1, x, s2, h2, rhy, rs1.mono ly, rv, e2, fun ρ2 H2 σ2 _ l2 rh2 rs2 => ?_⟩
        have ll := ly.trans l2
        refine ⟨ρ2, h2, s2, rh2, rs2, ?_⟩
        have o3 := OutS.le ll o2
        have rj2 := (rj1.mono ly).mono l2
        unfold bnd at o3
        cases e3 : m s2 h2 with
        | no => rw [e3] at o3; exact o3
        | ex c v h' => rw [e3] at o3; exact o3
        | ok f1 h3 =>
          rw [e3] at o3
          cases f1 with
          | nx s => exact fun ρ3 H3 σ3 l3 rh3 rs3 => ⟨ρ3, h3, s, rh3, rs3, rj2.mono l3, OutS.le l3 o3⟩
          | ct s => exact fun ρ3 H3 σ3 l3 rh3 rs3 => ⟨ρ3, h3, s, rh3, rs3, rj2.mono l3, OutS.le l3 o3⟩
          | bk s => exact fun ρ3 H3 σ3 l3 rh3 rs3 => o3 ρ3 H3 σ3 l3 rh3 rs3
          | rt w => exact fun ρ3 H3 v l3 rh3 rv => o3 ρ3 H3 v l3 rh3 rv
/-- a dict that is walked is free again when an exception leaves -/
def lockY (sel : SW → Hw → Option Nat) (b : MS) : MS := fun sw h => match sel sw h with
  | some p => (match h[p]? with
    | some (.dK kvs) => (match b sw (h.set p (.dF kvs)) with
      | .ok f h2 => (match h2[p]? with
        | some (.dF kvs2) => .ok f (h2.set p (.dK kvs2))
        | _ => .no)
      | .ex c v h2 => (match h2[p]? with
        | some (.dF kvs2) => .ex c v (h2.set p (.dK kvs2))
        | _ => .no)
      | .no => .no)
    | _ => .no)
  | none => .no
def free (a : Addr) (od : Obj) (u : HO) (E : XK) : XK := fun cls d H => H a = some (.frz od u) ∧ E cls d (upd H a u)
theorem tak_free {a : Addr} {od : Obj} {u : HO} (hn : ∀ o' u', X.H_0 a ≠ some (.frz o' u')) (tk : Tak X E) : Tak X (free a od u E) := fun v s' q => by
  obtain ⟨b, B, sI, pins, σ, H, cls, d, rfl, I, nb, up, sky, na, os, ag, w⟩ := q
  have neb : b ≠ a := fun z => by
    have w1 := w.1
    rw [← z, na] at w1
    cases w1
  exact tk _ _ ⟨b, B, sI, pins, σ, upd H a u, cls, d, rfl, I.unlock w.1 hn, nb, up, sky, by rw [upd_ne neb]; exact na, os, ag, w.2⟩
theorem ys_lock {sel : SW → Hw → Option Nat} (tk : Tak X E) (hb : ∀ E', Tak X E' → YS X cm E' st m) : YS X cm E st (lockY sel m) := by
  refine ⟨fun pins s σ H D I q => ?_⟩
  obtain ⟨ρ, h, sw, rh, rs, o⟩ := q
  unfold lockY at o
  split at o
  · rename_i p _
    split at o
    · rename_i kvs eo
      have hl : p < ρ.length := by rw [rh.len]; exact (List.getElem?_eq_some_iff.mp eo).1
      have hp : ρ[p]? = some ρ[p] := List.getElem?_eq_getElem hl
      obtain ⟨kv, ea, ek, rl⟩ := rh.obj p _ _ eo hp
      obtain ⟨od, I1⟩ := I.lock ea trivial
      have hn := I.nofrz ea trivial
      have lu : Le X.K ρ H ρ (upd H ρ[p] (.frz od (.dK kv))) := le_mut ea trivial
      have key : ∀ ρ' H' h2 kvs2, h2[p]? = some (.dF kvs2) → Le X.K ρ (upd H ρ[p] (.frz od (.dK kv))) ρ' H' → RelH X.K cm ρ' h2 H' → H' ρ[p] = some (.frz od (.dK kv)) ∧ Le X.K ρ H ρ' (upd H' ρ[p] (.dK kv)) ∧ RelH X.K cm ρ' (h2.set p (.dK kvs2)) (upd H' ρ[p] (.dK kv)) ∧ Le0 X.K ρ' H' ρ' (upd H' ρ[p] (.dK kv)) := fun ρ' H' h2 kvs2 eo2 l' rh' => by
        have ed := l'.fz _ _ _ upd_same
        exact ⟨ed, lock_le ea l', unlock_rel rh' (pre_get l'.pre hp) ed eo2, le_unlock ed⟩
      refine thn ((hb _ (tak_free (od := od) (u := .dK kv) hn tk)).run pins s σ _ ⟨fun σ' H' => H' ρ[p] = some (.frz od (.dK kv)) ∧ D.nx σ' (upd H' ρ[p] (.dK kv)), fun v H' => H' ρ[p] = some (.frz od (.dK kv)) ∧ D.rt v (upd H' ρ[p] (.dK kv)), fun σ' H' => H' ρ[p] = some (.frz od (.dK kv)) ∧ D.bk σ' (upd H' ρ[p] (.dK kv)), fun σ' H' => H' ρ[p] = some (.frz od (.dK kv)) ∧ D.ct σ' (upd H' ρ[p] (.dK kv))⟩ I1
        ⟨ρ, _, sw, RelH.set (o := .dF kvs) rh hp ea trivial ⟨od, kv, upd_same, ek, rl.mono lu⟩, rs.mono lu, ?_⟩) fun f s1 q => ?_
      · cases eb : m sw (h.set p (.dF kvs)) with
        | no => rw [eb] at o; exact o
        | ex c v h2 =>
          rw [eb] at o
          dsimp only at o
          split at o
          · rename_i kvs2 eo2
            intro ρ' H' d v' l' rh' ed' rv
            obtain ⟨a1, a2, a3, a4⟩ := key ρ' H' h2 kvs2 eo2 l' rh'
            have ned : d ≠ ρ[p] := fun z => by
              rw [z, a1] at ed'
              cases ed'
            exact ⟨a1, o ρ' _ d v' a2 a3 (by rw [upd_ne ned]; exact ed') (rv.mono0 a4)⟩
          · exact o.elim
        | ok f h2 =>
          rw [eb] at o
          dsimp only at o
          split at o
          · rename_i kvs2 eo2
            cases f with
            | nx s => exact fun ρ' H' σ' l' rh' rs' => let ⟨a1, a2, a3, a4⟩ := key ρ' H' h2 kvs2 eo2 l' rh'; ⟨a1, o ρ' _ σ' a2 a3 (rs'.mono0 a4)⟩
            | bk s => exact fun ρ' H' σ' l' rh' rs' => let ⟨a1, a2, a3, a4⟩ := key ρ' H' h2 kvs2 eo2 l' rh'; ⟨a1, o ρ' _ σ' a2 a3 (rs'.mono0 a4)⟩
            | ct s => exact fun ρ' H' σ' l' rh' rs' => let ⟨a1, a2, a3, a4⟩ := key ρ' H' h2 kvs2 eo2 l' rh'; ⟨a1, o ρ' _ σ' a2 a3 (rs'.mono0 a4)⟩
            | rt w => exact fun ρ' H' v l' rh' rv => let ⟨a1, a2, a3, a4⟩ := key ρ' H' h2 kvs2 eo2 l' rh'; ⟨a1, o ρ' _ v a2 a3 (rv.mono0 a4)⟩
          · exact o.elim
      · cases f with
        | next => obtain ⟨σ', H', I2, e, z⟩ := q; exact ⟨σ', _, I2.unlock e hn, z⟩
        | brk => obtain ⟨σ', H', I2, e, z⟩ := q; exact ⟨σ', _, I2.unlock e hn, z⟩
        | cont => obtain ⟨σ', H', I2, e, z⟩ := q; exact ⟨σ', _, I2.unlock e hn, z⟩
        | ret v => obtain ⟨x, σ', H', I2, r, e, z⟩ := q; exact ⟨x, σ', _, I2.unlock e hn, r, z⟩
    · exact o.elim
  · exact o.elim
end
end EL
/-! EL26: own operators and items that raise; raise itself. -/
namespace EL
open PySem PySem.Spec L2
open PyProof.Rows hiding St

theorem runY {X : Cx} {k : Nat} {f : Addr} {fd : FuncData} {ps : List Str} {sp : Sp} {A : Around} {pins : List (Addr × Obj)} {σ : St} {H : Hp} {s : Shared} {Q : VK} {us : List Value} {vs : List V} {E : XK} (F : FnOk X.prog X.w X.K X.mg X.base (L2.CX X.prog X.w) k f fd ps sp) (sb : Sub X k A) (hb : Binds X.K fd ps [])
    (tk : Tak X E) (I : Inv X pins σ H s) (r : Vals vs us) (h : sp vs H Q E) : wpAny (model X.prog X.w) A (call (.ref f) us) (EP X pins σ Q) X.xe s := by
  have len := F.len _ _ _ _ h
  have env : Env0 X.prog X.w X.K X.mg X.base A X.stack s H := by
    have z := I.env0
    exact ⟨sb.fr ▸ z.frames, z.mod, z.bs, z.bsz, z.funs, z.frf, z.hok, z.bare⟩
  have all : BindsTo s fd ⟨us, []⟩ (ps.zip us) := by
    have z := hb s us I.kIn (by rw [List.append_nil, ← r.length]; exact len)
    rw [List.append_nil] at z
    exact z
  refine wpAny_call (codeAny_mono (F.run A X.stack s H _ us vs Q E sb.room env all r h) fun back s' z => ?_)
  rcases back with bad | fl
  · exact tak_pass tk pins σ H s bad s' I z
  · cases fl with
    | ret u => exact I.after z
    | _ => exact z.elim
/-- what a class must say of an operator beside another kind of value -/
structure BinF (K : PySem.W.Frag) (C : Addr) (op : Operator) (n : String) : Prop where
  back : ∃ rc, PySem.W.findIn K (.ref C) (dunderR op.info.2) = some rc ∧ (rc = none ∨ ∃ g : Addr, rc = some (.ref g))
  here : ∃ fo, PySem.W.findIn K (.type n) (PySem.dunder op.info.2) = some fo
  over : ∃ ro, PySem.W.findIn K (.type n) (dunderR op.info.2) = some ro
  sub : PySem.W.subIn K (.type n) (.ref C) = some false
end EL
namespace PySem.W
open PySem PySem.Calls PyProof.Rows
/-- an own operator beside an object of a built-in kind -/
theorem own_bin {prog : Program} {w : World} {A : Around} {E : Value → Shared → Prop} {s : Shared} {K : Frag} {x C L f : Addr} {h₀ : Heap} {m : Str → Option Value} {ox : Obj} {od : Option Obj} {T : String} {op : Operator} {b : Value} {fo ro rc : Option Value} {Q : Value → Shared → Prop}
    (F : Fr h₀ L s.heap m) (X₀ : K.In h₀) (I : InstAt s.heap x ox C od) (kind : Looks (model prog w) s.heap (typeOf b) (.type T)) (first : selfFirst K C = true) (mine : findIn K (.ref C) (PySem.dunder op.info.2) = some (some (.ref f))) (fn : isFn K (.ref f) = true)
    (back : findIn K (.ref C) (dunderR op.info.2) = some rc) (plain : rc = none ∨ ∃ g : Addr, rc = some (.ref g)) (its : findIn K (.type T) (PySem.dunder op.info.2) = some fo) (over : findIn K (.type T) (dunderR op.info.2) = some ro) (no : subIn K (.type T) (.ref C) = some false)
    (h : wpAny (model prog w) A (call (.ref f) [.ref x, b]) (CmpBack Q) E s) : wpAny (model prog w) A (binaryOp op (.ref x) b) Q E s := by
  have X := X₀.keeps F.keep
  obtain ⟨cd, rest, hcd, hm⟩ := ksp_first first
  obtain ⟨sym, nm, info⟩ : ∃ sym nm, op.info = (sym, nm) := ⟨_, _, rfl⟩
  rw [info] at mine back its over
  have made := ksp_try X I mine fn h
  obtain ⟨hh, gs, dr, tk, os⟩ := s
  have K1 : Looks (model prog w) hh (typeOf (.ref x)) (.ref C) := I.type
  have K2 := fills_K (M := model prog w) X hcd hm mine
  have K3 := ksp_fillsT (M := model prog w) X its over
  have K4 : Looks (model prog w) hh (isSubtype (.type T) (.ref C)) false := looks_subIn X no
  have K5 := ksp_inPy (M := model prog w) X mine back plain
  have K6 : Looks (model prog w) hh (numberSlotInPython (.type T) nm) false := .of_pure rfl
  have K7 : Looks (model prog w) hh (typeLookup (.type T) (dunderR nm)) ro := looks_findIn X over
  generalize ((fo.isSome && !isSeqSlot fo) || (ro.isSome && !isSeqSlot ro)) = there at K3
  have apart : (Value.ref C == Value.type T) = false := Bool.eq_false_iff.mpr fun z => nomatch beq_iff_eq.mp z
  simp only [binaryOp, info]
  refine wpAny_holding (wpAny_bind ?_)
  unfold binaryOp1
  refine wpAny_bind (K1.at (wpAny_bind (kind.at (wpAny_bind (K2.at ?_)))))
  simp only [apart, if_false, Bool.false_eq_true]
  cases there <;>
    (ksp_lk
     refine wpAny_mono made (fun r s' z => ?_) fun _ _ e => e
     obtain ⟨v, rfl, q⟩ := z
     ksp_lk
     exact q)
end PySem.W
namespace EL
open PySem PySem.Spec L2
open PyProof.Rows hiding St
def rOwnY (K : PySem.W.Frag) (C : Addr) (tys : List String) (sp : Sp) (E : XK) : R2 := fun x y H Q => ∃ a dx fs t, x = .ref a ∧ H a = some (.ins C dx fs) ∧ TyN K C H y t ∧ (t = .ref C ∨ ∃ n ∈ tys, t = .type n) ∧ sp [x, y] H Q E
theorem op_binY {X : Cx} {op : Operator} {k : Nat} {f C : Addr} {fd : FuncData} {ps : List Str} {sp : Sp} {tys : List String} {E : XK} (F : FnOk X.prog X.w X.K X.mg X.base (L2.CX X.prog X.w) k f fd ps sp) (hr : Room k X.A) (hb : Binds X.K fd ps []) (tk : Tak X E)
    (hc : PySem.W.selfFirst X.K C = true) (hs : PySem.W.findIn X.K (.ref C) (PySem.dunder op.info.2) = some (some (.ref f))) (hf : PySem.W.isFn X.K (.ref f) = true) (hn : ∀ n ∈ tys, BinF X.K C op n) : OpR X (binaryOp op) (rOwnY X.K C tys sp E) := by
  intro pins s σ H x y v u Q I rx ry hq
  obtain ⟨a, dx, fs, t, rfl, ea, ty, ht, h⟩ := hq
  cases (show v = Value.ref a from rx)
  obtain ⟨od, J⟩ := inst_of I ea
  obtain ⟨m, hF⟩ := I.fr
  have run : wpAny (model X.prog X.w) X.A (call (.ref f) [.ref a, u]) (PySem.W.CmpBack (EP X pins σ Q)) X.xe s := wpAny_mono (runY F ⟨hr, rfl⟩ hb tk I (.cons rx (.cons ry .nil)) h) (fun r s' q => by
    obtain ⟨z, H', I', rz, q⟩ := q
    exact back_of (rel_ni rz) ⟨z, H', I', rz, q⟩) fun _ _ e => e
  have LT := ty.looks I ry
  rcases ht with rfl | ⟨n, hm, rfl⟩
  · exact PySem.W.binop_K (op := op) hF I.ok.mod.kin J LT hc hs hf run
  · obtain ⟨⟨rc, b1, b2⟩, ⟨fo, b3⟩, ⟨ro, b4⟩, b5⟩ := hn n hm
    exact PySem.W.own_bin hF I.ok.mod.kin J LT hc hs hf b1 b2 b3 b4 b5 run
theorem op_cmpY {X : Cx} {op : CmpOp} {k : Nat} {f C : Addr} {fd : FuncData} {ps : List Str} {sp : Sp} {tys : List String} {E : XK} (ho : compareOp op = richCompare op) (F : FnOk X.prog X.w X.K X.mg X.base (L2.CX X.prog X.w) k f fd ps sp) (hr : Room k X.A) (hb : Binds X.K fd ps []) (tk : Tak X E)
    (hs : PySem.W.findIn X.K (.ref C) (cmpInfo op).2.1 = some (some (.ref f))) (hf : PySem.W.isFn X.K (.ref f) = true) (hn : ∀ n ∈ tys, PySem.W.notFirst X.K C (.type n) = true) : OpR X (compareOp op) (rOwnY X.K C tys sp E) := by
  intro pins s σ H x y v u Q I rx ry hq
  obtain ⟨a, dx, fs, t, rfl, ea, ty, ht, h⟩ := hq
  cases (show v = Value.ref a from rx)
  obtain ⟨od, J⟩ := inst_of I ea
  obtain ⟨m, hF⟩ := I.fr
  have run : wpAny (model X.prog X.w) X.A (call (.ref f) [.ref a, u]) (PySem.W.CmpBack (EP X pins σ Q)) X.xe s := wpAny_mono (runY F ⟨hr, rfl⟩ hb tk I (.cons rx (.cons ry .nil)) h) (fun r s' q => by
    obtain ⟨z, H', I', rz, q⟩ := q
    exact back_of (rel_ni rz) ⟨z, H', I', rz, q⟩) fun _ _ e => e
  rw [ho]
  refine PySem.W.cmp_K (op := op) (tb := t) hr.units0 hF I.ok.mod.kin J (ty.looks I ry) ?_ hs hf run
  rcases ht with rfl | ⟨n, hm, rfl⟩
  · unfold PySem.W.notFirst
    simp
  · exact hn n hm
section
variable {X : Cx} {cm : Cm} {E : XK} {a b : Expr} {ma mb : ME} {pos : Pos} {C : Str} {f : List W → M W} {tys : List String}
theorem yop_of {σ : St} {H : Hp} {Q : VK} (q : yE X.K cm E (mBin (fOwn C tys f) (noX ma) (noX mb)) σ H Q) : tOp (rOwnY X.K (cm C) tys (spY X.K cm f) E) (tE X.K cm ma) (tE X.K cm mb) σ H Q := by
  obtain ⟨ρ, h, sw, rh, rs, o⟩ := q
  obtain ⟨x, h1, e1, o⟩ := nx_out o
  obtain ⟨y, h2, e2, o⟩ := nx_out o
  refine ⟨ρ, h, sw, x, h1, rh, rs, e1, fun ρ1 H1 x' l1 rh1 rx => ⟨ρ1, h1, sw, y, h2, rh1, rs.mono l1, e2, fun ρ2 H2 y' l2 rh2 ry => ?_⟩⟩
  have rx2 := rx.mono l2
  unfold fOwn at o
  split at o
  · rename_i c
    obtain ⟨c1, c2⟩ := Bool.and_eq_true_iff.mp c
    obtain ⟨p, ad, dx, fv, rfl, rfl, hp, ea⟩ := insB_of rh2 rx2 c1
    obtain ⟨t, ty, ht⟩ := tyIn_of rh2 ry c2
    exact ⟨ad, dx, fv, t, rfl, ea, ty, ht, ρ2, h2, _, rh2, .cons rx2 (.cons ry .nil), OutE.le (l1.trans l2) o⟩
  · exact o.elim
theorem ye_bin {op : Operator} (ho : OpR X (binaryOp op) (rOwnY X.K (cm C) tys (spY X.K cm f) E)) (ra : RE X cm a ma) (rb : RE X cm b mb) : YE X cm E (.BinOp a op b pos) (mBin (fOwn C tys f) (noX ma) (noX mb)) :=
  peM (pe_op ho ra rb) fun _ _ _ => yop_of
theorem ye_cmp {op : CmpOp} (ho : OpR X (compareOp op) (rOwnY X.K (cm C) tys (spY X.K cm f) E)) (ra : RE X cm a ma) (rb : RE X cm b mb) (hm : behindInMarks op b = false := by first | exact nomark _ | rfl) : YE X cm E (.Compare a [op] [b] pos) (mBin (fOwn C tys f) (noX ma) (noX mb)) :=
  peM (pe_cmpR ho ra rb hm) fun _ _ _ => yop_of
end
end EL
set_option maxHeartbeats 4000000
/-! EL26b: own error classes over any of five built-in ones, made with one field. -/
namespace EL
open PySem PySem.Spec L2
open PyProof.Rows hiding St

/-- the class is made by a call: its __new__, then the own __init__ -/
def MadeBy (nw : String) (tl : List Value) : Prop := ∀ {prog : Program} {w : World} {A : Around} {R : Result → Shared → Prop} {h : Heap} {g : Array GenState} {d : Drawn} {t : Nat} {os : OsState} {nm q : Str} {C N : Addr} {bs bm : List Value} {sn : List Str} {sub : List Value} {ab : Bool} {col : Option Bool} {dd : Option Addr} {k0 k1 k2 k3 k5 : Option Value} {us : List Value} {fI : Addr},
  (∀ X : String, bm.contains (.type X) = tl.contains (.type X)) → h.get? C = some (excClassObj nm q C N bs bm true sn sub ab col dd k0 k1 k2 k3 k5 nw) → PySem.W.Looks (model prog w) h (typeLookup (.ref C) "__init__") (some (.ref fI)) → (∀ self, PySem.W.Looks (model prog w) h (bindSpecial (.ref fI) self) (.ref fI, [self])) → us.length ≤ sizeLine →
  codeAny (model prog w) (A.under (.builtin "type.__call__" ⟨.ref C :: us, []⟩)) (.call (.ref fI) ⟨.ref (h.objs.size + 1) :: us, []⟩) (PySem.W.InitBack (h.objs.size + 1) R) ⟨(h.push (PySem.W.kdv_tup us)).push (PySem.HandSPX.excO C h.objs.size), g, d, t, os⟩ → codeAny (model prog w) A (.call (.ref C) ⟨us, []⟩) R ⟨h, g, d, t, os⟩
/-- what is known of a family: its built-in class, its __new__, the tail of its mro -/
structure FamI (nw : String) (tl : List Value) : Prop where
  made : MadeBy nw tl
  fs : ∃ B, StoreFacts B tl "object.__setattr__" "object"
theorem famI_V : FamI "ValueError.__new__" [.type "ValueError", .type "Exception", .type "BaseException", .type "object"] := ⟨fun a b c d e f => PySem.HandSPX.call_own F.excBase_ValueError a b c d e f, _, F.store_ValueError⟩
theorem famI_O : FamI "OverflowError.__new__" [.type "OverflowError", .type "ArithmeticError", .type "Exception", .type "BaseException", .type "object"] := ⟨fun a b c d e f => PySem.HandSPX.call_own F.excBase_OverflowError a b c d e f, _, F.store_OverflowError⟩
theorem famI_R : FamI "RuntimeError.__new__" [.type "RuntimeError", .type "Exception", .type "BaseException", .type "object"] := ⟨fun a b c d e f => PySem.HandSPX.call_own F.excBase_RuntimeError a b c d e f, _, F.store_RuntimeError⟩
theorem store_Key : StoreFacts "KeyError" [.type "KeyError", .type "LookupError", .type "Exception", .type "BaseException", .type "object"] "object.__setattr__" "object" :=
  { mro := by kernel_rfl, slot := .of (owner := "object") (n := "__setattr__") (by rw [typeLookup_type, builtinLookup_eq_fast]; kernel_rfl) (by decide +kernel) (by decide +kernel) (by decide +kernel) (by first | exact .inl (by decide +kernel) | exact .inr (by decide +kernel)) (by rw [isSubtype_type]; kernel_rfl),
    entry := F.entry_object_sa, kind := by decide +kernel, split := by decide +kernel, hasOwner := by decide +kernel, args := fun a b c => by unfold argsOk; kernel_rfl, passes := fun self => by kernel_rfl }
section
variable {prog : Program} {w : World} {A : Around} {R : Result → Shared → Prop} {E : Value → Shared → Prop} {h : Heap} {g : Array GenState} {d : Drawn} {t : Nat} {os : OsState} {nm q : Str} {C N : Addr} {bs bm : List Value} {sn : List Str} {sub : List Value} {ab : Bool} {col : Option Bool} {dd : Option Addr} {k0 k1 k2 k3 k5 : Option Value} {us : List Value} {fI : Addr}
/-- LookupError's __new__ of a class that stands over it -/
theorem key_check {M : Model} {Q : Unit → Shared → Prop} (hL : bm.contains (.type "LookupError") = true) (at_ : h.get? C = some (excClassObj nm q C N bs bm true sn sub ab col dd k0 k1 k2 k3 k5 "LookupError.__new__")) (z : Q () ⟨h, g, d, t, os⟩) : wpAny M A (checkBuiltinCall "LookupError.__new__" ⟨.ref C :: us, []⟩) Q E ⟨h, g, d, t, os⟩ := by
  have F := F.excBase_LookupError
  have star := F.noStar
  have has : (Value.ref C :: bm).contains (.type "LookupError") = true := by rw [List.contains_cons, hL, Bool.or_true]
  simp only [checkBuiltinCall, F.newKind, F.newSplit, F.newRow]
  repeat (first | refine wpAny_loadPart_at at_ ?_ | (refine wpAny_isSubtype_exc at_ ?_; rw [has]) | refine wpAny_staticBase_exc at_ ?_ | refine wpAny_madeBy_exc at_ ?_ | simp only [bne_self_eq_false, Bool.false_eq_true, if_false] | wp_step)
  exact z
theorem key_new (hL : bm.contains (.type "LookupError") = true) (hA : bm.contains (.type "AttributeError") = false) (hN : bm.contains (.type "NameError") = false) (at_ : h.get? C = some (excClassObj nm q C N bs bm true sn sub ab col dd k0 k1 k2 k3 k5 "LookupError.__new__")) (few : us.length ≤ sizeLine)
    (z : R (.ok (.ret (.ref (h.objs.size + 1)))) ⟨(h.push (PySem.W.kdv_tup us)).push (PySem.HandSPX.excO C h.objs.size), g, d, t, os⟩) : codeAny (model prog w) A (.builtin "LookupError.__new__" ⟨.ref C :: us, []⟩) R ⟨h, g, d, t, os⟩ := by
  have F := F.excBase_LookupError
  have ends := F.ends
  have has : (Value.ref C :: bm).contains (.type "LookupError") = true := by rw [List.contains_cons, hL, Bool.or_true]
  have noA : (Value.ref C :: bm).contains (.type "AttributeError") = false := by rw [List.contains_cons, hA]; rfl
  have noN : (Value.ref C :: bm).contains (.type "NameError") = false := by rw [List.contains_cons, hN]; rfl
  refine codeAny_builtinAt F.entry ?_
  unfold Builtin.«BaseException.__new__»
  refine PySem.wpAt_bind ?_
  show PySem.wpAt _ _ _ (stack >>= _) _ _ _
  refine PySem.wpAt_bind (PySem.wpAt_stack fun p below => PySem.wpAt_of_wpAny ?_)
  wp_walk
  refine PySem.wpAt_of_wpAny ?_
  rw [F.owner]
  repeat (first | with_reducible refine wpAny_madeHere_exc F.canon at_ ?_ | with_reducible refine wpAny_loadPart_at at_ ?_ | (with_reducible refine wpAny_isSubtype_exc at_ ?_; first | rw [has] | rw [noA] | rw [noN]) | wp_step)
  show R _ _
  rw [Heap.size_push]
  exact z
end
theorem made_K : MadeBy "LookupError.__new__" [.type "KeyError", .type "LookupError", .type "Exception", .type "BaseException", .type "object"] := by
  intro prog w A R h g d t os nm q C N bs bm sn sub ab col dd k0 k1 k2 k3 k5 us fI hT at_ hi hb few hq
  have hL : bm.contains (.type "LookupError") = true := by rw [hT]; decide +kernel
  have hA : bm.contains (.type "AttributeError") = false := by rw [hT]; decide +kernel
  have hN : bm.contains (.type "NameError") = false := by rw [hT]; decide +kernel
  have f1 := tc_lookup
  have f2 := tc_bind (.ref C)
  have ty : (⟨h, g, d, t, os⟩ : Shared).TypeIs (.ref C) "type" := ⟨_, at_, rfl⟩
  refine codeAny_of_tree ?_
  show wpAny _ _ (callAny (.ref C) _) _ _ _
  repeat (any_goals (first | assumption | with_reducible refine wpAny_loadPart_at at_ ?_ | wp_step))
  refine ⟨rfl, codeAny_call_builtin_at (Code.quiet_builtin _ (by decide +kernel)) entry_typeCall (wpAny_check_type_call_sub at_ ?_)⟩
  repeat (first | with_reducible refine wpAny_loadPart_at at_ ?_ | with_reducible refine wpAny_madeBy_exc at_ ?_ | wp_step)
  refine codeAny_call_builtin_code (Code.quiet_builtin _ F.excBase_LookupError.quiet) (key_check hL at_ (key_new hL hA hN at_ few ?_))
  show wpAny _ _ _ _ _ _
  have kk : ∀ b o, h.get? b = some o → ((h.push (PySem.W.kdv_tup us)).push (PySem.HandSPX.excO C h.objs.size)).get? b = some o := fun b o e => Heap.get?_push_of_some _ (Heap.get?_push_of_some _ e)
  have at1 := kk _ _ at_
  have mine : ((h.push (PySem.W.kdv_tup us)).push (PySem.HandSPX.excO C h.objs.size)).get? (h.objs.size + 1) = some ({ cls := .ref C, data := .fields #[.ref h.objs.size, .none, .none, .none, .bool false, .none] } : Obj) := by heap_get
  have self : (Value.ref C :: bm).contains (.ref C) = true := by simp
  have i1 := hi.keeps kk
  have b1 := (hb (.ref (h.objs.size + 1))).keeps kk
  unfold isInstance
  repeat (first | with_reducible refine wpAny_loadPart_at mine ?_ | (refine wpAny_isSubtype_exc at1 ?_; rw [self]) | wp_step)
  show wpAny _ _ (typeLookup (.ref C) _) _ _ _
  refine i1.at (wpAny_holding (wpAny_bind (b1.at (wpAny_bind (wpAny_call (codeAny_mono hq fun r s' z => ?_))))))
  rcases r with e | (v | _ | _ | _) <;> first | exact z | exact z.elim | skip
  obtain ⟨rfl, z⟩ := z
  first
    | exact wpAny_pure (wpAny_pure z)
    | (wp_walk; exact z)
theorem famI_K : FamI "LookupError.__new__" [.type "KeyError", .type "LookupError", .type "Exception", .type "BaseException", .type "object"] := ⟨made_K, _, store_Key⟩
/-- what the written part says of an error class -/
structure OexG (K : PySem.W.Frag) (C : Addr) : Prop where
  cls : ∃ nw tl nm q N bs bm sn sb ab cl dd k0 k1 k2 k3 k5, FamI nw tl ∧ K.lookup C = some (excClassObj nm q C N bs bm true sn sb ab cl dd k0 k1 k2 k3 k5 nw) ∧ PySem.W.excTail tl bm = true
  sa : PySem.W.findIn K (.ref C) "__setattr__" = some (some (.builtin "object.__setattr__"))
  exC : PySem.W.subIn K (.ref C) (.type "BaseException") = some true
  tyC : PySem.W.typeIn K (.ref C) = some (.type "type")
  kC : PySem.W.keepIn K (.ref C) = true
section
variable {X : Cx} {pins : List (Addr × Obj)} {σ : St} {H : Hp} {s : Shared} {a C dx : Addr} {f : Str} {y : V} {u : Value} {Q : Unit → Shared → Prop} {E : Value → Shared → Prop} {A : Around}
/-- the one field of an error is set -/
theorem ost_one (T : OexG X.K C) (I : Inv X pins σ H s) (e : H a = some (exo a C none)) (hno : PySem.W.findIn X.K (.ref C) f = some none) (ry : RelV y u)
    (k : ∀ dx s', H dx = none → dx ≠ a → Inv X pins σ (upd (upd H dx (exd dx [(f, y)])) a (exo a C (some dx))) s' → Q () s') : wpAny (model X.prog X.w) A (setAttr (.ref a) f u) Q E s := by
  obtain ⟨nw, tl, nm, q, N, bs, bm, sn, sb, ab, cl, dd, k0, k1, k2, k3, k5, fam, hC, hbm⟩ := T.cls
  have hcl : ∃ cd, PySem.W.clsIn X.K C = some cd ∧ cd.mro = .ref C :: bm ∧ cd.hasDict = true := ⟨_, by unfold PySem.W.clsIn; rw [hC] <;> rfl, rfl, rfl⟩
  obtain ⟨cd, hcl, hmro, hhd⟩ := hcl
  have ov : PySem.W.excOver X.K C tl = true := by unfold PySem.W.excOver; rw [hcl]; simp [hmro, hbm]
  have tk : PySem.W.takerIn X.K C f = some none := by unfold PySem.W.takerIn; rw [hno]; rfl
  obtain ⟨t1, ho⟩ := exo_at I.hok e
  obtain ⟨hp, g, d, t, os⟩ := s
  refine PySem.W.set_plain I.kIn (ox := { cls := .ref C, dict := none, data := .fields #[.ref t1, .none, .none, .none, .bool false, .none] }) (od := none) ⟨ho, rfl, rfl, trivial⟩ T.sa ?_
  obtain ⟨Bt, fs⟩ := fam.fs
  refine PySem.W.osa_openX (od := none) (s := ⟨hp, g, d, t + 1, os⟩) fs I.kIn ⟨ho, rfl, rfl, trivial⟩ ov tk fun b => ?_
  have lc : PySem.W.Looks (model X.prog X.w) hp (classData C) cd := PySem.W.looks_clsIn I.kIn hcl
  have ne : a ≠ hp.objs.size := Nat.ne_of_lt (Heap.lt_size ho)
  show wpAny _ _ (Builtin.ObjectAttr.storeInOwnDict (.ref a) (.ref C) (.str f t) f u b) _ _ _
  unfold Builtin.ObjectAttr.storeInOwnDict Builtin.ObjectAttr.ownDictForStores
  obtain ⟨nm', bs', mro', ns', qn', hd', sn', sb', ab', col', del'⟩ := cd
  dsimp only at hhd
  subst hhd
  repeat (first | with_reducible refine PySem.HandSPX.store_in_new ?_ ?_ | with_reducible refine wpAny_loadPart_at ho ?_ | with_reducible refine lc.at ?_ | wp_step)
  · exact ⟨_, #[], _, (Heap.get?_update_ne _ _ _ _ ne.symm).trans (Heap.get?_push_at rfl rfl), rfl, fun e he => absurd he (by simp), fun _ => rfl⟩
  · intro h' tk' hn sm
    have at0 : (hp.push { cls := .type "dict", data := .dict #[] }).get? a = some ({ cls := .ref C, dict := none, data := .fields #[.ref t1, .none, .none, .none, .bool false, .none] } : Obj) := Heap.get?_push_of_some _ ho
    have kp : ∀ b o, b ≠ a → hp.get? b = some o → h'.get? b = some o := fun b o hb z => (sm.2 b (Nat.ne_of_lt (Heap.lt_size z))).trans ((Heap.get?_update_ne _ _ _ _ hb).trans (Heap.get?_push_of_some _ z))
    have ax : h'.get? a = some ({ cls := .ref C, dict := some hp.objs.size, data := .fields #[.ref t1, .none, .none, .none, .bool false, .none] } : Obj) := (sm.2 a ne).trans (Heap.get?_update_self _ at0 rfl)
    have hnd : H hp.objs.size = none := I.hok.fresh (Nat.le_refl _)
    have nd : ∀ {b : Addr} {o : Obj}, hp.get? b = some o → b ≠ hp.objs.size := fun z => Nat.ne_of_lt (Heap.lt_size z)
    have na : ∀ {b : Addr}, H b = none → b ≠ a := fun n z => by rw [z, e] at n; cases n
    -- what else stood there stands
    have st : ∀ {b : Addr} {o : HO}, H b = some o → exo a C none ≠ o → upd (upd H hp.objs.size (exd hp.objs.size [(f, y)])) a (exo a C (some hp.objs.size)) b = some o := fun z d => by rw [upd_ne (at_ne e z d), upd_ne (ne_of_none z hnd)]; exact z
    have U : Un X.fs [] H (upd (upd H hp.objs.size (exd hp.objs.size [(f, y)])) a (exo a C (some hp.objs.size))) hp h' :=
      { keep := fun b o z n _ _ => kp b o (na n) z, slot := fun b o z n _ _ => ⟨o.slots, kp b o (na n) z⟩, free := fun b o z n _ => by rw [upd_ne (na n), upd_ne (nd z)]; exact n,
        there := fun b o z _ => (Classical.em (b = a)).elim (fun hb => ⟨_, hb ▸ ax⟩) fun hb => ⟨o, kp b o hb z⟩,
        tups := fun b xs z => st z exo_tup, frzs := fun b o v z => st z exo_frz, tbls := fun b ps z => ⟨#[], by rw [st z exo_tbl]; simp⟩ }
    refine k hp.objs.size _ hnd ne.symm (I.un (t' := tk') U fun b o z => ?_)
    by_cases hb : b = a
    · subst hb; rw [upd_same] at z; cases z; exact exo_ok ax
    rw [upd_ne hb] at z
    by_cases hd : b = hp.objs.size
    · subst hd; rw [upd_same] at z; cases z; exact exd_ok hn (relO_put (fs := []) ry fun g => True.intro)
    rw [upd_ne hd] at z
    exact (I.hok b o z).stay (fun c v hc w => kp c v (hc.elim (fun q => by rw [q]; exact hb) fun q => at_ne e q exo_own) w) (fun c hc => st hc exo_own) (fun c xs hc => st hc exo_tup)
end
/-- self.f = e, the one store of an error's __init__ -/
def tOs1 (K : PySem.W.Frag) (f : Str) (to te : TE) : TS := fun D σ H => te σ H fun y H1 => to σ H1 fun x H2 => ∃ a C : Addr, x = .ref a ∧ OexG K C ∧ PySem.W.findIn K (.ref C) f = some none ∧ H2 a = some (exo a C none) ∧ ∀ dx, H2 dx = none → dx ≠ a → D.nx σ (upd (upd H2 dx (exd dx [(f, y)])) a (exo a C (some dx)))
section
variable {X : Cx} {o e : Expr} {es : List Expr} {to te : TE} {ta : TA} {f : Str} {p p' pos : Pos}
theorem ps_os1 (ho : PE X o to) (he : PE X e te) (hs : swapsWith e (some (.Attribute o f p')) pos.line X.env = pure false := by rfl) : PS X (.Assign [.Attribute o f p'] e pos) (tOs1 X.K f to te) := by
  refine ⟨fun pins s σ H D I w => plainObj_wpAny_Assign_Attribute (thn (he.run pins s σ H _ I w) fun v s1 ⟨y, H1, I1, r1, q1⟩ => thn (ho.run pins s1 σ H1 _ I1 q1) fun u s2 ⟨x, H2, I2, r2, a, C, ex, T, hno, ea, q⟩ => ?_) hs⟩
  subst ex
  obtain rfl : u = Value.ref a := r2
  exact ost_one T I2 ea hno r1 fun dx s' n ne J => ⟨σ, _, J, q dx n ne⟩
theorem pmk_oxg {CX : CXT} {x : Str} {C fI : Addr} {k : Nat} {fd : FuncData} {ps : List Str} {sp : Sp} {ds : List Value} {dvs : List V} (T : OexG X.K C) (iC : PySem.W.findIn X.K (.ref C) "__init__" = some (some (.ref fI))) (tI : PySem.W.typeIn X.K (.ref fI) = some (.type "function"))
    (F1 : FnOk X.prog X.w X.K X.mg X.base CX k fI fd ps sp) (hr : Room (k + 1) X.A) (hb : Binds X.K fd ps ds) (hd : Vals dvs ds) (hx : Passes CX X (fun _ _ _ => False)) (hg : Gl X x) (hm : X.mg x = some (.ref C)) (ha : PA X (e :: es) ta)
    (hdb : (x == ("__debug__" : Str)) = false := by decide) (he : starEach (e :: es) X.env = (false, eval e X.env) :: starEach es X.env := by rfl) (hpl : (backTo pos (starEach es X.env)).any (·.1) = false := by rfl) : PMk X (.Call (.Name x p) (e :: es) [] pos) (tMkO C sp dvs ta) := by
  intro pins s σ H Q I w
  obtain ⟨nw, tl, nm, q, N, bs, bm, sn, sb, ab, cl, dd, k0, k1, k2, k3, k5, fam, hC, hbm⟩ := T.cls
  refine wpAny_Call_Name_kw (ld_glob I hg hm (PySem.W.callWith_K (h₀ := X.base) I.ok.mod.kin T.kC (thn (ha.run pos pins s σ H _ I w) fun us s1 ⟨vs, H1, I1, r1, hz, q1⟩ => ⟨I1.kIn, ?_⟩) he hpl) hdb)
  show wpAny _ _ (call (.ref C) us) _ _ _
  obtain ⟨hp, g, dr, tk, os⟩ := s1
  have up : hp.objs.size ≤ hp.objs.size + 1 := Nat.le_succ _
  have hn : H1 (hp.objs.size + 1) = none := I1.hok.fresh up
  have hq := q1 (hp.objs.size + 1) hn
  have kk : ∀ b o, hp.get? b = some o → ((hp.push (PySem.W.kdv_tup us)).push (PySem.HandSPX.excO C hp.objs.size)).get? b = some o := fun b o z => Heap.get?_push_of_some _ (Heap.get?_push_of_some _ z)
  have gt : ((hp.push (PySem.W.kdv_tup us)).push (PySem.HandSPX.excO C hp.objs.size)).get? (hp.objs.size + 1) = some (PySem.HandSPX.excO C hp.objs.size) := by heap_get
  have I2 := I1.laid (t' := tk) (a := hp.objs.size + 1) (o := exo (hp.objs.size + 1) C none) (h' := (hp.push (PySem.W.kdv_tup us)).push (PySem.HandSPX.excO C hp.objs.size)) kk up (exo_ok gt)
  have r2 : Vals (V.ref (hp.objs.size + 1) :: (vs ++ dvs)) (Value.ref (hp.objs.size + 1) :: (us ++ ds)) := .cons rfl (r1.append hd)
  have hl : (Value.ref (hp.objs.size + 1) :: us ++ ds).length = ps.length := by have z := r2.length; rw [F1.len _ _ _ _ hq] at z; exact z.symm
  have hus : us.length ≤ sizeLine := by rw [← Paired.length r1, sizeLine_eq]; omega
  refine wpAny_call (fam.made (fun Y => PySem.W.excTail_contains Y bm hbm) (I1.kIn _ _ hC) (PySem.W.looks_findIn I1.kIn iC) (fun self => PySem.W.bind_fn I1.kIn self tI) hus
    (codeAny_mono (F1.run _ X.stack _ _ ⟨Value.ref (hp.objs.size + 1) :: us, []⟩ (Value.ref (hp.objs.size + 1) :: (us ++ ds)) _ _ (fun _ _ _ => False) (hr.make C us []) (I2.env0.make C us []) (hb _ (Value.ref (hp.objs.size + 1) :: us) I2.kIn hl) r2 hq) fun r s' z => ?_))
  match r, z with
  | .error er, z => exact hx pins σ _ _ er s' I2 z
  | .ok (.ret u), z =>
    obtain ⟨v, H2, os2, bare2, un2, hok2, rv, ev, d, fs, ea, ed, hd1, q2⟩ := z
    subst ev
    exact ⟨rv, mk_end (raises_own T.exC T.tyC) I1 up kk un2 hok2 os2 bare2 ea ed hd1 q2⟩
  | .ok .next, z => exact False.elim z
  | .ok .brk, z => exact False.elim z
  | .ok .cont, z => exact False.elim z
end
end EL
/-! EL27: items that are put, raise, the errors of the text. -/
namespace EL
open PySem PySem.Spec L2
open PyProof.Rows hiding St

def rSetY (C : Addr) (sp : Sp) (E : XK) : TSet := fun o i v H Q => ∃ a dx fs, o = .ref a ∧ H a = some (.ins C dx fs) ∧ sp [o, i, v] H (fun _ H' => Q H') E
theorem set_Y {X : Cx} {k : Nat} {f C : Addr} {fd : FuncData} {ps : List Str} {sp : Sp} {E : XK} (F : FnOk X.prog X.w X.K X.mg X.base (L2.CX X.prog X.w) k f fd ps sp) (hr : Room k X.A) (hb : Binds X.K fd ps []) (tk : Tak X E)
    (hq : PySem.W.noSeq X.K C = true) (hs : PySem.W.findIn X.K (.ref C) "__setitem__" = some (some (.ref f))) (hf : PySem.W.isFn X.K (.ref f) = true) : PSet X (rSetY C sp E) := by
  intro pins s σ H o i v ov iv u Q I ro ri rv h
  obtain ⟨a, dx, fs, rfl, ea, h⟩ := h
  cases (show ov = Value.ref a from ro)
  obtain ⟨od, J⟩ := inst_of I ea
  obtain ⟨m, hF⟩ := I.fr
  exact PySem.W.ksp_setItem hF I.ok.mod.kin J hq hs hf (wpAny_mono (runY F ⟨hr, rfl⟩ hb tk I (.cons ro (.cons ri (.cons rv .nil))) h) (fun r s' q => let ⟨_, H', I', _, q⟩ := q; ⟨H', I', q⟩) fun _ _ e => e)
def sSetO (C : Str) (f : List W → M W) (mo mi mv : ME) : MS := fun sw => bnd (mv sw) fun v => bnd (mo sw) fun o => bnd (mi sw) fun i h => if insB h o C = true then (match f [o, i, v] h with
  | .ok _ h' => .ok (.nx sw) h'
  | .ex c v h' => .ex c v h'
  | .no => .no) else .no
theorem nxS {α : Type} {m : SW → M α} {f : α → M Fl} {K : PySem.W.Frag} {cm : Cm} {E : XK} {ρ : List Addr} {H : Hp} {D : Ends} {sw : SW} {h : Hw} (o : OutS K cm E ρ H (bnd (noX m sw) f h) D) : ∃ a h1, m sw h = .ok a h1 ∧ OutS K cm E ρ H (f a h1) D := by
  unfold bnd noX at o
  cases e1 : m sw h with
  | no => rw [e1] at o; exact o.elim
  | ex c v h' => rw [e1] at o; exact o.elim
  | ok a h1 => rw [e1] at o; exact ⟨a, h1, rfl, o⟩
section
variable {X : Cx} {cm : Cm} {E : XK} {a b c e o i : Expr} {es : List Expr} {me mo mi : ME} {mr : MA} {pos pos' p : Pos} {C : Str} {f : List W → M W}
theorem ys_setO {k : Nat} {g : Addr} {fd : FuncData} {ps : List Str} (F : FnY X.prog X.w X.K X.mg X.base cm k g fd ps f) (hr : Room k X.A) (hb : Binds X.K fd ps []) (tk : Tak X E)
    (hq : PySem.W.noSeq X.K (cm C) = true) (hs : PySem.W.findIn X.K (.ref (cm C)) "__setitem__" = some (some (.ref g))) (hf : PySem.W.isFn X.K (.ref g) = true) (ho : RE X cm o mo) (hi : RE X cm i mi) (he : RE X cm e me)
    (ha : ∀ v, assign (.Subscript o i p) X.env v = (do
      let ov ← holding [v] (eval o X.env)
      let iv ← holding [v, ov] (eval i X.env)
      standAt p
      holding [v, ov, iv] (setItem ov iv v)
      release [v, ov, iv] []) := by intro _; rfl)
    (h1 : swapsWithSole [.Subscript o i p] e pos.line X.env = pure false := by rfl) (h2 : swappedStores [.Subscript o i p] e X.env = pure none := by rfl)
    (h3 : (assignEach [.Subscript o i p] X.env).map (·.2) = [assign (.Subscript o i p) X.env] := by rfl) : YS X cm E (.Assign [.Subscript o i p] e pos) (sSetO C f (noX mo) (noX mi) (noX me)) := by
  refine psM (ps_asg he (pg_sub ho hi (set_Y F hr hb tk hq hs hf) ha) h1 h2 h3) fun D σ H q => ?_
  obtain ⟨ρ, h, sw, rh, rs, o⟩ := q
  obtain ⟨v, h1, e1, o⟩ := nxS o
  obtain ⟨x, h2, e2, o⟩ := nxS o
  obtain ⟨y, h3, e3, o⟩ := nxS o
  refine ⟨ρ, h, sw, v, h1, rh, rs, e1, fun ρ1 H1 v' l1 rh1 rv => ?_⟩
  refine ⟨ρ1, h1, sw, x, h2, rh1, rs.mono l1, e2, fun ρ2 H2 x' l2 rh2 rx => ?_⟩
  refine ⟨ρ2, h2, sw, y, h3, rh2, (rs.mono l1).mono l2, e3, fun ρ3 H3 y' l3 rh3 ry => ?_⟩
  have ll := l1.trans (l2.trans l3)
  have rx3 := rx.mono l3
  have rv3 := (rv.mono l2).mono l3
  split at o
  · rename_i q
    obtain ⟨p, ad, dx, fv, rfl, rfl, hp, ea⟩ := insB_of rh3 rx3 q
    refine ⟨ad, dx, fv, rfl, ea, ρ3, h3, _, rh3, .cons rx3 (.cons ry (.cons rv3 .nil)), ?_⟩
    cases ef : f [W.ref p, y, v] h3 with
    | no => rw [ef] at o; exact o
    | ex c w h' => rw [ef] at o; exact XOut.le ll o
    | ok w h' => rw [ef] at o; exact fun ρ4 H4 v4 l4 rh4 _ => o ρ4 H4 σ (ll.trans l4) rh4 (rs.mono (ll.trans l4))
  · exact o.elim
end
/-! ### the errors of the text -/
/-- what an error's __init__ does: its one field is set -/
def spErr (K : PySem.W.Frag) (f : Str) : Sp := fun vs H Q _ => ∃ (a C : Addr) (y : V), vs = [.ref a, y] ∧ OexG K C ∧ PySem.W.findIn K (.ref C) f = some none ∧ H a = some (exo a C none) ∧ ∀ dx, H dx = none → dx ≠ a → Q .non (upd (upd H dx (exd dx [(f, y)])) a (exo a C (some dx)))
section
variable {P : Program} {w : World} {K : PySem.W.Frag} {mg : Str → Option Value} {base : Heap}
theorem err_init {q n : Str} {st : Stmt} {fi : Addr} {fd : FuncData} {p1 p2 p3 p4 : Pos} (F : Fun K "__init__" q st fi fd) (S : FnScope ["self", n] ["self", n] (defScope st)) (hb : defBody st = [.Assign [.Attribute (.Name "self" p1) n p2] (.Name n p3) p4]) (hn : n ≠ "self") (hn2 : (n == ("__debug__" : Str)) = false) (hn3 : (n == ("__classdict__" : Str)) = false)
    (v1 : Vis (defScope st) "self") (v2 : Vis (defScope st) n) : FnOk P w K mg base CX0 1 fi fd ["self", n] (spErr K n) := by
  refine F.ok (N := ["self", n]) S (fun vs H Q E h => ?_) (fun cdv A outer s H vs Q E hr h => ?_)
  · obtain ⟨a, C, y, rfl, _⟩ := h
    rfl
  · obtain ⟨a, C, y, rfl, T, nf, ea, k⟩ := h
    rw [hb]
    refine ⟨_, pss_one (ps_os1 (pe_var (i := 0) rfl v1) (pe_var (i := 1) rfl v2 hn2 hn3) (by rfl)), ?_⟩
    exact ⟨y, rfl, .ref a, rfl, a, C, rfl, T, nf, ea, fun dx nd ne => k dx nd ne⟩
end
/-- an error class of the text -/
structure ErrK (P : Program) (w : World) (K : PySem.W.Frag) (mg : Str → Option Value) (base : Heap) (C : Addr) (x : Str) : Prop where
  T : OexG K C
  gl : mg x = some (.ref C)
  nf : PySem.W.findIn K (.ref C) (fieldOf x) = some none
  ini : ∃ fi fd, PySem.W.findIn K (.ref C) "__init__" = some (some (.ref fi)) ∧ PySem.W.typeIn K (.ref fi) = some (.type "function") ∧ FnOk P w K mg base CX0 1 fi fd ["self", fieldOf x] (spErr K (fieldOf x)) ∧ Binds K fd ["self", fieldOf x] []
def sRaise (x : Str) (mr : MA) : MS := fun sw => bnd (mr sw) fun ws h => match ws with
  | [v] => .ex x v h
  | _ => .no
section
variable {X : Cx} {cm : Cm} {E : XK} {e : Expr} {es : List Expr} {mr : MA} {pos pos' p : Pos} {x : Str}
theorem ys_raise (er : ErrK X.prog X.w X.K X.mg X.base (cm x) x) (tk : Tak X E) (hr : Room 2 X.A) (ha : RA X cm (e :: es) mr) (hc : X.calm = true := by rfl) (hg : Gl X x := by rfl) (hdb : (x == ("__debug__" : Str)) = false := by decide)
    (he : starEach (e :: es) X.env = (false, eval e X.env) :: starEach es X.env := by rfl) (hpl : (backTo pos' (starEach es X.env)).any (·.1) = false := by rfl) : YS X cm E (.Raise (some (.Call (.Name x p) (e :: es) [] pos')) none pos) (sRaise x (noX mr)) := by
  obtain ⟨fi, fd, i1, i2, i3, i4⟩ := er.ini
  refine psM (ps_raise hc tk (pmk_oxg er.T i1 i2 i3 hr i4 .nil pass0 hg er.gl ha hdb he hpl)) fun D σ H q => ?_
  obtain ⟨ρ, h, sw, rh, rs, o⟩ := q
  obtain ⟨ws, h1, e1, o⟩ := nxS o
  refine ⟨ρ, h, sw, ws, h1, rh, rs, e1, fun ρ1 H1 vs l1 rh1 rv => ?_⟩
  match ws, rv with
  | [], _ => exact o.elim
  | [v], .cons (v := v') rw' .nil =>
    refine ⟨by show 1 ≤ 1000; decide, fun a na => ⟨a, cm x, v', rfl, er.T, er.nf, upd_same, fun dx nd ne => ?_⟩⟩
    have n1 : H1 dx = none := by rw [upd_ne ne] at nd; exact nd
    refine ⟨rfl, dx, [(fieldOf x, v')], upd_same, by rw [upd_ne ne, upd_same], n1, ?_⟩
    have eh : upd (del (upd (upd (upd H1 a (exo a (cm x) none)) dx (exd dx [(fieldOf x, v')])) a (exo a (cm x) (some dx))) a) dx (.xd [(fieldOf x, v')]) = upd H1 dx (.xd [(fieldOf x, v')]) := by
      funext b
      by_cases hd : b = dx
      · subst hd
        rw [upd_same, upd_same]
      · rw [upd_ne hd, upd_ne hd]
        by_cases ha : b = a
        · subst ha
          rw [del_same, na]
        · rw [del_ne ha, upd_ne ha, upd_ne hd, upd_ne ha]
    rw [eh]
    exact o ρ1 _ dx v' (l1.trans (le_new n1)) (rh1.new n1) upd_same (rw'.mono (le_new n1))
  | _ :: _ :: _, _ => exact o.elim
end
end EL
set_option maxHeartbeats 2000000
/-! EL28: try with several named clauses. -/
namespace EL
open PySem PySem.Spec L2
open PyProof.Rows hiding St

abbrev HT := Addr → Value → Option Addr → TS
/-- the clause's name is gone behind it -/
def clr (i : Nat) (D : Ends) : Ends := ⟨fun σ H => D.nx (σ.set i none) H, D.rt, fun σ H => D.bk (σ.set i none) H, fun σ H => D.ct (σ.set i none) H⟩
def wN (K : PySem.W.Frag) (W : WX) (D : Ends) : List (Value × Nat × HT) → WX
  | [] => W
  | (c, i, t) :: r => fun cls d σ H => ∃ b, PySem.W.exmOne K cls c = some b ∧ (b = true → ∀ a, H a = none → t a cls d (clr i D) (σ.set i (some (.ref a))) H) ∧ (b = false → wN K W D r cls d σ H)
inductive HdN (X : Cx) : List ExceptHandler → List (Value × Nat × HT) → Prop
  | nil : HdN X [] []
  | cons {x n : Str} {c : Value} {i : Nat} {t : HT} {s0 : Stmt} {ss : List Stmt} {p1 p2 : Pos} {hs : List ExceptHandler} {l : List (Value × Nat × HT)} (nm : Names X x c) (nd : X.N.Nodup) (at_ : X.N[i]? = some n) (lc : X.env.kindOf n = some .local)
      (su : ∀ (a : Addr) (ob : Obj) (cls : Value) (d : Option Addr) (pn : List (Addr × Obj)), Zc cls d ob → (∃ fs, ob.data = .fields fs) → PSs (X.suite a ((a, ob) :: pn)) (s0 :: ss) (t a cls d)) (rest : HdN X hs l) :
      HdN X (.ExceptHandler (some (.Name x p1)) (some n) (s0 :: ss) p2 :: hs) ((c, i, t) :: l)
theorem ps_tryN {X : Cx} {body : List Stmt} {h0 : ExceptHandler} {hs : List ExceptHandler} {l : List (Value × Nat × HT)} {pos : Pos} {tb : WX → TS} {Wout : WX} (stk : X.stack = X.env :: X.outer) (fr : X.env.frame = some X.env.locals) (tk : Takes X Wout)
    (hb : ∀ (W : WX) (pn : List (Addr × Obj)) (xe : Value → Shared → Prop), Takes (X.tr pn xe) W → PassesOwn (model X.prog X.w) X.A X.env xe → PSs (X.tr pn xe) body (tb W)) (hh : HdN X (h0 :: hs) l) :
    PS X (.Try body (h0 :: hs) [] [] pos) (fun D σ H => tb (wN X.K Wout D l) D σ H) := by
  refine ⟨fun pins s σ H D I wish => wpAny_Try_except ?_⟩
  have okX := I.ok
  have frs0 : X.A.frames = some (X.env :: X.outer) := okX.frames.trans (congrArg some stk)
  have inner := (hb (wN X.K Wout D l) (X.pn ++ pins) (fun u s₁ => wpAny (model X.prog X.w) X.A (noteFrame u X.env) (fun _ s₂ => wpAny (model X.prog X.w) X.A (setFlight u none) (fun _ s₃ => wpAny (model X.prog X.w) X.A (handleBy u X.env (h0 :: hs)) (SP X pins D) X.xe s₃) X.xe s₂) X.xe s₁)
    (fun u s' caught => ?_) PassesOwn.looking).run [] s σ H D (I.toTry _) wish
  · refine wpAny_mono inner (fun f s1 z => ?_) fun _ _ z => z
    rcases f with _ | _ | _ | u
    · obtain ⟨σ1, H1, I1, q⟩ := z; exact wpAny_execs_nil ⟨σ1, H1, I1.ofTry okX, q⟩
    · obtain ⟨σ1, H1, I1, q⟩ := z; exact ⟨σ1, H1, I1.ofTry okX, q⟩
    · obtain ⟨σ1, H1, I1, q⟩ := z; exact ⟨σ1, H1, I1.ofTry okX, q⟩
    · obtain ⟨v, σ1, H1, I1, r, q⟩ := z; exact ⟨v, σ1, H1, I1.ofTry okX, r, q⟩
  obtain ⟨a, B, sI, pins1, σ1, H1, cls, d, rfl, It, nb, up, sky, na, os, ag, wish1⟩ := caught
  have I1 : Inv X pins σ1 H1 sI := It.ofTry okX
  show wpAny (model X.prog X.w) X.A (noteFrame (.ref a) X.env) _ _ _
  refine Sky.land Zc.steady frs0 fr (stk ▸ sky) fun g3 fly3 up3 => ?_
  have I3 : Inv X pins σ1 H1 { s' with heap := g3 } := I1.landed nb fly3.1 (up.trans up3) os ag
  obtain ⟨ob3, fs3, get3, z3, dat3⟩ := fly3.there
  have off : a ∉ frs (X.env :: X.outer) := fun hm => by
    obtain ⟨_, ob', get', nf⟩ := fly3.2.2.1.mem hm
    rw [get3] at get'
    cases get'
    exact nf _ dat3
  have offL : a ≠ X.env.locals := fun z => off (List.mem_filterMap.mpr ⟨X.env, List.mem_cons_self, by rw [fr, z]⟩)
  have offF : a ∉ X.fs := fun hm => by
    obtain ⟨en, hen, q⟩ := List.mem_filterMap.mp hm
    exact off (List.mem_filterMap.mpr ⟨en, List.mem_cons_of_mem _ hen, q⟩)
  have S3 := I3.suite get3 dat3 na offL offF
  have walk : ∀ {gs : List ExceptHandler} {k : List (Value × Nat × HT)}, HdN X gs k → wN X.K Wout D k cls d σ1 H1 → wpAny (model X.prog X.w) X.A (handleBy (.ref a) X.env gs) (SP X pins D) X.xe { s' with heap := g3 } := by
    intro gs k hk
    induction hk with
    | nil =>
      intro wish2
      refine wpAny_handleBy_nil ?_
      obtain ⟨_, _, _, ob, fs, T, oT, ts, get, _, dat, f1, _⟩ := id fly3
      unfold PySem.passOn
      refine wpAny_bind (wpAny_field get dat f1 ?_)
      rw [if_neg (by simp : ¬ ((Value.ref T == Value.none) = true))]
      have on : wpAny (model X.prog X.w) X.A (setFlight (.ref a) X.env.frame) (fun _ s4 => wpAny (model X.prog X.w) X.A (throw (.ref a) : Sem Flow) (SP X pins D) X.xe s4) X.xe { s' with heap := g3 } := by
        rw [fr]
        exact HandSPX.setFlight_upZ fly3 fun g4 held4 up4 => wpAny_throw (tk _ _ ⟨a, B, sI, pins, σ1, H1, cls, d, rfl, I1, nb, (up.trans up3).trans up4, .inr (.inr (stk ▸ held4)), na, os, ag, wish2⟩)
      first
        | exact wpAny_bind (wpAny_pure (wpAny_bind on))
        | exact wpAny_bind on
    | @cons x n c i t s0 ss p1 p2 gs2 k2 nm nd at_ lc su rest ih =>
      intro wish2
      obtain ⟨b, eb, yes, no⟩ := wish2
      refine wpAny_handleBy_cons (codeAny_handlers_test ?_) (fun z => nomatch z)
      have kind : PySem.W.Looks (model X.prog X.w) g3 (typeOf (.ref a)) cls := fun A' Q' E' s2 k2 q => wpAny_typeOf_ref (k2 _ _ get3) (z3.1.symm ▸ q)
      have meets := PySem.W.exm_one (M := model X.prog X.w) I3.kIn kind eb
      have names : ∀ {Q' : Value → Shared → Prop} {E' : Value → Shared → Prop}, Q' c { s' with heap := g3 } → wpAny (model X.prog X.w) (X.A.mark (some (.ref a))) (eval (.Name x p1) X.env) Q' E' { s' with heap := g3 } := fun {Q' E'} q => by
        obtain ⟨gl, dbg, own | ⟨free, built, nn⟩⟩ := nm
        · exact ld_glob (X := X.suite a ((a, ob3) :: (X.pn ++ pins))) S3 gl own q dbg
        · exact ld_blt (X := X.suite a ((a, ob3) :: (X.pn ++ pins))) S3 gl free built q nn dbg
      refine names (meets.here ?_)
      cases b with
      | false => exact ih (no rfl)
      | true =>
        refine codeAny_handlers_suite_as (HandSPX.lands_againZ fly3 fun g4 fly4 up4 => ?_)
        have I4 : Inv X pins σ1 H1 { s' with heap := g4 } := I1.landed nb fly4.1 ((up.trans up3).trans up4) os ag
        obtain ⟨ob4, fs4, get4, z4, dat4⟩ := fly4.there
        refine store_ok (X := X.suite a ((a, ob4) :: (X.pn ++ pins))) (v := .ref a) (I4.suite get4 dat4 na offL offF) nd at_ (.inl lc) rfl (fun s5 S5 => ?_) (.inr lc)
        refine wpAny_mono ((su a ob4 cls d (X.pn ++ pins) z4 ⟨_, dat4⟩).run [] s5 _ H1 _ S5 (yes rfl a na)) (fun f s6 z => ?_) fun _ _ z => z.elim
        have gone : ∀ {σ6 : St} {H6 : Hp} {Q' : Shared → Prop}, Inv (X.suite a ((a, ob4) :: (X.pn ++ pins))) [] σ6 H6 s6 → (∀ s7, Inv X pins (σ6.set i none) H6 s7 → Q' s7) → wpAny (model X.prog X.w) X.A (do bindName X.env n .none; unbindBehindTheSuite X.env n p2) (fun _ s7 => Q' s7) X.xe s6 := fun S6 q => gone_ok (S6.unsuite okX) nd at_ lc q
        rcases f with _ | _ | _ | u
        · obtain ⟨σ6, H6, S6, q6⟩ := z; exact gone S6 fun s7 I7 => ⟨_, _, I7, q6⟩
        · obtain ⟨σ6, H6, S6, q6⟩ := z; exact gone S6 fun s7 I7 => ⟨_, _, I7, q6⟩
        · obtain ⟨σ6, H6, S6, q6⟩ := z; exact gone S6 fun s7 I7 => ⟨_, _, I7, q6⟩
        · obtain ⟨v6, σ6, H6, S6, r6, q6⟩ := z; exact gone S6 fun s7 I7 => ⟨_, _, _, I7, r6, q6⟩
  exact walk hh wish1
end EL
set_option maxHeartbeats 2000000
/-! EL29: try, with clauses that name the exception and return something of what it holds. -/
namespace EL
open PySem PySem.Spec L2
open PyProof.Rows hiding St

abbrev HM := W → M W
def tH (K : PySem.W.Frag) (cm : Cm) (L i : Nat) (a : Addr) (c : Str) (dd : Addr) (m : HM) : TE := fun σ H Q => ∃ ρ h v v' w h', RelH K cm ρ h H ∧ H dd = some (.xd [(fieldOf c, v')]) ∧ Rel K ρ H v v' ∧ (σ.length = L → σ[i]? = some (some (.ref a))) ∧ m v h = .ok w h' ∧ KE K cm ρ H w h' Q
def tHA (K : PySem.W.Frag) (cm : Cm) (L i : Nat) (a : Addr) (c : Str) (dd : Addr) (m : W → M (List W)) : TA := fun σ H Q => ∃ ρ h v v' ws h', RelH K cm ρ h H ∧ H dd = some (.xd [(fieldOf c, v')]) ∧ Rel K ρ H v v' ∧ (σ.length = L → σ[i]? = some (some (.ref a))) ∧ m v h = .ok ws h' ∧ ∀ ρ' H' vs, Le K ρ H ρ' H' → RelH K cm ρ' h' H' → Rels K ρ' H' ws vs → Q vs H'
/-- the exception that the suite holds: of the class c, its dict at dd -/
def HExp (X : Cx) (cm : Cm) (c : Str) (P : Cx → Addr → Obj → Addr → Prop) : Prop := ∀ (a : Addr) (oe : Obj) (dd : Addr) (pn : List (Addr × Obj)), Zc (.ref (cm c)) (some dd) oe → (∃ vs, oe.data = .fields vs) → P (X.suite a ((a, oe) :: pn)) a oe dd
abbrev HE (X : Cx) (cm : Cm) (i : Nat) (c : Str) (e : Expr) (m : HM) : Prop := HExp X cm c fun X' a _ dd => PE X' e (tH X'.K cm X'.N.length i a c dd m)
abbrev HA (X : Cx) (cm : Cm) (i : Nat) (c : Str) (es : List Expr) (m : W → M (List W)) : Prop := HExp X cm c fun X' a _ dd => PA X' es (tHA X'.K cm X'.N.length i a c dd m)
theorem pe_varL {X : Cx} {i : Nat} {x : Str} {pos : Pos} (hN : X.N[i]? = some x) (hv : Vis X.env.scope x) (hd : (x == ("__debug__" : Str)) = false) (hcd : (x == ("__classdict__" : Str)) = false) :
    PE X (.Name x pos) (fun σ H Q => σ.length = X.N.length → ∃ v, σ[i]? = some (some v) ∧ Q v H) :=
  ⟨fun pins s σ H Q I q => (pe_var (i := i) hN hv hd hcd).run pins s σ H Q I (q I.len)⟩
section
variable {X : Cx} {cm : Cm} {i : Nat} {c n f x : Str} {e t : Expr} {es : List Expr} {ma : ME} {m : HM} {mr : W → M (List W)} {m0 : M W} {pos p p1 p2 : Pos}
theorem he_of (r : ∀ (a : Addr) (pn : List (Addr × Obj)), RE (X.suite a pn) cm e ma) (hm : ∀ n, ma (List.replicate n none) = m0) : HE X cm i c e (fun _ => m0) := fun a oe dd pn _ _ =>
  peM (r a ((a, oe) :: pn)) fun σ H Q q => by
    obtain ⟨ρ, h, v, v', w, h', rh, ex, rv, es, e, k⟩ := q
    exact ⟨ρ, h, List.replicate σ.length none, w, h', rh, ⟨List.length_replicate, fun j w' z => by simp [List.getElem?_replicate] at z⟩, by rw [hm]; exact e, k⟩
theorem he_fld (T : XfC X.K (cm c)) (hno : PySem.W.findIn X.K (.ref (cm c)) f = some none) (hf : fieldOf c = f := by rfl) (hN : X.N[i]? = some n := by rfl) (hv : Vis X.env.scope n := by first | exact Or.inl rfl | exact Or.inr (Or.inl rfl) | exact Or.inr (Or.inr rfl))
    (hd : (n == ("__debug__" : Str)) = false := by decide) (hcd : (n == ("__classdict__" : Str)) = false := by decide) (hb : attributeBase (.Name n p1) f X.env (eval (.Name n p1) X.env) = eval (.Name n p1) X.env := by rfl) :
    HE X cm i c (.Attribute (.Name n p1) f pos) (fun v => rtn v) := fun a oe dd pn hz hfs =>
  peM (pe_xf T hno hz hfs (pe_varL (X := X.suite a ((a, oe) :: pn)) (i := i) hN hv hd hcd) hb) fun σ H Q q => by
    obtain ⟨ρ, h, v, v', w, h', rh, ex, rv, es, e, k⟩ := q
    cases e
    intro hl
    refine ⟨.ref a, es hl, rfl, rfl, dd, _, v', rfl, ex, ?_, k ρ H v' .refl rh rv⟩
    rw [hf]
    simp
def rIsEd (K : PySem.W.Frag) (D a dd : Addr) : List V → Hp → VK → Prop := fun xs H Q => ∃ (c : V) (cv : Value) (b : Bool) (fs : List (Str × V)), xs = [.ref a, c] ∧ (∀ u, RelV c u → u = cv) ∧ PySem.W.kitOne K (.ref D) cv = some b ∧ H dd = some (.xd fs) ∧ Q (.bl b) H
theorem call_isEd {a D dd : Addr} {oe : Obj} {pn : List (Addr × Obj)} (C : ExcC X.K D) (hz : Zc (.ref D) (some dd) oe) (hf : ∃ vs, oe.data = .fields vs) : CallR (X.suite a ((a, oe) :: pn)) (.builtin "isinstance") (rIsEd X.K D a dd) := by
  intro pins s σ H xs us Q I r h
  obtain ⟨c, cv, b, fs, rfl, hcv, e, ea, q⟩ := h
  cases r with
  | cons rx rr =>
    cases rr with
    | cons rt rr =>
      cases rr
      cases rx
      have ec := hcv _ rt
      subst ec
      obtain ⟨hget, _⟩ := I.pin (a, oe) (List.mem_append.mpr (.inl List.mem_cons_self))
      obtain ⟨vs, hd⟩ := hf
      have hx : ObjOk X.prog X.w H s.heap dd (.xd fs) := I.hok dd _ ea
      obtain ⟨mA, hns, hr⟩ := hx
      obtain ⟨od, ho, hl⟩ := lookIn_ns hns
      have J : PySem.W.InstAt s.heap a oe D (some od) := ⟨hget, hz.1, by unfold PySem.W.notCls; rw [hd] <;> rfl, by rw [hz.2]; exact ho⟩
      have hcl : (PySem.W.clsIn X.K D).isSome = true := by
        obtain ⟨cdD, hcD, _⟩ := PySem.W.any_some C.hd
        rw [hcD] <;> rfl
      exact PySem.W.kia_one (PySem.W.kitx_exc hcl C.hg C.hk C.hs C.ha C.hn C.ht C.hm) I.kIn J e (fun z => nomatch z) fun tk => ⟨.bl b, H, I.kept (t' := tk) fun _ _ z => z, rfl, q⟩
theorem he_isi {tv : V} {cv : Value} {b : Bool} (C : ExcC X.K (cm c)) (hm : X.mg "isinstance" = none) (ht : ∀ (a : Addr) (pn : List (Addr × Obj)), PE (X.suite a pn) t (tC tv)) (hcv : ∀ u, RelV tv u → u = cv) (hk : PySem.W.kitOne X.K (.ref (cm c)) cv = some b) (hN : X.N[i]? = some n := by rfl) (hv : Vis X.env.scope n := by first | exact Or.inl rfl | exact Or.inr (Or.inl rfl) | exact Or.inr (Or.inr rfl))
    (hd : (n == ("__debug__" : Str)) = false := by decide) (hcd : (n == ("__classdict__" : Str)) = false := by decide) (hg : Gl X "isinstance" := by rfl)
    (hs1 : starEach (.Name n p1 :: [t]) X.env = (false, eval (.Name n p1) X.env) :: starEach [t] X.env := by rfl) (hs2 : starEach (t :: []) X.env = (false, eval t X.env) :: starEach [] X.env := by rfl) (hpl : (backTo pos (starEach [t] X.env)).any (·.1) = false := by rfl) :
    HE X cm i c (.Call (.Name "isinstance" p) [.Name n p1, t] [] pos) (fun _ => rtn (.bl b)) := fun a oe dd pn hz hfs =>
  peM (pe_callB (call_isEd C hz hfs) hg hm (by decide +kernel) (pa_cons (pe_varL (X := X.suite a ((a, oe) :: pn)) (i := i) hN hv hd hcd) (pa_cons (ht a _) pa_nil hs2) hs1) (by decide) (by decide) hs1 hpl) fun σ H Q q => by
    obtain ⟨ρ, h, v, v', w, h', rh, ex, rv, es, e, k⟩ := q
    cases e
    intro hl
    exact ⟨.ref a, es hl, tv, cv, b, _, rfl, hcv, hk, ex, k ρ H _ .refl rh (.bl b)⟩
theorem ha_nil : HA X cm i c [] (fun _ => rtn []) := fun a oe dd pn _ _ => paM pa_nil fun σ H Q q => by
  obtain ⟨ρ, h, v, v', w, h', rh, ex, rv, es, e, k⟩ := q
  cases e
  exact k ρ H [] .refl rh .nil
theorem ha_cons (he : HE X cm i c e m) (ha : HA X cm i c es mr) (hs : starEach (e :: es) X.env = (false, eval e X.env) :: starEach es X.env := by rfl) : HA X cm i c (e :: es) (fun v => bnd (m v) fun y => bnd (mr v) fun ys => rtn (y :: ys)) := fun a oe dd pn hz hf =>
  paM (pa_cons (he a oe dd pn hz hf) (ha a oe dd pn hz hf) hs) fun σ H Q q => by
    obtain ⟨ρ, h, v, v', w, h', rh, ex, rv, es, e, k⟩ := q
    obtain ⟨y, h1, e1, e2⟩ := bnd_ok e
    obtain ⟨ys, h2, e3, e4⟩ := bnd_ok e2
    cases e4
    exact ⟨ρ, h, v, v', y, h1, rh, ex, rv, es, e1, fun ρ1 H1 x' l1 rh1 rx => ⟨ρ1, h1, v, v', ys, h', rh1, l1.xd _ _ ex, rv.mono l1, es, e3, fun ρ2 H2 y' l2 rh2 ry => k ρ2 H2 _ (l1.trans l2) rh2 (.cons (rx.mono l2) ry)⟩⟩
def hLst (mr : W → M (List W)) : HM := fun v => bnd (mr v) fun ws h => if ws.length ≤ lim then .ok (.ref h.length) (h ++ [.lst ws]) else .no
theorem he_lst (ha : HA X cm i c es mr) : HE X cm i c (.List es pos) (hLst mr) := fun a oe dd pn hz hf =>
  peM (pe_lst (ha a oe dd pn hz hf)) fun σ H Q q => by
    obtain ⟨ρ, h, v, v', w, h', rh, ex, rv, es, e, k⟩ := q
    obtain ⟨x, h1, e1, e2⟩ := bnd_ok e
    refine ⟨ρ, h, v, v', x, h1, rh, ex, rv, es, e1, fun ρ1 H1 x' l1 rh1 rx => ?_⟩
    split at e2
    · cases e2
      exact ⟨by rw [← rx.length, ← lim_eq]; assumption, fun p hp => new_lst rh1 rx hp fun ρ2 H2 v l2 => k ρ2 H2 v (l1.trans l2)⟩
    · cases e2
theorem he_callB {id : String} {r : List V → Hp → VK → Prop} {g : List W → M W} (hc : ∀ (a : Addr) (pn : List (Addr × Obj)), CallR (X.suite a pn) (.builtin id) r) (cw : CallW X.K cm r g) (hm : X.mg x = none) (ha : HA X cm i c (e :: es) mr) (hv : bootBuiltins x = some (.builtin id) := by decide +kernel) (hg : Gl X x := by rfl) (hn : x ≠ "__name__" := by decide) (hdb : (x == ("__debug__" : Str)) = false := by decide)
    (he : starEach (e :: es) X.env = (false, eval e X.env) :: starEach es X.env := by rfl) (hpl : (backTo pos (starEach es X.env)).any (·.1) = false := by rfl) : HE X cm i c (.Call (.Name x p) (e :: es) [] pos) (fun v => bnd (mr v) g) := fun a oe dd pn hz hf =>
  peM (pe_callB (hc a _) hg hm hv (ha a oe dd pn hz hf) hn hdb he hpl) fun σ H Q q => by
    obtain ⟨ρ, h, v, v', w, h', rh, ex, rv, es, e, k⟩ := q
    obtain ⟨ws, h1, e1, e2⟩ := bnd_ok e
    exact ⟨ρ, h, v, v', ws, h1, rh, ex, rv, es, e1, fun ρ1 H1 vs l1 rh1 rx => cw ρ1 h1 H1 ws vs w h' Q rh1 rx e2 fun ρ2 H2 v l2 => k ρ2 H2 v (l1.trans l2)⟩
end
/-! ### the clauses -/
abbrev HL := List (Str × List Str × HM)
def goH : HL → Str → W → M Fl
  | [], c, v => fun h => .ex c v h
  | (c0, no, m) :: r, c, v => fun h => if (c == c0) = true then (match m v h with
    | .ok w h' => .ok (.rt w) h'
    | _ => .no) else if no.contains c = true then goH r c v h else .no
def sTryY (b : MS) (l : HL) : MS := fun sw h => match b sw h with
  | .ok f h' => .ok f h'
  | .ex c v h' => goH l c v h'
  | .no => .no
def tHS (K : PySem.W.Frag) (cm : Cm) (L i : Nat) (c : Str) (m : HM) : HT := fun a cls d D σ H => ∃ dd, cls = .ref (cm c) ∧ d = some dd ∧ tH K cm L i a c dd m σ H D.rt
inductive HdY (X : Cx) (cm : Cm) : List ExceptHandler → HL → List (Value × Nat × HT) → Prop
  | nil : HdY X cm [] [] []
  | cons {x n c : Str} {no : List Str} {m : HM} {cv : Value} {i : Nat} {e : Expr} {p1 p2 p3 : Pos} {hs : List ExceptHandler} {l : HL} {lw : List (Value × Nat × HT)} (nm : Names X x cv) (yes : PySem.W.exmOne X.K (.ref (cm c)) cv = some true) (nos : ∀ q ∈ no, PySem.W.exmOne X.K (.ref (cm q)) cv = some false)
      (nd : X.N.Nodup) (at_ : X.N[i]? = some n) (lc : X.env.kindOf n = some .local) (he : HE X cm i c e m) (rest : HdY X cm hs l lw) :
      HdY X cm (.ExceptHandler (some (.Name x p1)) (some n) [.Return (some e) p3] p2 :: hs) ((c, no, m) :: l) ((cv, i, tHS X.K cm X.N.length i c m) :: lw)
section
variable {X : Cx} {cm : Cm} {E : XK} {hs : List ExceptHandler} {l : HL} {lw : List (Value × Nat × HT)}
theorem HdY.hdN (k : HdY X cm hs l lw) : HdN X hs lw := by
  induction k with
  | nil => exact .nil
  | cons nm yes nos nd at_ lc he rest ih =>
    refine .cons nm nd at_ lc (fun a ob cls d pn hz hf => ?_) ih
    refine pss_one ⟨fun pins s σ H D I q => ?_⟩
    obtain ⟨dd, rfl, rfl, q⟩ := q
    exact (ps_ret (he a ob dd pn hz hf)).run pins s σ H D I q
theorem HdY.go (k : HdY X cm hs l lw) {D : Ends} {ρ : List Addr} {h : Hw} {H : Hp} {c : Str} {v : W} {v' : V} {dd : Addr} {σ : St} (rh : RelH X.K cm ρ h H) (ex : H dd = some (.xd [(fieldOf c, v')])) (rv : Rel X.K ρ H v v') :
    OutS X.K cm E ρ H (goH l c v h) D → wN X.K (fun cls d _ H => E cls d H) D lw (.ref (cm c)) (some dd) σ H := by
  induction k with
  | nil => exact fun o => o ρ H dd v' .refl rh ex rv
  | @cons x n c0 no m cv i e p1 p2 p3 hs l lw nm yes nos nd at_ lc he rest ih =>
    intro o
    unfold goH at o
    by_cases h1 : (c == c0) = true
    · rw [if_pos h1] at o
      have e1 : c = c0 := by simpa using h1
      subst e1
      refine ⟨true, yes, fun _ a na => ?_, (fun z => by cases z)⟩
      refine ⟨dd, rfl, rfl, ρ, h, v, v', ?_⟩
      cases em : m v h with
      | no => rw [em] at o; exact o.elim
      | ex c v h' => rw [em] at o; exact o.elim
      | ok w h' =>
        rw [em] at o
        refine ⟨w, h', rh, ex, rv, fun hl => ?_, rfl, o⟩
        rw [List.getElem?_set, if_pos rfl, if_pos]
        have := (List.getElem?_eq_some_iff.mp at_).1
        rw [List.length_set] at hl
        omega
    · rw [if_neg h1] at o
      split at o
      · rename_i h2
        exact ⟨false, nos c (by simpa using h2), (fun z => by cases z), fun _ => ih o⟩
      · exact o.elim
theorem ys_try {body : List Stmt} {h0 : ExceptHandler} {m : MS} {pos : Pos} (stk : X.stack = X.env :: X.outer := by rfl) (fr : X.env.frame = some X.env.locals := by rfl) (tk : Tak X E)
    (hb : ∀ (E' : XK) (pn : List (Addr × Obj)) (xe : Value → Shared → Prop), Tak (X.tr pn xe) E' → PassesOwn (model X.prog X.w) X.A X.env xe → YSs (X.tr pn xe) cm E' body m) (hh : HdY X cm (h0 :: hs) l lw) :
    YS X cm E (.Try body (h0 :: hs) [] [] pos) (sTryY m l) := by
  refine psM (ps_tryN (Wout := fun cls d _ H => E cls d H) (tb := fun W => yS X.K cm (fun cls d H => ∀ σ, W cls d σ H) m) stk fr tk (fun W pn xe tw po => hb _ pn xe (tw.imp fun c d σ H q => q σ) po) hh.hdN) fun D σ H q => ?_
  obtain ⟨ρ, h, sw, rh, rs, o⟩ := q
  refine ⟨ρ, h, sw, rh, rs, ?_⟩
  unfold sTryY at o
  cases e1 : m sw h with
  | no => rw [e1] at o; exact o
  | ok f h' => rw [e1] at o; exact o
  | ex c v h' =>
    rw [e1] at o
    exact fun ρ' H' d v' ll rh' ex rv σ' => hh.go rh' ex rv (OutS.le ll o)
end
end EL
set_option maxHeartbeats 2000000
/-! EL30: sets of texts, isinstance of one of two, any, extend, stars in displays, displays of dicts, lists times ints. -/
namespace EL
open PySem PySem.Spec L2
open PyProof.Rows hiding St

/-! ### sets of texts -/
def bSet0 : ME := fun _ => alloc (.st [])
def stOf (h : Hw) (x : W) : Option (Nat × List Str) := match x with
  | .ref p => match h[p]? with
    | some (.st ks) => some (p, ks)
    | _ => none
  | _ => none
def fInS (neg : Bool) (x y : W) : M W := fun h => match x, stOf h y with
  | .str s, some (_, ks) => .ok (.bl (neg != ks.contains s)) h
  | _, _ => .no
def mSAdd (mo me : ME) : ME := fun sw => bnd (mo sw) fun x h0 => match stOf h0 x with
  | some _ => bnd (me sw) (fun y h => match y, stOf h x with
    | .str s, some (p, ks) => if ks.length + 2 < 4096 then .ok .non (h.set p (.st (s :: ks))) else .no
    | _, _ => .no) h0
  | none => .no
theorem stOf_of {K : PySem.W.Frag} {cm : Cm} {ρ : List Addr} {h : Hw} {H : Hp} {x : W} {v : V} {p : Nat} {ks : List Str} (rh : RelH K cm ρ h H) (r : Rel K ρ H x v) (e : stOf h x = some (p, ks)) :
    x = .ref p ∧ h[p]? = some (.st ks) ∧ ∃ a n, v = .ref a ∧ ρ[p]? = some a ∧ n ≤ ks.length ∧ H a = some (SetK cm.P cm.w a (inSt ks) n) := by
  unfold stOf at e
  split at e
  · rename_i q
    split at e
    · rename_i ks' hk
      cases e
      cases r with
      | ref hp =>
        obtain ⟨n, ln, ea⟩ := rh.obj _ _ _ hk hp
        exact ⟨rfl, hk, _, n, rfl, hp, ln, ea⟩
    · cases e
  · cases e
theorem inSt_cons (s : Str) (ks : List Str) : (fun j : Key => inSt ks j || decide (j = .inr s)) = inSt (s :: ks) := by
  funext j
  cases j with
  | inl i => simp [inSt]
  | inr x =>
    by_cases h : x = s
    · subst h; simp [inSt]
    · have hn : ¬ (Sum.inr x : Key) = .inr s := fun z => h (by cases z; rfl)
      simp [inSt, hn, h]
section
variable {X : Cx} {cm : Cm} {a b e : Expr} {ma mb me : ME} {pos apos cpos p : Pos} {x : Str}
theorem re_set0 (eP : cm.P = X.prog) (eW : cm.w = X.w) (hm : X.mg "set" = none) (hg : Gl X "set" := by rfl) : RE X cm (.Call (.Name "set" p) [] [] pos) bSet0 := by
  obtain ⟨cf, cP, cw⟩ := cm
  dsimp only at eP eW
  subst eP eW
  refine peM (pe_callTy0 cr_set0K hg hm (by decide +kernel) (by decide) (by decide)) fun σ H Q q => ?_
  obtain ⟨ρ, h, sw, w, h', rh, rs, e, k⟩ := q
  cases e
  refine ⟨rfl, fun p hp => ?_⟩
  have l := (le_new (K := X.K) (ρ := ρ) (o := SetK X.prog X.w p (fun _ => false) 0) hp).trans (le_app p)
  refine k (ρ ++ [p]) _ _ l (rh.push hp ⟨0, Nat.le_refl _, ?_⟩) (.ref (push_at rh))
  rw [upd_same]
  congr 2
  funext j
  cases j <;> simp [inSt]
theorem wInS (eP : cm.P = X.prog) (eW : cm.w = X.w) (neg : Bool) : OpW X.K cm (rSInK X.prog X.w neg) (fInS neg) := by
  intro ρ h H x y x' y' z h' Q rh rx ry e k
  obtain ⟨cf, cP, cw⟩ := cm
  dsimp only at eP eW
  subst eP eW
  unfold fInS at e
  split at e
  · rename_i s p ks hs
    cases e
    obtain ⟨_, _, a, n, rfl, _, _, ea⟩ := stOf_of rh ry hs
    cases rx
    refine ⟨.inr s, a, _, n, rfl, rfl, ea, ?_⟩
    have : (if neg = true then !inSt ks (.inr s) else inSt ks (.inr s)) = (neg != ks.contains s) := by
      cases neg <;> simp [inSt]
    rw [this]
    exact k.at rh (.bl _)
  · cases e
theorem re_sadd (eP : cm.P = X.prog) (eW : cm.w = X.w) (ho : RE X cm a ma) (he : RE X cm e me)
    (hbase : attributeBase a "add" X.env (eval a X.env) = eval a X.env := by rfl)
    (hfew : ((backTo cpos (starEach [e] X.env)).all (fun x => !x.1) && (backToKw cpos (keywordEach [] X.env)).all (fun x => x.1.isSome)
      && decide (([e] : List Expr).length + ([] : List Keyword).length + (if ([] : List Keyword).isEmpty then 0 else 1) < 30)) = true := by rfl)
    (hline : (apos.endLine == cpos.line) = true := by rfl) (hs : starEach [e] X.env = (false, eval e X.env) :: starEach [] X.env := by rfl) (hplain : (backTo cpos (starEach [] X.env)).any (·.1) = false := by rfl) :
    RE X cm (.Call (.Attribute a "add" apos) [e] [] cpos) (mSAdd ma me) := by
  obtain ⟨cf, cP, cw⟩ := cm
  dsimp only at eP eW
  subst eP eW
  refine peM (pe_saddK ho (pa_cons he pa_nil hs) hbase hfew hline hs hplain) fun σ H Q q => ?_
  obtain ⟨ρ, h, sw, w, h', rh, rs, e, k⟩ := q
  obtain ⟨x, h1, e1, e2⟩ := bnd_ok e
  refine ⟨ρ, h, sw, x, h1, rh, rs, e1, fun ρ1 H1 x' l1 rh1 rx => ?_⟩
  split at e2
  · rename_i q hq
    obtain ⟨q1, q2⟩ := q
    obtain ⟨ex, _, a0, n, rfl, hp0, _, ea⟩ := stOf_of rh1 rx hq
    obtain ⟨y, h2, e3, e4⟩ := bnd_ok e2
    refine ⟨⟨a0, _, n, rfl, ea⟩, ρ1, h1, sw, y, h2, rh1, rs.mono l1, e3, fun ρ2 H2 y' l2 rh2 ry => ?_⟩
    split at e4
    · rename_i s p2 ks hs2
      split at e4
      · rename_i hlt
        cases e4
        obtain ⟨ex2, hk2, a2, n2, ev2, hp2, ln2, ea2⟩ := stOf_of rh2 (rx.mono l2) hs2
        cases ev2
        cases ry
        refine ⟨a0, .inr s, _, n2, rfl, rfl, ea2, by show n2 + 1 < 4096; omega, ?_⟩
        rw [inSt_cons]
        have lu : Le X.K ρ2 H2 ρ2 (upd H2 a0 (SetK X.prog X.w a0 (inSt (s :: ks)) (if inSt ks (.inr s) = true then n2 else n2 + 1))) := le_mut ea2 trivial
        refine k ρ2 _ .non (l1.trans (l2.trans lu)) (rh2.set hp2 ea2 trivial ⟨_, ?_, upd_same⟩) .non
        rw [List.length_cons]
        split <;> omega
      · cases e4
    · cases e4
  · cases e2

/-! ### isinstance(x, (S, T)) -/
def mIsi2 (S T : String) (a : ME) : ME := fun sw => bnd (a sw) fun x h => match tyName h x with
  | some n => match kitB n S, kitB n T with
    | some b, some c => .ok (.bl (b || c)) h
    | _, _ => .no
  | none => .no
theorem re_isi2 {S T : String} {y : Str} {p2 p3 tp : Pos} {x1} (hm : X.mg "isinstance" = none) (hS : X.mg x = none) (hT : X.mg y = none) (ha : RE X cm a ma) (hv : bootBuiltins x = some (.type S) := by decide +kernel) (hv2 : bootBuiltins y = some (.type T) := by decide +kernel) (hg : Gl X "isinstance" := by rfl) (hg2 : Gl X x := by rfl) (hg3 : Gl X y := by rfl)
    (hn : x ≠ "__name__" := by decide) (hd : (x == ("__debug__" : Str)) = false := by decide) (hn2 : y ≠ "__name__" := by decide) (hd2 : (y == ("__debug__" : Str)) = false := by decide)
    (hs1 : starEach (a :: [.Tuple [.Name x p2, .Name y p3] x1 tp]) X.env = (false, eval a X.env) :: starEach [.Tuple [.Name x p2, .Name y p3] x1 tp] X.env := by rfl)
    (hs2 : starEach (.Tuple [.Name x p2, .Name y p3] x1 tp :: []) X.env = (false, eval (.Tuple [.Name x p2, .Name y p3] x1 tp) X.env) :: starEach [] X.env := by rfl)
    (hs3 : starEach (.Name x p2 :: [.Name y p3]) X.env = (false, eval (.Name x p2) X.env) :: starEach [.Name y p3] X.env := by rfl) (hs4 : starEach (.Name y p3 :: []) X.env = (false, eval (.Name y p3) X.env) :: starEach [] X.env := by rfl)
    (hpl : (backTo pos (starEach [.Tuple [.Name x p2, .Name y p3] x1 tp] X.env)).any (·.1) = false := by rfl) :
    RE X cm (.Call (.Name "isinstance" p) [a, .Tuple [.Name x p2, .Name y p3] x1 tp] [] pos) (mIsi2 S T ma) := by
  refine peM (pe_callB call_isiT hg hm (by decide +kernel) (pa_cons ha (pa_cons (pe_tup (pa_cons (pe_bltn (v := .ty S) hg2 hS hv rfl hn hd) (pa_cons (pe_bltn (v := .ty T) hg3 hT hv2 rfl hn2 hd2) pa_nil hs4) hs3)) pa_nil hs2) hs1) (by decide) (by decide) hs1 hpl) fun σ H Q q => ?_
  obtain ⟨ρ, h, sw, w, h', rh, rs, e, k⟩ := q
  obtain ⟨y', h1, e1, e2⟩ := bnd_ok e
  refine ⟨ρ, h, sw, y', h1, rh, rs, e1, fun ρ1 H1 v l1 rh1 rx => ?_⟩
  refine ⟨by show 2 ≤ sizeLine; rw [sizeLine_eq]; omega, fun tq hq => ?_⟩
  have l2 : Le X.K ρ1 H1 ρ1 (upd H1 tq (.tup [.ty S, .ty T])) := le_new hq
  split at e2
  · rename_i n hn'
    split at e2
    · rename_i bb cc hb hc
      cases e2
      refine ⟨v, tq, [.ty S, .ty T], .type n, [.type S, .type T], bb || cc, rfl, upd_same, .cons (.ty S) (.cons (.ty T) .nil), tyX_of (rh1.new hq) (rx.mono l2) hn', ?_, k ρ1 _ _ (l1.trans l2) (rh1.new hq) (.bl _)⟩
      refine kitAny_cons (kit_ty hb) (fun hz => ?_) (fun hz => by rw [hz, Bool.true_or])
      rw [hz, Bool.false_or]
      exact kitAny_cons (kit_ty hc) (fun h2 => by rw [h2]; rfl) (fun h2 => h2)
    · cases e2
  · cases e2

/-! ### any -/
def bAny : List W → M W
  | [x] => fun h => match items h x with
    | some xs => (match wBls xs with
      | some ns => .ok (.bl (ns.any id)) h
      | none => .no)
    | none => .no
  | _ => bad
theorem wAny : CallW X.K cm (rAny X.K) bAny := by
  intro ρ h H ws vs z h' Q rh r e k
  cases ws with
  | nil => cases e
  | cons x t =>
    cases t with
    | cons _ _ => cases e
    | nil =>
      obtain ⟨v, rfl, rx⟩ := one_of r
      have e' : (match items h x with
        | some xs => (match wBls xs with
          | some ns => EL.R.ok (W.bl (ns.any id)) h
          | none => EL.R.no)
        | none => EL.R.no) = .ok z h' := e
      split at e'
      · rename_i xs hi
        split at e'
        · rename_i ns hn
          cases e'
          obtain ⟨a, us, rfl, hq, rl⟩ := items_of rh rx hi
          have q := wBls_of hn
          subst q
          rw [Rels.of_bls rl] at hq
          exact ⟨a, ns, rfl, hq, k.at rh (.bl _)⟩
        · cases e'
      · cases e'

/-! ### xs.extend(ys), both made here -/
def lsOf (h : Hw) (x : W) : Option (Nat × List W) := match x with
  | .ref p => match h[p]? with
    | some (.lst ks) => some (p, ks)
    | _ => none
  | _ => none
theorem lsOf_of {K : PySem.W.Frag} {cm : Cm} {ρ : List Addr} {h : Hw} {H : Hp} {x : W} {v : V} {p : Nat} {ks : List W} (rh : RelH K cm ρ h H) (r : Rel K ρ H x v) (e : lsOf h x = some (p, ks)) :
    x = .ref p ∧ h[p]? = some (.lst ks) ∧ ∃ a vs, v = .ref a ∧ ρ[p]? = some a ∧ H a = some (.lst vs) ∧ Rels K ρ H ks vs := by
  unfold lsOf at e
  split at e
  · rename_i q
    split at e
    · rename_i ks' hk
      cases e
      cases r with
      | ref hp =>
        obtain ⟨vs, ea, rl⟩ := rh.lst hp hk
        exact ⟨rfl, hk, _, vs, rfl, hp, ea, rl⟩
    · cases e
  · cases e
def mExt (mo me : ME) : ME := fun sw => bnd (mo sw) fun x h0 => match lsOf h0 x with
  | some _ => bnd (me sw) (fun y h => match lsOf h x, lsOf h y with
    | some (p, xs), some (_, ys) => if xs.length + ys.length ≤ lim then .ok .non (h.set p (.lst (xs ++ ys))) else .no
    | _, _ => .no) h0
  | none => .no
theorem re_extend (ho : RE X cm a ma) (he : RE X cm e me)
    (hbase : attributeBase a "extend" X.env (eval a X.env) = eval a X.env := by rfl)
    (hfew : ((backTo cpos (starEach [e] X.env)).all (fun x => !x.1) && (backToKw cpos (keywordEach [] X.env)).all (fun x => x.1.isSome)
      && decide (([e] : List Expr).length + ([] : List Keyword).length + (if ([] : List Keyword).isEmpty then 0 else 1) < 30)) = true := by rfl)
    (hline : (apos.endLine == cpos.line) = true := by rfl) (hs : starEach [e] X.env = (false, eval e X.env) :: starEach [] X.env := by rfl) (hplain : (backTo cpos (starEach [] X.env)).any (·.1) = false := by rfl) :
    RE X cm (.Call (.Attribute a "extend" apos) [e] [] cpos) (mExt ma me) := by
  refine peM (pe_bm PySem.F.plainAttrs_list PySem.F.slot_list_extend PySem.F.type_list_extend mt_extend ho (pa_cons he pa_nil hs) hbase hfew hline hs hplain) fun σ H Q q => ?_
  obtain ⟨ρ, h, sw, w, h', rh, rs, e, k⟩ := q
  obtain ⟨x, h1, e1, e2⟩ := bnd_ok e
  refine ⟨ρ, h, sw, x, h1, rh, rs, e1, fun ρ1 H1 x' l1 rh1 rx => ?_⟩
  split at e2
  · rename_i q hq
    obtain ⟨q1, q2⟩ := q
    obtain ⟨ex, _, a0, vs0, rfl, _, ea0, _⟩ := lsOf_of rh1 rx hq
    obtain ⟨y, h2, e3, e4⟩ := bnd_ok e2
    refine ⟨.inl ⟨rfl, vs0, .of ea0⟩, ρ1, h1, sw, y, h2, rh1, rs.mono l1, e3, fun ρ2 H2 y' l2 rh2 ry => ?_⟩
    split at e4
    · rename_i p2 xs _ ys hx2 hy2
      split at e4
      · rename_i hlt
        cases e4
        obtain ⟨_, _, a2, vs2, ev2, hp2, ea2, rl2⟩ := lsOf_of rh2 (rx.mono l2) hx2
        cases ev2
        obtain ⟨_, _, b2, us2, rfl, _, eb2, rl3⟩ := lsOf_of rh2 ry hy2
        have lu : Le X.K ρ2 H2 ρ2 (upd H2 a0 (.lst (vs2 ++ us2))) := le_mut ea2 trivial
        exact ⟨a0, b2, vs2, us2, rfl, rfl, ea2, eb2, by rw [← rl2.length, ← rl3.length, ← lim_eq]; exact hlt, k ρ2 _ .non (l1.trans (l2.trans lu)) (rh2.set hp2 ea2 trivial ⟨_, upd_same, (rl2.append rl3).mono lu⟩) .non⟩
      · cases e4
    · cases e4
  · cases e2

/-! ### stars in displays -/
def itemsT (h : Hw) (x : W) : Option (List W) := match items h x with
  | some xs => some xs
  | none => tupOf x
theorem itemsT_of {K : PySem.W.Frag} {cm : Cm} {ρ : List Addr} {h : Hw} {H : Hp} {x : W} {v : V} {xs : List W} (rh : RelH K cm ρ h H) (r : Rel K ρ H x v) (e : itemsT h x = some xs) :
    ∃ a vs, v = .ref a ∧ (SqT K H a vs ∨ SqL K H a vs) ∧ Rels K ρ H xs vs := by
  unfold itemsT at e
  split at e
  · rename_i ys hi
    cases e
    obtain ⟨a, us, rfl, hq, rl⟩ := items_of rh r hi
    exact ⟨a, us, rfl, .inr hq, rl⟩
  · obtain ⟨a, us, rfl, hq, rl⟩ := tupOf_of r e
    exact ⟨a, us, rfl, .inl hq, rl⟩
def aStar (a : ME) (r : MA) : MA := fun sw => bnd (a sw) fun x h => match itemsT h x with
  | some xs => bnd (r sw) (fun ys => rtn (xs ++ ys)) h
  | none => .no
theorem ra_star {es : List Expr} {mr : MA} {sp : Pos} (ha : RE X cm a ma) (hr : RA X cm es mr) (hs : starEach (.Starred a sp :: es) X.env = (true, eval a X.env) :: starEach es X.env := by rfl) : RA X cm (.Starred a sp :: es) (aStar ma mr) := by
  refine paM (StX.pa_star ha hr hs) fun σ H Q q => ?_
  obtain ⟨ρ, h, sw, w, h', rh, rs, e, k⟩ := q
  obtain ⟨x, h1, e1, e2⟩ := bnd_ok e
  refine ⟨ρ, h, sw, x, h1, rh, rs, e1, fun ρ1 H1 x' l1 rh1 rx => ?_⟩
  split at e2
  · rename_i xs hi
    obtain ⟨a0, us, rfl, hq, rl⟩ := itemsT_of rh1 rx hi
    obtain ⟨ys, h2, e3, e4⟩ := bnd_ok e2
    cases e4
    exact ⟨a0, us, rfl, hq, ρ1, h1, sw, ys, h', rh1, rs.mono l1, e3, fun ρ2 H2 y' l2 rh2 ry => k ρ2 H2 _ (l1.trans l2) rh2 ((rl.mono l2).append ry)⟩
  · cases e2

/-! ### {k: v, ..} -/
def pairsM : List (ME × ME) → SW → M (List (W × W))
  | [], _ => rtn []
  | (mk, mv) :: r, sw => bnd (mk sw) fun x => bnd (mv sw) fun y => bnd (pairsM r sw) fun ps => rtn ((x, y) :: ps)
abbrev RPs (K : PySem.W.Frag) (ρ : List Addr) (H : Hp) : List (W × W) → List (V × V) → Prop := Paired fun w v => Rel K ρ H w.1 v.1 ∧ Rel K ρ H w.2 v.2
theorem pairs_t {K : PySem.W.Frag} {cm : Cm} {σ : St} {sw : SW} : ∀ {l : List (ME × ME)} {ρ : List Addr} {h h' : Hw} {H : Hp} {ps : List (W × W)} {Q : List (V × V) → Hp → Prop}, RelH K cm ρ h H → RelS K ρ H sw σ → pairsM l sw h = .ok ps h' →
    (∀ ρ' H' vps, Le K ρ H ρ' H' → RelH K cm ρ' h' H' → RPs K ρ' H' ps vps → Q vps H') → tPairs (l.map fun q => (tE K cm q.1, tE K cm q.2)) σ H Q := by
  intro l
  induction l with
  | nil =>
    intro ρ h h' H ps Q rh rs e k
    cases e
    exact k ρ H [] .refl rh .nil
  | cons q r ih =>
    intro ρ h h' H ps Q rh rs e k
    obtain ⟨mk, mv⟩ := q
    obtain ⟨x, h1, e1, e2⟩ := bnd_ok e
    obtain ⟨y, h2, e3, e4⟩ := bnd_ok e2
    obtain ⟨qs, h3, e5, e6⟩ := bnd_ok e4
    cases e6
    refine ⟨ρ, h, sw, x, h1, rh, rs, e1, fun ρ1 H1 x' l1 rh1 rx => ?_⟩
    refine ⟨ρ1, h1, sw, y, h2, rh1, rs.mono l1, e3, fun ρ2 H2 y' l2 rh2 ry => ?_⟩
    refine ih rh2 (rs.mono (l1.trans l2)) e5 fun ρ3 H3 vps l3 rh3 rp => ?_
    exact k ρ3 H3 _ (l1.trans (l2.trans l3)) rh3 (.cons ⟨rx.mono (l2.trans l3), ry.mono l3⟩ rp)
def keyPs (ps : List (W × W)) : Option (List (Key × W)) := mapO (fun p => (keyW p.1).map fun k => (k, p.2)) ps
theorem keyPs_of {K : PySem.W.Frag} {ρ : List Addr} {H : Hp} : ∀ {ps : List (W × W)} {vps : List (V × V)} {kvs : List (Key × W)}, RPs K ρ H ps vps → keyPs ps = some kvs → ∃ kv : List (Key × V), vps = kv.map (fun q => (kV q.1, q.2)) ∧ KVs K ρ H kvs kv
  | _, _, _, .nil, e => by cases e; exact ⟨[], rfl, .nil⟩
  | p :: ps, v :: vps, kvs, .cons r t, e => by
    unfold keyPs mapO at e
    split at e
    · rename_i y ys e1 e2
      cases e
      obtain ⟨kv, ev, rk⟩ := keyPs_of t e2
      cases q : keyW p.1 with
      | none => rw [q] at e1; cases e1
      | some k0 =>
        rw [q] at e1
        cases e1
        obtain ⟨v1, v2⟩ := v
        have ek := keyW_of r.1 q
        refine ⟨(k0, v2) :: kv, ?_, .cons r.2 rk⟩
        rw [List.map_cons, ← ev]
        dsimp only at ek
        rw [ek]
    · cases e
def mDispN (l : List (ME × ME)) : ME := fun sw => bnd (alloc (.dK [])) fun d => bnd (pairsM l sw) fun ps h => match dMut h d, keyPs ps with
  | some (p, []), some kvs => if kvs.length ≤ 15 then .ok d (h.set p (.dK (mergeKW [] kvs))) else .no
  | _, _ => .no
theorem re_dispN {l : List (ME × ME)} {keys : List (Option Expr)} {values : List Expr} (hp : PPs X pos keys values (l.map fun q => (tE X.K cm q.1, tE X.K cm q.2))) (hall : keys.all (·.isSome) = true := by rfl) (hl : keys.length = values.length := by rfl) (h0 : keys ≠ [] := by exact List.cons_ne_nil _ _) (h15 : keys.length ≤ 15 := by decide) :
    RE X cm (.Dict keys values pos) (mDispN l) := by
  refine peM (pe_disp hp hall hl h0 h15) fun σ H Q q => ?_
  obtain ⟨ρ, h, sw, w, h', rh, rs, e, kq⟩ := q
  obtain ⟨d, h1, e1, e2⟩ := bnd_ok e
  obtain ⟨ps, h2, e3, e4⟩ := bnd_ok e2
  cases e1
  intro p hp
  have l1 : Le X.K ρ H (ρ ++ [p]) (upd H p (.dK [])) := (le_new hp).trans (le_app p)
  have rh1 : RelH X.K cm (ρ ++ [p]) (h ++ [.dK []]) (upd H p (.dK [])) := rh.push hp ⟨[], upd_same, rfl, .nil⟩
  refine pairs_t rh1 (rs.mono l1) e3 fun ρ3 H3 vps l3 rh3 rp => ?_
  have hpp : ρ3[h.length]? = some p := pre_get l3.pre (push_at rh)
  split at e4
  · rename_i p' kvs hd hk
    obtain ⟨ad, kv0, ex, hp', ev, ea, rk⟩ := dMut_of rh3 (.ref hpp) hd
    cases ex
    cases ev
    cases rk
    split at e4
    · rename_i hlt
      cases e4
      obtain ⟨kv, ev, rk⟩ := keyPs_of rp hk
      refine ⟨ea, kv, ev, by rw [← rk.length]; exact hlt, ?_⟩
      have lu : Le X.K ρ3 H3 ρ3 (upd H3 p (.dK (mergeK [] kv))) := le_mut ea trivial
      exact kq ρ3 _ _ (l1.trans (l3.trans lu)) (rh3.set hpp ea trivial (relO_dK (KVs.merge (rk.mono lu) .nil))) (.ref hpp)
    · cases e4
  · cases e4

/-! ### xs * k -/
def fRep (x y : W) : M W := fun h => match lsOf h x, y with
  | some (_, xs), .int k => if -(2 ^ 63) ≤ k ∧ k < 2 ^ 63 ∧ xs.length * k.toNat ≤ lim then .ok (.ref h.length) (h ++ [.lst (List.replicate k.toNat xs).flatten]) else .no
  | _, _ => .no
theorem rels_rep {K : PySem.W.Frag} {ρ : List Addr} {H : Hp} {ws : List W} {vs : List V} (r : Rels K ρ H ws vs) : ∀ n, Rels K ρ H (List.replicate n ws).flatten (List.replicate n vs).flatten
  | 0 => .nil
  | n + 1 => by
    rw [List.replicate_succ, List.replicate_succ, List.flatten_cons, List.flatten_cons]
    exact r.append (rels_rep r n)
theorem wRep : OpW X.K cm rRep fRep := by
  intro ρ h H x y x' y' z h' Q rh rx ry e k
  unfold fRep at e
  split at e
  · rename_i p xs kk hs
    split at e
    · rename_i hc
      cases e
      obtain ⟨_, _, a, vs, rfl, _, ea, rl⟩ := lsOf_of rh rx hs
      cases ry
      exact ⟨a, kk, vs, rfl, rfl, ea, hc.1, hc.2.1, by rw [← rl.length, ← lim_eq]; exact hc.2.2, fun p hp => new_lst rh (rels_rep rl _) hp k⟩
    · cases e
  · cases e
end
end EL
set_option maxHeartbeats 2000000
/-! EL31: what the written part must say of the errors. -/
namespace EL
open PySem PySem.Spec L2
open PyProof.Rows hiding St

theorem oexG_of {K : PySem.W.Frag} {C : Addr} {nm : Str} {nw : String} {tl : List Value} {q N bs bm sn sub ab col dd k0 k1 k2 k3 k5} (fam : FamI nw tl) (ho : K.lookup C = some (excClassObj nm q C N bs bm true sn sub ab col dd k0 k1 k2 k3 k5 nw)) (ht : PySem.W.excTail tl bm = true) (sa : PySem.W.findIn K (.ref C) "__setattr__" = some (some (.builtin "object.__setattr__"))) (exC : PySem.W.subIn K (.ref C) (.type "BaseException") = some true) (tyC : PySem.W.typeIn K (.ref C) = some (.type "type")) (kC : PySem.W.keepIn K (.ref C) = true) : OexG K C :=
  ⟨⟨nw, tl, nm, q, N, bs, bm, sn, sub, ab, col, dd, k0, k1, k2, k3, k5, fam, ho, ht⟩, sa, exC, tyC, kC⟩
/-- an error class, as a clause and isinstance see it -/
structure HxC (K : PySem.W.Frag) (mg : Str → Option Value) (C : Addr) (x f : Str) : Prop where
  xf : XfC K C
  ec : ExcC K C
  nf : PySem.W.findIn K (.ref C) f = some none
  gl : mg x = some (.ref C)
theorem hx_mk {K : PySem.W.Frag} {mg : Str → Option Value} {C : Addr} {x f : Str} (gl : mg x = some (.ref C)) (ga : PySem.W.findIn K (.ref C) "__getattribute__" = some (some (.builtin "BaseException.__getattribute__"))) (gg : PySem.W.findIn K (.ref C) "__getattr__" = some none) (exC : PySem.W.subIn K (.ref C) (.type "BaseException") = some true) (hd : PySem.W.hasDictIn K C = true)
    (ha : PySem.W.findIn K (.ref C) "__class__" = some (some (.builtin "object.__class__"))) (hn : PySem.W.specialIn K (.builtin "object.__class__") "__get__" = some (some (.builtin "getset_descriptor.__get__"))) (ht : PySem.W.takesIn K (.builtin "object.__class__") = some true) (hm : PySem.W.mroIn K C (.type "object") = some true) (nf : PySem.W.findIn K (.ref C) f = some none) : HxC K mg C x f :=
  ⟨⟨ga, gg, exC, hd⟩, ⟨ga, gg, exC, hd, ha, hn, ht, hm⟩, nf, gl⟩
theorem err_mk {P : Program} {w : World} {K : PySem.W.Frag} {mg : Str → Option Value} {base : Heap} {C : Addr} {x q n : Str} {st : Stmt} {fi : Addr} {fd : FuncData} {p1 p2 p3 p4 : Pos} (T : OexG K C) (gl : mg x = some (.ref C)) (hf : fieldOf x = n) (nf : PySem.W.findIn K (.ref C) n = some none)
    (i1 : PySem.W.findIn K (.ref C) "__init__" = some (some (.ref fi))) (i2 : PySem.W.typeIn K (.ref fi) = some (.type "function")) (F : Fun K "__init__" q st fi fd) (b : Binds K fd ["self", n] []) (S : FnScope ["self", n] ["self", n] (defScope st)) (hb : defBody st = [.Assign [.Attribute (.Name "self" p1) n p2] (.Name n p3) p4]) (hn : n ≠ "self") (hn2 : (n == ("__debug__" : Str)) = false) (hn3 : (n == ("__classdict__" : Str)) = false)
    (v1 : Vis (defScope st) "self") (v2 : Vis (defScope st) n) : ErrK P w K mg base C x := by
  subst hf
  exact ⟨T, gl, nf, fi, fd, i1, i2, err_init F S hb hn hn2 hn3 v1 v2, b⟩
section
variable {X : Cx} {cm : Cm} {i : Nat} {c n f x y : Str} {p p1 p2 pos : Pos} {b : Bool}
theorem he_isiC {C : Addr} (C0 : HxC X.K X.mg (cm c) y f) (hm : X.mg "isinstance" = none) (hx : X.mg x = some (.ref C)) (hk : PySem.W.kitOne X.K (.ref (cm c)) (.ref C) = some b) (hN : X.N[i]? = some n := by rfl) (hv : Vis X.env.scope n := by first | exact Or.inl rfl | exact Or.inr (Or.inl rfl) | exact Or.inr (Or.inr rfl))
    (hd : (n == ("__debug__" : Str)) = false := by decide) (hcd : (n == ("__classdict__" : Str)) = false := by decide) (hg : Gl X "isinstance" := by rfl) (hgx : Gl X x := by rfl) (hdx : (x == ("__debug__" : Str)) = false := by decide)
    (hs1 : starEach (.Name n p1 :: [.Name x p2]) X.env = (false, eval (.Name n p1) X.env) :: starEach [.Name x p2] X.env := by rfl) (hs2 : starEach (.Name x p2 :: []) X.env = (false, eval (.Name x p2) X.env) :: starEach [] X.env := by rfl) (hpl : (backTo pos (starEach [.Name x p2] X.env)).any (·.1) = false := by rfl) :
    HE X cm i c (.Call (.Name "isinstance" p) [.Name n p1, .Name x p2] [] pos) (fun _ => rtn (.bl b)) :=
  he_isi C0.ec hm (fun a pn => pe_glob (X := X.suite a pn) (v := .ref C) hgx hx rfl hdx) (fun _ h => h) hk hN hv hd hcd hg hs1 hs2 hpl
theorem he_isiB {T : String} (C0 : HxC X.K X.mg (cm c) y f) (hm : X.mg "isinstance" = none) (hx : X.mg x = none) (hk : PySem.W.kitOne X.K (.ref (cm c)) (.type T) = some b) (hT : bootBuiltins x = some (.type T) := by decide +kernel) (hN : X.N[i]? = some n := by rfl) (hv : Vis X.env.scope n := by first | exact Or.inl rfl | exact Or.inr (Or.inl rfl) | exact Or.inr (Or.inr rfl))
    (hd : (n == ("__debug__" : Str)) = false := by decide) (hcd : (n == ("__classdict__" : Str)) = false := by decide) (hg : Gl X "isinstance" := by rfl) (hgx : Gl X x := by rfl) (hnx : x ≠ "__name__" := by decide) (hdx : (x == ("__debug__" : Str)) = false := by decide)
    (hs1 : starEach (.Name n p1 :: [.Name x p2]) X.env = (false, eval (.Name n p1) X.env) :: starEach [.Name x p2] X.env := by rfl) (hs2 : starEach (.Name x p2 :: []) X.env = (false, eval (.Name x p2) X.env) :: starEach [] X.env := by rfl) (hpl : (backTo pos (starEach [.Name x p2] X.env)).any (·.1) = false := by rfl) :
    HE X cm i c (.Call (.Name "isinstance" p) [.Name n p1, .Name x p2] [] pos) (fun _ => rtn (.bl b)) :=
  he_isi C0.ec hm (fun a pn => pe_bltn (X := X.suite a pn) (v := .ty T) hgx hx hT rfl hnx hdx) (fun _ h => h) hk hN hv hd hcd hg hs1 hs2 hpl
theorem he_own (C0 : HxC X.K X.mg (cm c) y f) (hf : fieldOf c = f := by rfl) (hN : X.N[i]? = some n := by rfl) (hv : Vis X.env.scope n := by first | exact Or.inl rfl | exact Or.inr (Or.inl rfl) | exact Or.inr (Or.inr rfl))
    (hd : (n == ("__debug__" : Str)) = false := by decide) (hcd : (n == ("__classdict__" : Str)) = false := by decide) (hb : attributeBase (.Name n p1) f X.env (eval (.Name n p1) X.env) = eval (.Name n p1) X.env := by rfl) :
    HE X cm i c (.Attribute (.Name n p1) f pos) (fun v => rtn v) := he_fld C0.xf C0.nf hf hN hv hd hcd hb
end
end EL
/-! EL32: what the readings of EL23 to EL30 give; what may raise. -/
namespace EL
open PySem PySem.Spec L2
open PyProof.Rows hiding St

/-- it ends so, or raises so -/
def Out {α : Type} (m : M α) (h : Hw) (P : α → Hw → Prop) (PX : Str → W → Hw → Prop) : Prop := (∃ a h', m h = .ok a h' ∧ P a h') ∨ ∃ c v h', m h = .ex c v h' ∧ PX c v h'
section
variable {α β : Type} {m : M α} {f : α → M β} {h : Hw} {P P' : α → Hw → Prop} {PX : Str → W → Hw → Prop}
theorem Out.imp (o : Out m h P PX) (k : ∀ a h', P a h' → P' a h') : Out m h P' PX := by
  rcases o with ⟨a, h', e, p⟩ | q
  · exact .inl ⟨a, h', e, k a h' p⟩
  · exact .inr q
theorem out_ok (o : Ok m h P) : Out m h P PX := .inl o
theorem Out.ok (o : Out m h P fun _ _ _ => False) : Ok m h P := by
  rcases o with q | ⟨_, _, _, _, q⟩
  · exact q
  · exact q.elim
theorem out_bnd {P : β → Hw → Prop} (o : Out m h (fun a h1 => Out (f a) h1 P PX) PX) : Out (bnd m f) h P PX := by
  rcases o with ⟨a, h1, e, o⟩ | ⟨c, v, h1, e, p⟩
  · rcases o with ⟨b, h2, e2, p⟩ | ⟨c, v, h2, e2, p⟩
    · exact .inl ⟨b, h2, by unfold bnd; rw [e]; exact e2, p⟩
    · exact .inr ⟨c, v, h2, by unfold bnd; rw [e]; exact e2, p⟩
  · exact .inr ⟨c, v, h1, by unfold bnd; rw [e], p⟩
theorem ok_noX {m : SW → M α} {sw : SW} (o : Ok (m sw) h P) : Ok (noX m sw) h P := by
  obtain ⟨a, h', e, p⟩ := o
  exact ⟨a, h', by unfold noX; rw [e], p⟩
theorem ok_noG {g : MG} {w : W} {sw : SW} {P : SW → Hw → Prop} (o : Ok (g w sw) h P) : Ok (noG g w sw) h P := by
  obtain ⟨a, h', e, p⟩ := o
  exact ⟨a, h', by unfold noG; rw [e], p⟩
end
section
variable {sw : SW} {h : Hw} {P : W → Hw → Prop} {PF : Fl → Hw → Prop} {PX : Str → W → Hw → Prop} {t : MT} {s s' : MS} {a : ME} {mr : MA}
theorem out_sSeq (o : Out (s sw) h (fun f h1 => match f with
    | .nx s1 => Out (s' s1) h1 PF PX
    | f => PF f h1) PX) : Out (sSeq s s' sw) h PF PX := out_bnd (o.imp fun f _ o => by
  cases f with
  | nx s1 => exact o
  | rt w => exact out_ok (ok_rtn o)
  | bk s1 => exact out_ok (ok_rtn o)
  | ct s1 => exact out_ok (ok_rtn o))
theorem out_sIf (o : Out (t sw) h (fun x h1 => (x = true → Out (s sw) h1 PF PX) ∧ (x = false → Out (s' sw) h1 PF PX)) PX) : Out (sIf t s s' sw) h PF PX := out_bnd (o.imp fun x _ o => by
  cases x with
  | true => rw [if_pos rfl]; exact o.1 rfl
  | false => rw [if_neg Bool.false_ne_true]; exact o.2 rfl)
theorem out_raise {x : Str} (o : Ok (mr sw) h fun ws h1 => ∃ v, ws = [v] ∧ PX x v h1) : Out (sRaise x mr sw) h PF PX := by
  obtain ⟨ws, h1, e, v, rfl, p⟩ := o
  exact .inr ⟨x, v, h1, by unfold sRaise bnd; rw [e], p⟩
theorem out_sExp (o : Out (a sw) h (fun x h1 => PF (.nx sw) h1) PX) : Out (sExp a sw) h PF PX := out_bnd (o.imp fun _ _ p => out_ok (ok_rtn p))
theorem out_call {f : List W → M W} (o : Ok (mr sw) h fun ws h1 => Out (f ws) h1 P PX) : Out (mCall f mr sw) h P PX := out_bnd (out_ok o)
theorem out_make {C : Str} {fn : List W → M W} {dws : List W} (q : Ok (mr sw) h fun xs h1 => Out (fn (.ref h1.length :: (xs ++ dws))) (h1 ++ [.ins C []]) (fun u h2 => u = .non ∧ P (.ref h1.length) h2) PX) : Out (mMake C fn dws mr sw) h P PX :=
  out_bnd (out_ok (q.imp fun xs h1 q => out_bnd (.inl ⟨.ref h1.length, h1 ++ [.ins C []], rfl, out_bnd (q.imp fun u h2 q => by
    obtain ⟨rfl, q⟩ := q
    exact out_ok (ok_rtn q))⟩)))
theorem out_mFn' {n N : Nat} {m : MS} {ws : List W} {s0 : SW} (e : ws.length = n) (e2 : ws.map some ++ List.replicate (N - n) none = s0) (o : Out (m s0) h (fun f h1 => match f with
    | .rt w => P w h1
    | .nx _ => P .non h1
    | _ => False) PX) : Out (mFn n N m ws) h P PX := by
  subst e2
  unfold mFn
  rw [if_pos e]
  exact out_bnd (o.imp fun f h1 o => by
    cases f with
    | rt w => exact out_ok (ok_rtn o)
    | nx s => exact out_ok (ok_rtn o)
    | bk s => exact o.elim
    | ct s => exact o.elim)
theorem out_sForI {mi : MI} {g : MG} {b : MS} (o : Ok (mi sw) h fun src h1 => Out (sFor src.1 g b 0 (src.2 + 1) sw) h1 PF PX) : Out (sForI mi g b sw) h PF PX := out_bnd (out_ok o)
theorem out_sFor {src : Src} {g : MG} {b : MS} (Inv : Nat → SW → Hw → Prop) {n : Nat} (N : Nat) (hN : n ≤ N) (h0 : Inv 0 sw h)
    (hs : ∀ i sw h, i < n → Inv i sw h → ∃ x, src.item i h = some (some x) ∧ Ok (g x sw) h fun s h1 => Out (b s) h1 (fun f h2 => ∃ s, f = .nx s ∧ Inv (i + 1) s h2) PX)
    (he : ∀ sw h, Inv n sw h → src.item n h = some none ∧ PF (.nx sw) h) : Out (sFor src g b 0 (N + 1) sw) h PF PX := by
  have go : ∀ (k i : Nat) (sw : SW) (h : Hw), i + k = n → Inv i sw h → ∀ m, n < i + m → Out (sFor src g b i m sw) h PF PX := by
    intro k
    induction k with
    | zero =>
      intro i sw h e p m hm
      have ei : i = n := by omega
      subst ei
      cases m with
      | zero => omega
      | succ m =>
        obtain ⟨e1, q⟩ := he sw h p
        exact .inl ⟨.nx sw, h, by unfold sFor; rw [e1], q⟩
    | succ k ih =>
      intro i sw h e p m hm
      cases m with
      | zero => omega
      | succ m =>
        obtain ⟨x, e1, o⟩ := hs i sw h (by omega) p
        have o' : Out (bnd (g x sw) fun s => bnd (b s) fun f => match f with
            | .nx s => sFor src g b (i + 1) m s
            | .ct s => sFor src g b (i + 1) m s
            | .bk s => rtn (.nx s)
            | .rt w => rtn (.rt w)) h PF PX := out_bnd (out_ok (o.imp fun s h1 o => out_bnd (o.imp fun f h2 o => by
          obtain ⟨s, rfl, o⟩ := o
          exact ih (i + 1) s h2 (by omega) o m (by omega))))
        rcases o' with ⟨f, h2, e2, q⟩ | ⟨c, v, h2, e2, q⟩
        · exact .inl ⟨f, h2, by unfold sFor; rw [e1]; exact e2, q⟩
        · exact .inr ⟨c, v, h2, by unfold sFor; rw [e1]; exact e2, q⟩
  exact go n 0 sw h (by omega) h0 (N + 1) (by omega)
theorem ok_sTryY {l : HL} (o : Out (s sw) h PF fun c v h' => Ok (goH l c v) h' PF) : Ok (sTryY s l sw) h PF := by
  rcases o with ⟨f, h', e, p⟩ | ⟨c, v, h', e, f, h2, e2, p⟩
  · exact ⟨f, h', by unfold sTryY; rw [e], p⟩
  · exact ⟨f, h2, by unfold sTryY; rw [e]; exact e2, p⟩
theorem ok_goH {c : Str} {v : W} {no : List Str} {m : HM} {r : HL} (o : Ok (m v) h fun w h' => PF (.rt w) h') : Ok (goH ((c, no, m) :: r) c v) h PF := by
  obtain ⟨w, h', e, p⟩ := o
  refine ⟨.rt w, h', ?_, p⟩
  unfold goH
  rw [if_pos (by simp), e]
theorem ok_hLst {mr : W → M (List W)} {v : W} (o : Ok (mr v) h fun ws h1 => ws.length ≤ lim ∧ P (.ref h1.length) (h1 ++ [.lst ws])) : Ok (hLst mr v) h P := ok_bnd (o.imp fun ws h1 o => ⟨_, _, by show (if ws.length ≤ lim then _ else _) = _; rw [if_pos o.1], o.2⟩)
end
/-! ### the heap only grows -/
abbrev Pre (h h' : Hw) : Prop := h <+: h'
theorem Pre.get {h h' : Hw} (p : h <+: h') {i : Nat} {o : O} (e : h[i]? = some o) : h'[i]? = some o := by
  obtain ⟨g, rfl⟩ := p
  exact get_app e
theorem Pre.set {h h' : Hw} (p : h <+: h') {i : Nat} (hi : h.length ≤ i) (o : O) : h <+: h'.set i o := by
  obtain ⟨g, rfl⟩ := p
  rw [List.set_append_right _ _ hi]
  exact List.prefix_append _ _
theorem Pre.app {h h' : Hw} (p : h <+: h') (g : Hw) : h <+: h' ++ g := p.trans (List.prefix_append _ _)
theorem Pre.len {h h' : Hw} (p : h <+: h') : h.length ≤ h'.length := p.length_le
section
variable {sw : SW} {h : Hw} {P : W → Hw → Prop} {PF : Fl → Hw → Prop} {a b e o : ME} {mr : MA}
theorem ok_set0 (p : P (.ref h.length) (h ++ [.st []])) : Ok (bSet0 sw) h P := ⟨_, _, rfl, p⟩
theorem stOf_at {p : Nat} {ks : List Str} (e : h[p]? = some (.st ks)) : stOf h (.ref p) = some (p, ks) := by
  unfold stOf
  simp only [e]
theorem ok_inS {neg : Bool} {s : Str} {p : Nat} {ks : List Str} (e : h[p]? = some (.st ks)) (q : P (.bl (neg != ks.contains s)) h) : Ok (fInS neg (.str s) (.ref p)) h P := ⟨_, h, by
  unfold fInS
  rw [stOf_at e], q⟩
theorem ok_sAdd (q : Ok (o sw) h fun x h1 => ∃ p ks0, x = .ref p ∧ h1[p]? = some (.st ks0) ∧ Ok (e sw) h1 fun y h2 => ∃ s ks, y = .str s ∧ h2[p]? = some (.st ks) ∧ ks.length + 2 < 4096 ∧ P .non (h2.set p (.st (s :: ks)))) : Ok (mSAdd o e sw) h P := ok_bnd (q.imp fun x h1 q => by
  obtain ⟨p, ks0, rfl, e1, q⟩ := q
  obtain ⟨y, h2, ey, s, ks, rfl, e2, l, q⟩ := q
  refine ⟨.non, _, ?_, q⟩
  simp only [stOf_at e1]
  unfold bnd
  simp only [ey, stOf_at e2, if_pos l])
theorem ok_isi2 {S T : String} (q : Ok (a sw) h fun x h1 => ∃ n k l, tyName h1 x = some n ∧ kitB n S = some k ∧ kitB n T = some l ∧ P (.bl (k || l)) h1) : Ok (mIsi2 S T a sw) h P := ok_bnd (q.imp fun x h1 q => by
  obtain ⟨n, k, l, e1, e2, e3, p⟩ := q
  exact ⟨_, h1, by simp only [e1, e2, e3], p⟩)
theorem ok_anyL {q : Nat} {ns : List Bool} (el : h[q]? = some (.lst (ns.map W.bl))) (p : P (.bl (ns.any id)) h) : Ok (bAny [.ref q]) h P := by
  refine ⟨_, h, ?_, p⟩
  show (match (match h[q]? with
    | some (.lst xs) => some xs
    | _ => none) with
    | some xs => (match wBls xs with
      | some ns => EL.R.ok (W.bl (ns.any id)) h
      | none => EL.R.no)
    | none => EL.R.no) = _
  rw [el]
  simp only [wBls_map]
theorem lsOf_at {p : Nat} {ks : List W} (e : h[p]? = some (.lst ks)) : lsOf h (.ref p) = some (p, ks) := by
  unfold lsOf
  simp only [e]
theorem ok_ext (q : Ok (o sw) h fun x h1 => ∃ p xs0, x = .ref p ∧ h1[p]? = some (.lst xs0) ∧ Ok (e sw) h1 fun y h2 => ∃ r xs ys, y = .ref r ∧ h2[p]? = some (.lst xs) ∧ h2[r]? = some (.lst ys) ∧ xs.length + ys.length ≤ lim ∧ P .non (h2.set p (.lst (xs ++ ys)))) : Ok (mExt o e sw) h P := ok_bnd (q.imp fun x h1 q => by
  obtain ⟨p, xs0, rfl, e1, q⟩ := q
  obtain ⟨y, h2, ey, r, xs, ys, rfl, e2, e3, l, q⟩ := q
  refine ⟨.non, _, ?_, q⟩
  simp only [lsOf_at e1]
  unfold bnd
  simp only [ey, lsOf_at e2, lsOf_at e3, if_pos l])
theorem ok_app (q : Ok (o sw) h fun x h1 => ∃ p xs0, x = .ref p ∧ h1[p]? = some (.lst xs0) ∧ Ok (e sw) h1 fun y h2 => ∃ xs, h2[p]? = some (.lst xs) ∧ xs.length < lim ∧ P .non (h2.set p (.lst (xs ++ [y])))) : Ok (mApp o e sw) h P := ok_bnd (q.imp fun x h1 q => by
  obtain ⟨p, xs0, rfl, e1, q⟩ := q
  refine ok_bnd ⟨(), h1, by unfold chkL; simp only [e1], ok_bnd (q.imp fun y h2 q => ?_)⟩
  obtain ⟨xs, e2, l, q⟩ := q
  exact ⟨.non, _, by unfold fApp; simp only [e2, if_pos l], q⟩)
theorem ok_aStar {PL : List W → Hw → Prop} (q : Ok (a sw) h fun x h1 => ∃ xs, itemsT h1 x = some xs ∧ Ok (mr sw) h1 fun ys h2 => PL (xs ++ ys) h2) : Ok (aStar a mr sw) h PL := ok_bnd (q.imp fun x h1 q => by
  obtain ⟨xs, e, q⟩ := q
  obtain ⟨ys, h2, e2, p⟩ := q
  refine ⟨xs ++ ys, h2, ?_, p⟩
  simp only [e]
  unfold bnd
  rw [e2]
  rfl)
theorem ok_rep {p : Nat} {xs : List W} {k : Int} (e : h[p]? = some (.lst xs)) (l : -(2 ^ 63) ≤ k ∧ k < 2 ^ 63 ∧ xs.length * k.toNat ≤ lim) (q : P (.ref h.length) (h ++ [.lst (List.replicate k.toNat xs).flatten])) : Ok (fRep (.ref p) (.int k)) h P := ⟨_, _, by
  unfold fRep
  rw [lsOf_at e]
  simp only [if_pos l], q⟩
theorem ok_pairs0 {PP : List (W × W) → Hw → Prop} (p : PP [] h) : Ok (pairsM [] sw) h PP := ok_rtn p
theorem ok_pairs {mk mv : ME} {r : List (ME × ME)} {PP : List (W × W) → Hw → Prop} (q : Ok (mk sw) h fun x h1 => Ok (mv sw) h1 fun y h2 => Ok (pairsM r sw) h2 fun ps h3 => PP ((x, y) :: ps) h3) : Ok (pairsM ((mk, mv) :: r) sw) h PP :=
  ok_bnd (q.imp fun _ _ q => ok_bnd (q.imp fun _ _ q => ok_bnd (q.imp fun _ _ q => ok_rtn q)))
theorem ok_dispN {l : List (ME × ME)} (q : Ok (pairsM l sw) (h ++ [.dK []]) fun ps h2 => h2[h.length]? = some (.dK []) ∧ ∃ kvs, keyPs ps = some kvs ∧ kvs.length ≤ 15 ∧ P (.ref h.length) (h2.set h.length (.dK (mergeKW [] kvs)))) : Ok (mDispN l sw) h P := ok_bnd ⟨.ref h.length, h ++ [.dK []], rfl, ok_bnd (q.imp fun ps h2 q => by
  obtain ⟨e, kvs, e2, l, p⟩ := q
  have e3 : dMut h2 (.ref h.length) = some (h.length, []) := by unfold dMut; simp only [e]
  exact ⟨.ref h.length, _, by simp only [e3, e2, if_pos l], p⟩)⟩
theorem ok_iEnuT {PI : Src × Nat → Hw → Prop} (o : Ok (a sw) h fun x h1 => ∃ xs, x = .tup xs ∧ PI (.enuT xs, xs.length) h1) : Ok (iEnu a sw) h PI := ok_bnd (o.imp fun x h1 o => by
  obtain ⟨xs, rfl, q⟩ := o
  exact ⟨_, h1, rfl, q⟩)
end
end EL
/-! EL33: == and in, on ints, truths, lists of texts and of ints. -/
namespace EL
open PySem PySem.Spec L2
open PyProof.Rows hiding St
theorem mapO_str (h : Hw) (n : Nat) : ∀ xs : List Str, mapO (toD h n) (xs.map W.str) = some (xs.map PyData.str)
  | [] => rfl
  | x :: r => by
    rw [List.map_cons]
    unfold mapO
    rw [mapO_str h n r]
    cases n <;> rfl
theorem mapO_int (h : Hw) (n : Nat) : ∀ xs : List Int, mapO (toD h n) (xs.map W.int) = some (xs.map PyData.int)
  | [] => rfl
  | x :: r => by
    rw [List.map_cons]
    unfold mapO
    rw [mapO_int h n r]
    cases n <;> rfl
theorem toD_strs {h : Hw} {p : Nat} {xs : List Str} (e : h[p]? = some (.lst (xs.map W.str))) : toD h 8 (.ref p) = some (.list (xs.map PyData.str)) := by
  show (match h[p]? with
    | some (.lst xs) => (mapO (toD h 7) xs).map PyData.list
    | _ => none) = _
  rw [e]
  simp only [mapO_str]
  rfl
theorem toD_ints {h : Hw} {p : Nat} {xs : List Int} (e : h[p]? = some (.lst (xs.map W.int))) : toD h 8 (.ref p) = some (.list (xs.map PyData.int)) := by
  show (match h[p]? with
    | some (.lst xs) => (mapO (toD h 7) xs).map PyData.list
    | _ => none) = _
  rw [e]
  simp only [mapO_int]
  rfl
theorem lay_strs : ∀ xs : List Str, (∀ x ∈ xs, PyData.strOk x = true) → PyData.canLayAll0 (xs.map PyData.str) = true ∧ PyData.depthAll (xs.map PyData.str) = 0
  | [], _ => ⟨rfl, rfl⟩
  | x :: r, hx => by
    obtain ⟨a, b⟩ := lay_strs r fun y hy => hx y (List.mem_cons_of_mem _ hy)
    rw [List.map_cons]
    refine ⟨?_, ?_⟩
    · unfold PyData.canLayAll0
      rw [a, Bool.and_true]
      unfold PyData.canLay0
      exact hx x (List.mem_cons_self ..)
    · unfold PyData.depthAll
      rw [b]
      rfl
theorem lay_ints : ∀ xs : List Int, PyData.canLayAll0 (xs.map PyData.int) = true ∧ PyData.depthAll (xs.map PyData.int) = 0
  | [] => ⟨rfl, rfl⟩
  | x :: r => by
    obtain ⟨a, b⟩ := lay_ints r
    rw [List.map_cons]
    refine ⟨?_, ?_⟩
    · unfold PyData.canLayAll0
      rw [a, Bool.and_true]
      unfold PyData.canLay0
      rfl
    · unfold PyData.depthAll
      rw [b]
      rfl
theorem shaped_list {ds : List PyData} (h : PyData.canLayAll0 ds = true ∧ PyData.depthAll ds = 0) : SeqAt.shaped (.list ds) = true := by
  unfold SeqAt.shaped
  have e1 : PyData.canLay0 (.list ds) = true := by
    unfold PyData.canLay0
    exact h.1
  have e2 : PyData.depth (.list ds) = 1 := by
    unfold PyData.depth
    rw [h.2]
  rw [e1, e2]
  rfl
theorem eqv_list {ds : List PyData} (h : PyData.canLayAll0 ds = true ∧ PyData.depthAll ds = 0) : PyData.eqv (.list ds) (.list ds) = true := PySem.SeqAt.eqv_refl (.list ds) (by
  unfold PyData.canLay0
  exact h.1)
theorem eq_strs {neg : Bool} {h : Hw} {p q : Nat} {xs : List Str} {P : W → Hw → Prop} (hx : ∀ x ∈ xs, PyData.strOk x = true) (e1 : h[p]? = some (.lst (xs.map W.str))) (e2 : h[q]? = some (.lst (xs.map W.str))) (k : P (.bl (neg != true)) h) : Ok (fEq neg (.ref p) (.ref q)) h P :=
  ok_eq (toD_strs e1) (toD_strs e2) (by rw [shaped_list (lay_strs xs hx)]; rfl) (by rw [eqv_list (lay_strs xs hx)]; exact k)
theorem eq_ints {neg : Bool} {h : Hw} {p q : Nat} {xs : List Int} {P : W → Hw → Prop} (e1 : h[p]? = some (.lst (xs.map W.int))) (e2 : h[q]? = some (.lst (xs.map W.int))) (k : P (.bl (neg != true)) h) : Ok (fEq neg (.ref p) (.ref q)) h P :=
  ok_eq (toD_ints e1) (toD_ints e2) (by rw [shaped_list (lay_ints xs)]; rfl) (by rw [eqv_list (lay_ints xs)]; exact k)
theorem eq_int {neg : Bool} {h : Hw} {i j : Int} {P : W → Hw → Prop} (k : P (.bl (neg != decide (i = j))) h) : Ok (fEq neg (.int i) (.int j)) h P :=
  ok_eq rfl rfl rfl (by
    have e : PyData.eqv (.int i) (.int j) = decide (i = j) := by
      by_cases z : i = j
      · subst z
        rw [decide_eq_true rfl]
        exact PySem.SeqAt.eqv_refl _ rfl
      · rw [decide_eq_false z]
        unfold PyData.eqv
        simpa using z
    rw [e]
    exact k)
theorem eq_bool {neg : Bool} {h : Hw} {i j : Bool} {P : W → Hw → Prop} (k : P (.bl (neg != (i == j))) h) : Ok (fEq neg (.bl i) (.bl j)) h P := by
  refine ok_eq rfl rfl rfl ?_
  have e : PyData.eqv (.bool i) (.bool j) = (i == j) := by cases i <;> cases j <;> decide +kernel
  rw [e]
  exact k
theorem isw_ok {x : Str} (h : isw x = true) : PyData.strOk x = true := by
  unfold isw at h
  rw [Bool.and_eq_true] at h
  unfold PyData.strOk
  rw [← Array.all_toList]
  refine List.all_eq_true.mpr fun c hc => ?_
  have q := List.all_eq_true.mp h.2 c hc
  rw [Bool.and_eq_true] at q
  have := of_decide_eq_true q.2
  exact decide_eq_true (by omega)
theorem in_words {neg : Bool} {h : Hw} {p : Nat} {xs : List Str} {x : Str} {P : W → Hw → Prop} (e : h[p]? = some (.lst (xs.map W.str))) (hw : ∀ y ∈ x :: xs, isw y = true) (k : P (.bl (neg != decide (x ∈ xs))) h) : Ok (fIn neg (.str x) (.ref p)) h P := by
  refine ⟨.bl (neg != decide (x ∈ xs)), h, ?_, k⟩
  have es : (SeqAt.shaped (.str x) && SeqAt.shaped (.list (xs.map PyData.str))) = true := by
    rw [shaped_list (lay_strs xs fun y hy => isw_ok (hw y (List.mem_cons_of_mem _ hy)))]
    unfold SeqAt.shaped
    have e1 : PyData.canLay0 (.str x) = true := by
      unfold PyData.canLay0
      exact isw_ok (hw x (List.mem_cons_self ..))
    rw [e1]
    rfl
  have ea : (xs.map PyData.str).any (fun z => PyData.eqv z (.str x)) = decide (x ∈ xs) := by
    by_cases hm : x ∈ xs
    · rw [decide_eq_true hm, List.any_eq_true]
      exact ⟨.str x, List.mem_map.mpr ⟨x, hm, rfl⟩, PySem.SeqAt.eqv_refl _ (by unfold PyData.canLay0; exact isw_ok (hw x (List.mem_cons_self ..)))⟩
    · rw [decide_eq_false hm, List.any_eq_false]
      intro d hd
      obtain ⟨y, hy, rfl⟩ := List.mem_map.mp hd
      unfold PyData.eqv
      intro z
      have : y = x := by simpa using z
      exact hm (this ▸ hy)
  show (match toD h 8 (.str x), toD h 8 (.ref p) with
    | some d, some (.list ds) => if (SeqAt.shaped d && SeqAt.shaped (.list ds)) = true then EL.R.ok (W.bl (neg != ds.any fun z => PyData.eqv z d)) h else EL.R.no
    | _, _ => EL.R.no) = _
  rw [toD_strs e, show toD h 8 (.str x) = some (.str x) from rfl]
  simp only [es, if_true, ea]
/-- a list of whole numbers, truths and None, equal to itself as written twice -/
theorem eq_flat {neg : Bool} {h : Hw} {p q : Nat} {ws : List W} {ds : List PyData} {P : W → Hw → Prop} (e1 : h[p]? = some (.lst ws)) (e2 : h[q]? = some (.lst ws)) (ed : ∀ h, mapO (toD h 7) ws = some ds) (hl : PyData.canLayAll0 ds = true ∧ PyData.depthAll ds = 0) (k : P (.bl (neg != true)) h) : Ok (fEq neg (.ref p) (.ref q)) h P := by
  have t : ∀ r, h[r]? = some (.lst ws) → toD h 8 (.ref r) = some (.list ds) := fun r e => by
    show (match h[r]? with
      | some (.lst xs) => (mapO (toD h 7) xs).map PyData.list
      | _ => none) = _
    rw [e]
    simp only [ed]
    rfl
  exact ok_eq (t p e1) (t q e2) (by rw [shaped_list hl]; rfl) (by rw [eqv_list hl]; exact k)
end EL
set_option maxHeartbeats 2000000
/-! EL34: xs[::-1], index of texts and tuples, own instances called. -/
namespace EL
open PySem PySem.Spec L2
open PyProof.Rows hiding St

theorem range_rev (n : Nat) : ((List.range n).map fun k : Nat => (((n : Int) - 1) + -1 * (k : Int)).toNat) = (List.range n).reverse := by
  refine List.ext_getElem (by simp) fun i h1 h2 => ?_
  simp at h1
  rw [List.getElem_map, List.getElem_range, List.getElem_reverse, List.getElem_range]
  simp
  omega
theorem slicePick_rev (its : List Value) : slicePick its.toArray none none (some (-1)) = its.reverse.toArray := by
  have hb : sliceBounds none none (some (-1)) its.toArray.size = ((its.toArray.size : Int) - 1, -1, -1) := by
    simp [sliceBounds]
  unfold slicePick
  rw [hb]
  simp only
  congr 1
  have hn : its.toArray.size = its.length := List.size_toArray ..
  rw [hn]
  have hr : sliceRange ((its.length : Int) - 1) (-1) (-1) = (List.range its.length).reverse := by
    rw [← range_rev]
    unfold sliceRange
    have : (if (-1 : Int) > 0 then (if ((its.length : Int) - 1) < -1 then (-1 - ((its.length : Int) - 1) + -1 - 1) / -1 else 0) else (if ((its.length : Int) - 1) > -1 then (((its.length : Int) - 1) - -1 - -1 - 1) / (- -1) else 0)) = (its.length : Int) := by
      rw [if_neg (by decide)]
      split
      · rw [show (- -1 : Int) = 1 by decide, Int.ediv_one]
        omega
      · omega
    simp only [this]
    rfl
  rw [hr, List.filterMap_reverse]
  congr 1
  have := pick_run its.toArray 0 its.length
  simpa using this
def tRev (K : PySem.W.Frag) (te ts : TE) : TE := fun σ H Q => te σ H fun x H1 => ts σ H1 fun y H2 => y = .int (-1) ∧ ∃ a xs, x = .ref a ∧ SqL K H2 a xs ∧ ∀ p, H2 p = none → Q (.ref p) (upd H2 p (.lst xs.reverse))
theorem Vals.rev : ∀ {xs : List V} {us : List Value}, Vals xs us → Vals xs.reverse us.reverse
  | _, _, .nil => .nil
  | _, _, .cons r t => by
    rw [List.reverse_cons, List.reverse_cons]
    exact (Vals.rev t).append (.cons r .nil)
theorem pe_rev {X : Cx} {e st : Expr} {te ts : TE} {p2 pos : Pos} (he : PE X e te) (hs : PE X st ts) : PE X (.Subscript e (.Slice none none (some st) p2) pos) (tRev X.K te ts) := by
  refine ⟨fun pins s σ H Q I h => ?_⟩
  refine Subscript_ (thn (he.run pins s σ H _ I h) fun v s1 ⟨x, H1, I1, r1, q1⟩ => ?_)
  refine wpAny_Slice ?_
  rw [evalPart_none]
  refine wpAny_pure ?_
  refine wpAny_pure ?_
  rw [evalPart_some]
  refine thn (hs.run pins s1 σ H1 _ I1 q1) fun vs s3 ⟨y, H2, I2, r2, q2⟩ => ?_
  obtain ⟨rfl, a, xs, rfl, hx, q3⟩ := q2
  obtain ⟨tk, rfl⟩ := r2
  cases r1
  have I4 : Inv X pins σ H2 { s3 with heap := s3.heap.push { cls := .type "slice", data := .fields #[.none, .none, .int (-1) tk] } } := I2.kept (t' := s3.toks) fun b ob q => Heap.get?_push_of_some _ q
  obtain ⟨its, r, ht, hz⟩ := I4.list hx
  have hlen := r.length
  refine tail_any (ops := [.ref a, .ref s3.heap.objs.size]) ht.isList.typeIs PySem.F.slot_list_getitem.lookup ?_ (by with_unfolding_all rfl)
  refine wpAny_getItem_list_slice ht.isList (Heap.IsSliceOf.new ..) .none .none (.int (-1) tk) (by decide) ?_ (by rw [List.size_toArray]; omega)
  rw [slicePick_rev]
  refine ⟨.ref _, _, I4.laid (t' := s3.toks) (o := .lst xs.reverse) (fun b ob q => Heap.get?_push_of_some _ q) (Nat.le_refl _) ?_, rfl, q3 _ (I4.hok.fresh (Nat.le_refl _))⟩
  exact ⟨by rw [List.length_reverse]; exact hz, _, 0, Vals.rev r, Heap.get?_push_size _ rfl⟩
theorem Rels.rev {K : PySem.W.Frag} {ρ : List Addr} {H : Hp} : ∀ {ws : List W} {vs : List V}, Rels K ρ H ws vs → Rels K ρ H ws.reverse vs.reverse
  | _, _, .nil => .nil
  | _, _, .cons r t => by
    rw [List.reverse_cons, List.reverse_cons]
    exact (Rels.rev t).append (.cons r .nil)
def mRev (a s : ME) : ME := fun sw => bnd (a sw) fun x => bnd (s sw) fun y h => match y, items h x with
  | .int i, some xs => if i = -1 then alloc (.lst xs.reverse) h else .no
  | _, _ => .no
theorem re_rev {X : Cx} {cm : Cm} {e st : Expr} {ma ms : ME} {p2 pos : Pos} (ha : RE X cm e ma) (hs : RE X cm st ms) : RE X cm (.Subscript e (.Slice none none (some st) p2) pos) (mRev ma ms) := by
  refine peM (pe_rev ha hs) fun σ H Q q => ?_
  obtain ⟨ρ, h, sw, w, h', rh, rs, e, k⟩ := q
  obtain ⟨x, h1, e1, e2⟩ := bnd_ok e
  obtain ⟨y, h2, e3, e4⟩ := bnd_ok e2
  refine ⟨ρ, h, sw, x, h1, rh, rs, e1, fun ρ1 H1 x' l1 rh1 rx => ?_⟩
  refine ⟨ρ1, h1, sw, y, h2, rh1, rs.mono l1, e3, fun ρ2 H2 y' l2 rh2 ry => ?_⟩
  split at e4
  · rename_i i xs hi
    split at e4
    · rename_i hi1
      cases e4
      subst hi1
      cases ry
      obtain ⟨a, us, rfl, hq, rl⟩ := items_of rh2 (rx.mono l2) hi
      exact ⟨rfl, a, us, rfl, hq, fun p hp => new_lst rh2 (Rels.rev rl) hp fun ρ3 H3 v l3 => k ρ3 H3 v (l1.trans (l2.trans l3))⟩
    · cases e4
  · cases e4
/-- x.index(y), texts -/
def mSIdx (a b : ME) : ME := fun sw => bnd (a sw) fun x => match x with
  | .str u => bnd (b sw) fun y h => match y with
    | .str v => (match Builtin.Str.occurrences u v 0 u.length 1 with
      | i :: _ => .ok (.int (i : Nat)) h
      | [] => .no)
    | _ => .no
  | _ => bad
theorem re_sindex {X : Cx} {cm : Cm} {a b : Expr} {ma mb : ME} {apos cpos : Pos} (ha : RE X cm a ma) (hb : RE X cm b mb)
    (hbase : attributeBase a "index" X.env (eval a X.env) = eval a X.env := by rfl)
    (hfew : ((backTo cpos (starEach [b] X.env)).all (fun x => !x.1) && (backToKw cpos (keywordEach [] X.env)).all (fun x => x.1.isSome)
      && decide (([b] : List Expr).length + ([] : List Keyword).length + (if ([] : List Keyword).isEmpty then 0 else 1) < 30)) = true := by rfl)
    (hline : (apos.endLine == cpos.line) = true := by rfl) (hs : starEach [b] X.env = (false, eval b X.env) :: starEach [] X.env := by rfl) (hplain : (backTo cpos (starEach [] X.env)).any (·.1) = false := by rfl) :
    RE X cm (.Call (.Attribute a "index" apos) [b] [] cpos) (mSIdx ma mb) := by
  refine peM (pe_bm PySem.F.plainAttrs_str PySem.F.slot_str_index PySem.F.type_str_index L2.mt_sindex ha (pa_cons hb pa_nil hs) hbase hfew hline hs hplain) fun σ H Q q => ?_
  obtain ⟨ρ, h, sw, w, h', rh, rs, e, k⟩ := q
  obtain ⟨x, h1, e1, e2⟩ := bnd_ok e
  refine ⟨ρ, h, sw, x, h1, rh, rs, e1, fun ρ1 H1 x' l1 rh1 rx => ?_⟩
  split at e2
  · rename_i u
    obtain ⟨y, h2, e3, e4⟩ := bnd_ok e2
    cases rx
    refine ⟨?_, ρ1, h1, sw, y, h2, rh1, rs.mono l1, e3, fun ρ2 H2 y' l2 rh2 ry => ?_⟩
    · rfl
    split at e4
    · rename_i v
      split at e4
      · rename_i i r ho
        cases e4
        cases ry
        exact ⟨u, v, i, r, rfl, rfl, ho, k ρ2 H2 _ (l1.trans l2) rh2 (.int _)⟩
      · cases e4
    · cases e4
  · cases e2
end EL
set_option maxHeartbeats 2000000
/-! EL35: an own instance called. -/
namespace EL
open PySem PySem.Spec L2
open PyProof.Rows hiding St
theorem fnR_of {P : Program} {w : World} {K : PySem.W.Frag} {mg : Str → Option Value} {base : Heap} {CX : CXT} {k : Nat} {f : Addr} {fd : FuncData} {ps : List Str} {sp : Sp} (F : FnOk P w K mg base CX k f fd ps sp) (hb : Binds K fd ps []) : FnR P w K mg base CX k f sp := fun A outer s H us vs Q E hr he hv q => by
  have len := F.len _ _ _ _ q
  have kin : K.In s.heap := he.mod.kin.keeps fun b o e => (he.bs b o e).1
  have all : BindsTo s fd ⟨us, []⟩ (ps.zip us) := by
    have z := hb s us kin (by rw [List.append_nil, ← hv.length]; exact len)
    rw [List.append_nil] at z
    exact z
  exact F.run A outer s H _ us vs Q E hr he all hv q
def mCallO (C : Str) (m : List W → M W) (mo : ME) (mr : MA) : ME := fun sw => bnd (mo sw) fun x => bnd (mr sw) fun ws h => if insB h x C = true then m (x :: ws) h else .no
theorem re_callO {X : Cx} {cm : Cm} {C : Str} {g : Addr} {fd : FuncData} {ps : List Str} {k : Nat} {m : List W → M W} {fe e : Expr} {es : List Expr} {mo : ME} {mr : MA} {pos : Pos} (c : StX.CallO X.K (cm C) g) (F : FnOk X.prog X.w X.K X.mg X.base CX0 k g fd ps (spM X.K cm m)) (hr : Room k X.A) (hb : Binds X.K fd ps []) (hf : RE X cm fe mo) (ha : RA X cm (e :: es) mr)
    (ht : eval (.Call fe (e :: es) [] pos) X.env = (do callWith pos (← eval fe X.env) [] (backTo pos (starEach (e :: es) X.env)) (backToKw pos (keywordEach [] X.env))) := by rfl)
    (he : starEach (e :: es) X.env = (false, eval e X.env) :: starEach es X.env := by rfl) (hpl : (backTo pos (starEach es X.env)).any (·.1) = false := by rfl) : RE X cm (.Call fe (e :: es) [] pos) (mCallO C m mo mr) := by
  refine peM (StX.pe_callO (E := fun _ _ _ => False) hf c (fnR_of F hb) hr pass0 ha ht he hpl) fun σ H Q q => ?_
  obtain ⟨ρ, h, sw, w, h', rh, rs, e, k⟩ := q
  obtain ⟨x, h1, e1, e2⟩ := bnd_ok e
  obtain ⟨ws, h2, e3, e4⟩ := bnd_ok e2
  refine ⟨ρ, h, sw, x, h1, rh, rs, e1, fun ρ1 H1 x' l1 rh1 rx => ?_⟩
  split at e4
  · rename_i hi
    cases x with
    | ref p =>
      cases rx with
      | @ref _ a hp =>
        refine ⟨a, rfl, ρ1, h1, sw, ws, h2, rh1, rs.mono l1, e3, fun ρ2 H2 vs l2 rh2 rv => ?_⟩
        obtain ⟨p', ad, dx, fv, ex, ev, hp', ea⟩ := insB_of rh2 (.ref (pre_get l2.pre hp)) hi
        cases ex
        cases ev
        exact ⟨.inr ⟨dx, fv, ea⟩, ρ2, h2, _, w, h', rh2, .cons (.ref (pre_get l2.pre hp)) rv, e4, fun ρ3 H3 v l3 => k ρ3 H3 v (l1.trans (l2.trans l3))⟩
    | _ => exact absurd hi (by unfold insB; simp)
  · cases e4
end EL
set_option maxHeartbeats 2000000
/-! EL36: a tuple of texts that the module names; tuple.index. -/
namespace EL
open PySem PySem.Spec L2
open PyProof.Rows hiding St
theorem re_gtup {X : Cx} {cm : Cm} {x : Str} {a : Addr} {xs : List Str} {dd : Option Addr} {its : Array Value} {n : Nat} {sl : Array (Option Value)} {pos : Pos} (hm : X.mg x = some (.ref a)) (hk : X.K.lookup a = some ⟨.type "tuple", dd, .seq its n, sl⟩) (hv : Vals (xs.map V.str) its.toList) (hz : its.size ≤ sizeLine) (hg : Gl X x := by rfl) (hd : (x == ("__debug__" : Str)) = false := by decide) :
    RE X cm (.Name x pos) (mC (.tup (xs.map W.str))) :=
  re_tC (pe_glob (v := .ref a) hg hm rfl hd) fun ρ H => .tup (.inr ⟨_, its, n, hk, rfl, rfl, hz, hv⟩) (Rels.strs xs)
end EL
set_option maxHeartbeats 2000000
/-! EL37: repr of lists and tuples, where the guards are known. -/
namespace EL
open PySem PySem.Spec L2
open PyProof.Rows hiding St
def rReprD (K : PySem.W.Frag) : List V → Hp → VK → Prop := fun xs H Q => ∃ (a : Addr) (d : PyData), xs = [.ref a] ∧ Dp K H (.ref a) d ∧ d.showable = true ∧ d.depth ≤ 20 ∧ d.hasDict = false ∧ d.shown.length ≤ sizeLine ∧ Q (.str d.shown) H
theorem oReprD {X : Cx} (gd : X.A.guards = some []) (hu : X.A.units + 65 < cLine) : CallR X (.builtin "repr") (rReprD X.K) := by
  intro pins s σ H xs us Q I r h
  obtain ⟨a, d, rfl, dp, hs, dl, nd, sz, q⟩ := h
  obtain ⟨u, rfl, ru⟩ := Vals.one r
  obtain rfl : u = Value.ref a := ru
  obtain ⟨as, rd⟩ := Dp.reads I d (.ref a) (.ref a) dp rfl
  exact PySem.repr_of_reads' rd hs (fun z => by rw [nd] at z; cases z) gd (by omega) (fun _ _ e => e) (fun h' t tk hk => ⟨.str d.shown, H, I.kept (t' := tk) hk, ⟨_, rfl⟩, q⟩) sz
def bReprD : List W → M W
  | [.ref p] => fun h => match toD h 8 (.ref p) with
    | some d => if d.showable = true ∧ d.depth ≤ 20 ∧ d.hasDict = false ∧ d.shown.length ≤ lim then .ok (.str d.shown) h else .no
    | none => .no
  | [.tup xs] => fun h => match toD h 8 (.tup xs) with
    | some d => if d.showable = true ∧ d.depth ≤ 20 ∧ d.hasDict = false ∧ d.shown.length ≤ lim then .ok (.str d.shown) h else .no
    | none => .no
  | ws => bRepr ws
theorem wReprD {X : Cx} {cm : Cm} : CallW X.K cm (fun xs H Q => rRepr xs H Q ∨ rReprD X.K xs H Q) bReprD := by
  intro ρ h H ws vs z h' Q rh r e k
  have data : ∀ {w : W} {v : V}, ws = [w] → vs = [v] → Rel X.K ρ H w v → (∃ a, v = .ref a) → (match toD h 8 w with
    | some d => if d.showable = true ∧ d.depth ≤ 20 ∧ d.hasDict = false ∧ d.shown.length ≤ lim then EL.R.ok (W.str d.shown) h else EL.R.no
    | none => EL.R.no) = .ok z h' → rReprD X.K vs H Q := fun {w v} _ ev rw' ea e' => by
    obtain ⟨a, rfl⟩ := ea
    subst ev
    split at e'
    · rename_i d hd
      split at e'
      · rename_i hc
        cases e'
        exact ⟨a, d, rfl, toD_dp rh 8 w _ d rw' hd, hc.1, hc.2.1, hc.2.2.1, by rw [← lim_eq]; exact hc.2.2.2, k.at rh (.str _)⟩
      · cases e'
    · cases e'
  unfold bReprD at e
  split at e
  · obtain ⟨v, rfl, rv⟩ := one_of r
    cases rv with
    | @ref p a hp => exact .inr (data rfl rfl (.ref hp) ⟨a, rfl⟩ e)
  · obtain ⟨v, rfl, rv⟩ := one_of r
    cases rv with
    | @tup ws' vs' a hq rl => exact .inr (data rfl rfl (.tup hq rl) ⟨a, rfl⟩ e)
  · exact .inl (wRepr ρ h H _ vs z h' Q rh r e k)
end EL
set_option maxHeartbeats 2000000
/-! EL38: defs that are called where no guard is up. -/
namespace EL
open PySem PySem.Spec L2
open PyProof.Rows hiding St
structure FnG (P : Program) (w : World) (K : PySem.W.Frag) (mg : Str → Option Value) (base : Heap) (CX : CXT) (k : Nat) (f : Addr) (fd : FuncData) (ps : List Str) (sp : Sp) : Prop where
  len : ∀ vs H Q E, sp vs H Q E → vs.length = ps.length
  run : ∀ (A : Around) (outer : List Env) (s : Shared) (H : Hp) (args : Args) (us : List Value) (vs : List V) (Q : VK) (E : XK), Room k A → A.guards = some [] → Env0 P w K mg base A outer s H → BindsTo s fd args (ps.zip us) → Vals vs us → sp vs H Q E →
    codeAny (model P w) A (.call (.ref f) args) (CR CX outer P w H s Q E) s
theorem FnG.of {P : Program} {w : World} {K : PySem.W.Frag} {mg : Str → Option Value} {base : Heap} {CX : CXT} {k : Nat} {f : Addr} {fd : FuncData} {ps : List Str} {sp : Sp} (F : FnOk P w K mg base CX k f fd ps sp) : FnG P w K mg base CX k f fd ps sp :=
  ⟨F.len, fun A outer s H args us vs Q E hr _ he hb hv q => F.run A outer s H args us vs Q E hr he hb hv q⟩
theorem fnG_of {CX : CXT} {P : Program} {w : World} {K : PySem.W.Frag} {mg : Str → Option Value} {base : Heap} {k : Nat} {f : Addr} {x qual : Str} {st : Stmt} {fd : FuncData} {N ps : List Str} {sp : Sp} (F : Fun K x qual st f fd) (S : FnScope N ps (defScope st)) (len : ∀ vs H Q E, sp vs H Q E → vs.length = ps.length)
    (body : ∀ (cdv : Value) (A : Around) (outer : List Env) (s : Shared) (H : Hp) (vs : List V) (Q : VK) (E : XK), Room k (A.deeper (envOfC qual (defScope st) s.heap.objs.size f cdv)) → (A.deeper (envOfC qual (defScope st) s.heap.objs.size f cdv)).guards = some [] → sp vs H Q E →
      ∃ t, PSs (cxOf CX P w K mg base N qual (defScope st) f cdv A outer s H E) (defBody st) t ∧ t { nx := fun _ H' => Q .non H', rt := Q } (start N vs) H) : FnG P w K mg base CX (k + 1) f fd ps sp := by
  obtain ⟨oc, od, kV, doc, pm, an, cdv, ct, osl, rfl, lk, hcd⟩ := F.ex
  refine ⟨len, fun A outer s H args us vs Q E hr gd e0 hb r wish => ?_⟩
  have few := len vs H Q E wish
  have KX : K.In s.heap := e0.mod.kin.keeps fun b o e => (e0.bs b o e).1
  have room : s.heap.NoLimit := e0.mod.nolimit.keeps fun b o e => (e0.bs b o e).1
  have kinds : ∀ y ∈ ps.zip us, (defScope st).names.lookup y.1 = some .local ∨ ((defScope st).names.lookup y.1 = some .cell ∧ ((cellsFrom (s.heap.objs.size + 1) (defScope st).names []).lookup y.1).isSome = true) := fun ⟨n, v⟩ hy =>
    (S.par n (List.of_mem_zip hy).1).elim .inl fun q => .inr ⟨q, PySem.W.cellsFrom_some _ _ _ (.inl q)⟩
  refine codeAny_call_function hr.depth (KX _ _ lk) rfl S.co S.gen rfl (PySem.W.codeRec_of KX hcd) (hb _ _ _ _ ?_)
  refine wpAny_newFunctionEnv_cells S.kind kinds fun env he s1 z => ?_
  subst he
  refine ⟨room.keeps z.toInCall.keep, codeAny_func ?_⟩
  obtain ⟨t, ht, hq⟩ := body cdv A outer s H vs Q E (hr.deeper _) gd wish
  have I : Inv (cxOf CX P w K mg base N qual (defScope st) f cdv A outer s H E) [] (start N vs) H s1 := inv_start S hr.hd e0 few r z
  refine wpAny_mono (ht.run [] s1 (start N vs) H _ I hq) (fun fl s' back => ?_) fun e s' back => back
  rcases fl with _ | _ | _ | u
  · obtain ⟨σ', H', J, q⟩ := back
    exact ⟨V.non, H', J.os, J.bare, J.base, J.hok, rfl, q⟩
  · obtain ⟨_, _, _, q⟩ := back
    exact q.elim
  · obtain ⟨_, _, _, q⟩ := back
    exact q.elim
  · obtain ⟨v, σ', H', J, rv, q⟩ := back
    exact ⟨v, H', J.os, J.bare, J.base, J.hok, rv, q⟩
end EL
set_option maxHeartbeats 2000000
/-! EL39: calls of such defs. -/
namespace EL
open PySem PySem.Spec L2
open PyProof.Rows hiding St
theorem runG {X : Cx} {k : Nat} {f : Addr} {fd : FuncData} {ps : List Str} {sp : Sp} {pins : List (Addr × Obj)} {σ : St} {H : Hp} {s : Shared} {Q : VK} {us : List Value} {vs : List V} {E : XK} (F : FnG X.prog X.w X.K X.mg X.base CX0 k f fd ps sp) (hr : Room k X.A) (gd : X.A.guards = some []) (hb : Binds X.K fd ps [])
    (I : Inv X pins σ H s) (r : Vals vs us) (h : sp vs H Q E) : wpAny (model X.prog X.w) X.A (call (.ref f) us) (EP X pins σ Q) X.xe s := by
  have len := F.len _ _ _ _ h
  have all : BindsTo s fd ⟨us, []⟩ (ps.zip us) := by
    have z := hb s us I.kIn (by rw [List.append_nil, ← r.length]; exact len)
    rw [List.append_nil] at z
    exact z
  refine wpAny_call (codeAny_mono (F.run X.A X.stack s H _ us vs Q E hr gd I.env0 all r h) fun back s' z => ?_)
  rcases back with bad | fl
  · exact pass0 pins σ H s bad s' I z
  · cases fl with
    | ret u => exact I.after z
    | _ => exact z.elim
section
variable {X : Cx} {cm : Cm} {e : Expr} {es : List Expr} {mr : MA} {pos p : Pos} {k : Nat} {f : Addr} {fd : FuncData} {ps : List Str} {x : Str} {m : List W → M W}
theorem re_callG (F : FnG X.prog X.w X.K X.mg X.base CX0 k f fd ps (spM X.K cm m)) (hr : Room k X.A) (gd : X.A.guards = some []) (hm : X.mg x = some (.ref f)) (hk : PySem.W.keepIn X.K (.ref f) = true) (hb : Binds X.K fd ps []) (ha : RA X cm (e :: es) mr) (hg : Gl X x := by rfl)
    (hdb : (x == ("__debug__" : Str)) = false := by decide) (he : starEach (e :: es) X.env = (false, eval e X.env) :: starEach es X.env := by rfl) (hpl : (backTo pos (starEach es X.env)).any (·.1) = false := by rfl) : RE X cm (.Call (.Name x p) (e :: es) [] pos) (mCall m mr) := by
  refine ⟨fun pins s σ H Q I q => ?_⟩
  obtain ⟨ρ, h, sw, w, h', rh, rs, e0, kk⟩ := q
  obtain ⟨ws, h1, e1, e2⟩ := bnd_ok e0
  refine wpAny_Call_Name_kw (ld_glob I hg hm ?_ hdb)
  refine PySem.W.callWith_K (h₀ := X.base) I.ok.mod.kin hk (thn (ha.run pos pins s σ H _ I ⟨ρ, h, sw, ws, h1, rh, rs, e1, fun ρ1 H1 vs l1 rh1 rv => (⟨ρ1, h1, ws, w, h', rh1, rv, e2, fun ρ2 H2 v l2 => kk ρ2 H2 v (l1.trans l2)⟩ : spM X.K cm m vs H1 Q fun _ _ _ => False)⟩) fun us s1 back => ?_) he hpl
  obtain ⟨vs, H1, I1, r, q⟩ := back
  exact ⟨I1.kIn, runG (E := fun _ _ _ => False) F hr gd hb I1 r q⟩
end
theorem efnG {P : Program} {w : World} {K : PySem.W.Frag} {mg : Str → Option Value} {base : Heap} {x qual : Str} {st : Stmt} {f : Addr} {fd : FuncData} {N ps : List Str} {k : Nat} {cm : Cm} {m : MS} (F : Fun K x qual st f fd) (S : FnScope N ps (defScope st))
    (hb : ∀ (cdv : Value) (A : Around) (outer : List Env) (s : Shared) (H : Hp) (E : XK), Room k (A.deeper (envOfC qual (defScope st) s.heap.objs.size f cdv)) → (A.deeper (envOfC qual (defScope st) s.heap.objs.size f cdv)).guards = some [] →
      RSs (cxOf CX0 P w K mg base N qual (defScope st) f cdv A outer s H E).nox cm (defBody st) m) :
    FnG P w K mg base CX0 (k + 1) f fd ps (spM K cm (mFn ps.length N.length m)) := by
  refine fnG_of F S (fun vs H Q E h => ?_) (fun cdv A outer s H vs Q E hr gd h => ?_)
  · obtain ⟨ρ, h, ws, w, h', rh, rs, e, k⟩ := h
    unfold mFn at e
    split at e
    · rw [← rs.length]
      assumption
    · cases e
  · refine ⟨_, PSs.nox (hb cdv A outer s H E hr gd), ?_⟩
    obtain ⟨ρ, h, ws, w, h', rh, rs, e, kk⟩ := h
    unfold mFn at e
    split at e
    · rename_i hl
      obtain ⟨fl, h1, e1, e2⟩ := bnd_ok e
      have q := relS_start (N := N) rs
      rw [hl] at q
      refine ⟨ρ, h, _, fl, h1, rh, q, e1, ?_⟩
      cases fl with
      | rt w' => cases e2; exact kk
      | nx s => cases e2; exact fun ρ' H' σ' l rh' _ => kk ρ' H' .non l rh' .non
      | bk s => cases e2
      | ct s => cases e2
    · cases e
end EL
set_option maxHeartbeats 2000000
/-! EL40: the law's own call, no guard being up. -/
namespace EL
open PySem PySem.Spec L2
open PyProof.Rows hiding St
section
variable {P : Program} {w : World} {K : PySem.W.Frag} {mg mb : Str → Option Value} {CX : CXT} {k : Nat} {fa a : Addr} {fd : FuncData} {x : Str} {sp : Sp} {t : Shared} {vs : List Value} {ns : List Int}
/-- what the law's call must come to -/
def Comes (t : Shared) : Result → Shared → Prop := fun r s' => r = .ok (.ret (.bool true)) ∧ OldK t.heap s'.heap ∧ s'.os = t.os ∧ AllBare s'.gens
theorem core_G (KX : K.In t.heap) (hns : t.heap.Ns mainGlobals mg) (hb : t.heap.Ns builtinsNs mb) (hbb : ∀ x : Str, x ≠ "__name__" → mb x = bootBuiltins x) (hlim : t.heap.NoLimit) (hg : t.gens = #[]) (ha : t.heap.get? a = some { cls := .type "list", data := .seq vs.toArray }) (hr : Room k callerA)
    (F : ∀ base : Heap, K.In base → base.Ns mainGlobals mg → FnG P w K mg base CX k fa fd [x] sp) (hbind : ∀ (s : Shared) (u : Value), BindsTo s fd ⟨[u], []⟩ [(x, u)]) (hCX : ∀ H e s', CX [] H t (fun _ _ _ => False) e s' → False)
    (H : Hp) (hO : Only H) (hok : HOk P w H t.heap) (hA : ∀ b, H b ≠ none → b = a) (hK : H a ≠ none → K.lookup a = none) (wish : sp [.ref a] H (fun v _ => v = .bl true) fun _ _ _ => False) :
    codeAny (model P w) callerA (.call (.ref fa) ⟨[.ref a], []⟩) (Comes t) t := by
  have low : ∀ {b : Addr} {o : Obj}, t.heap.get? b = some o → H b = none → (hidT t.heap H).get? b = some o := fun e n => hidT_get e n
  have dic : ∀ {b : Addr} {o : Obj} {es : Array DictEntry} {ep : Nat}, t.heap.get? b = some o → o.data = .dict es ep → H b = none := fun {b o es ep} e d => by
    by_cases q : H b = none
    · exact q
    · have eb := hA b q
      subst eb
      rw [ha] at e
      cases e
      have d2 : Data.seq vs.toArray _ = Data.dict es ep := d
      cases d2
  have nsp : ∀ {b : Addr} {m : Str → Option Value}, t.heap.Ns b m → (hidT t.heap H).Ns b m := fun {b m} z => by
    obtain ⟨o, es, ep, e, d, r⟩ := z
    exact ⟨o, es, ep, low e (dic e d), d, r⟩
  have kin : K.In (hidT t.heap H) := fun b o e => by
    refine low (KX b o e) ?_
    by_cases q : H b = none
    · exact q
    · have eb := hA b q
      subst eb
      rw [hK q] at e
      cases e
  have lim : (hidT t.heap H).NoLimit := by
    obtain ⟨mc, h1, h2⟩ := hlim
    exact ⟨mc, nsp h1, h2⟩
  have e0 : Env0 P w K mg (hidT t.heap H) callerA [] t H :=
    ⟨rfl, ⟨kin, nsp hns, ⟨mb, nsp hb, hbb⟩, lim⟩, fun b o e => of_hidT e, Nat.le_of_eq (hidT_size _ _), trivial, (fun b z => by cases (show b ∈ ([] : List Addr) from z)), hok, .of_eq hg⟩
  have go := (F _ kin (nsp hns)).run callerA [] t H ⟨[.ref a], []⟩ [.ref a] [.ref a] _ _ hr rfl e0 (hbind t (.ref a)) (.cons rfl .nil) wish
  refine codeAny_mono go fun r s' back => ?_
  rcases r with e | fl
  · exact (hCX H e s' back).elim
  rcases fl with _ | _ | _ | u
  · exact back.elim
  · exact back.elim
  · exact back.elim
  obtain ⟨v, H', os, bare, un, hok', rv, ev⟩ := back
  have ev' : v = .bl true := ev
  subst ev'
  obtain rfl : u = Value.bool true := rv
  refine ⟨rfl, OldK.of_keep fun b o e => ?_, os, bare⟩
  rcases hO b with z | ⟨ob, xs, z⟩
  · exact un.keep b o e z (fun m => by cases (show b ∈ ([] : List Addr) from m)) (fun m => by cases m)
  · obtain ⟨e1, _⟩ := hok b _ z
    obtain ⟨e2, _⟩ := hok' b _ (un.frzs b ob _ z)
    rw [e] at e1
    cases e1
    exact e2
end
end EL
set_option maxHeartbeats 2000000
/-! EL41: the end of a law whose def is FnG. -/
namespace EL
open PySem PySem.Spec L2
open PyProof.Rows hiding St
theorem call_G {P : Program} {w : World} {K : PySem.W.Frag} {mg mb : Str → Option Value} {CX : CXT} {k : Nat} {fa a : Addr} {fd : FuncData} {x : Str} {sp : Sp} {t : Shared} {vs : List Value} {ns : List Int} (KX : K.In t.heap) (hns : t.heap.Ns mainGlobals mg) (hb : t.heap.Ns builtinsNs mb) (hbb : ∀ x : Str, x ≠ "__name__" → mb x = bootBuiltins x) (hlim : t.heap.NoLimit) (hg : t.gens = #[])
    (ha : t.heap.get? a = some { cls := .type "list", data := .seq vs.toArray }) (hi : IntsAre vs ns) (hl : ns.length ≤ sizeLine) (hr : Room k callerA)
    (F : ∀ base : Heap, K.In base → base.Ns mainGlobals mg → FnG P w K mg base CX k fa fd [x] sp) (hbind : ∀ (s : Shared) (u : Value), BindsTo s fd ⟨[u], []⟩ [(x, u)])
    (hsp : ∀ H : Hp, Only H → SqL K H a (ns.map V.int) → sp [.ref a] H (fun v _ => v = .bl true) fun _ _ _ => False) (hCX : ∀ H e s', CX [] H t (fun _ _ _ => False) e s' → False) :
    codeAny (model P w) callerA (.call (.ref fa) ⟨[.ref a], []⟩) (Comes t) t := by
  have rv := vals_ints hi
  have lv := hi.length
  by_cases hk : K.lookup a = none
  · let H : Hp := fun b => if b = a then some (.frz { cls := .type "list", data := .seq vs.toArray } (.lst (ns.map V.int))) else none
    have at_ : H a = some (.frz { cls := .type "list", data := .seq vs.toArray } (.lst (ns.map V.int))) := if_pos rfl
    have off : ∀ b, b ≠ a → H b = none := fun b z => if_neg z
    have only : Only H := fun b => by
      by_cases z : b = a
      · subst z
        exact .inr ⟨_, _, at_⟩
      · exact .inl (off b z)
    refine core_G KX hns hb hbb hlim hg ha hr F hbind hCX H only (fun b u z => ?_) (fun b z => ?_) (fun _ => hk) (hsp H only (.inl (.inr ⟨_, at_⟩)))
    · by_cases y : b = a
      · subst y
        rw [at_] at z
        cases z
        exact ⟨ha, by rw [List.length_map]; exact hl, vs, _, rv, ha⟩
      · rw [off b y] at z
        cases z
    · by_cases y : b = a
      · exact y
      · exact absurd (off b y) z
  · obtain ⟨o, ho⟩ := Option.ne_none_iff_exists'.mp hk
    have e := KX a o ho
    rw [ha] at e
    cases e
    have only : Only fun _ => none := fun _ => .inl rfl
    exact core_G KX hns hb hbb hlim hg ha hr F hbind hCX (fun _ => none) only (fun b u z => by cases (show (none : Option HO) = some u from z)) (fun b z => absurd rfl z) (fun z => absurd rfl z)
      (hsp _ only (.inr ⟨_, vs.toArray, _, ho, rfl, rfl, rfl, by rw [List.size_toArray, lv]; exact hl, by simpa using rv⟩))
end EL
namespace EL
open PySem PySem.Spec L2
open PyProof.Rows hiding St
theorem walkG {l : PySem.W.OpenLaw} {n k : Nat} {q : Program} {loose : List Str} {XP : (Str → Option Value) → Heap → Prop} {YP : World → Heap → Prop} {d : DefRec} {K : Params → PySem.W.Frag} {CX : World → CXT} {sp : World → Sp} {x : Str} (most : l.most = some n) (small : n ≤ sizeLine) (plain : d.params.defaults = []) (room : Room k callerA)
    (written : ∀ (w : World) (h : Heap), YP w h → (K w.params).In h)
    (F : ∀ (w : World) (mg : Str → Option Value) (fa : Addr) (h : Heap), (K w.params).In h → h.Ns mainGlobals mg → mg d.name = some (.ref fa) → ∃ fd : FuncData, (∀ (s : Shared) (u : Value), BindsTo s fd ⟨[u], []⟩ [(x, u)]) ∧
      ∀ base : Heap, (K w.params).In base → base.Ns mainGlobals mg → FnG l.prog w (K w.params) mg base (CX w) k fa fd [x] (sp w))
    (wish : ∀ (w : World) (H : Hp) (a : Addr) (ns : List Int), ns.length ≤ n → Only H → SqL (K w.params) H a (ns.map V.int) → sp w [.ref a] H (fun v _ => v = .bl true) fun _ _ _ => False)
    (calm : ∀ (w : World) (H : Hp) (s : Shared) (e : Value) (s' : Shared), CX w [] H s (fun _ _ _ => False) e s' → False) : PySem.W.WalkO q loose XP YP l.row.toRowW d [] (fun f vs => PySem.call f vs) := by
  refine Att.attach_call most plain fun w s0 s1 mg mb fa o pm cd doc a vs ns G Y ho hd hcd hmg hobj hints hlen hg => ?_
  obtain ⟨fd, hb, hF⟩ := F w mg fa _ (written w _ Y) G.T.g hmg
  exact call_G (written w _ Y) G.T.g G.T.b G.T.builtins G.T.nolimit hg hobj hints (Nat.le_trans hlen small) room hF hb (fun H hO hS => wish w H a ns hlen hO hS) fun H e s' => calm w H s1 e s'
end EL
set_option maxHeartbeats 2000000
/-! EL42: defs that raise or try, where no guard is up. -/
namespace EL
open PySem PySem.Spec L2
open PyProof.Rows hiding St
abbrev FnYG (P : Program) (w : World) (K : PySem.W.Frag) (mg : Str → Option Value) (base : Heap) (cm : Cm) (k : Nat) (f : Addr) (fd : FuncData) (ps : List Str) (m : List W → M W) : Prop := FnG P w K mg base (L2.CX P w) k f fd ps (spY K cm m)
theorem FnG.calm {P : Program} {w : World} {K : PySem.W.Frag} {mg : Str → Option Value} {base : Heap} {cm : Cm} {k : Nat} {f : Addr} {fd : FuncData} {ps : List Str} {m : List W → M W} (F : FnYG P w K mg base cm k f fd ps m) : FnG P w K mg base CX0 k f fd ps (spM K cm m) := by
  have up : ∀ {vs H Q} {E : XK}, spM K cm m vs H Q E → spY K cm m vs H Q fun _ _ _ => False := fun {vs H Q E} q => by
    obtain ⟨ρ, h, ws, w, h', rh, rs, e, k⟩ := q
    refine ⟨ρ, h, ws, rh, rs, ?_⟩
    rw [e]
    exact k
  refine ⟨fun vs H Q E q => F.len vs H Q _ (up q), fun A outer s H args us vs Q E hr gd he hb hv q => ?_⟩
  refine codeAny_mono (F.run A outer s H args us vs Q _ hr gd he hb hv (up q)) fun r s' z => ?_
  cases r with
  | ok fl => cases fl <;> exact z
  | error u =>
    obtain ⟨_, _, _, _, _, _, _, _, _, _, _, _, no⟩ := (show L2.CX P w outer H s (fun _ _ _ => False) u s' from z)
    exact no.elim
theorem efnYG {P : Program} {w : World} {K : PySem.W.Frag} {mg : Str → Option Value} {base : Heap} {x qual : Str} {st : Stmt} {f : Addr} {fd : FuncData} {N ps : List Str} {k : Nat} {cm : Cm} {m : MS} (F : Fun K x qual st f fd) (S : FnScope N ps (defScope st))
    (hb : ∀ (cdv : Value) (A : Around) (outer : List Env) (s : Shared) (H : Hp) (E : XK), Room k (A.deeper (envOfC qual (defScope st) s.heap.objs.size f cdv)) → (A.deeper (envOfC qual (defScope st) s.heap.objs.size f cdv)).guards = some [] → Tak (cxOf (L2.CX P w) P w K mg base N qual (defScope st) f cdv A outer s H E) E →
      YSs (cxOf (L2.CX P w) P w K mg base N qual (defScope st) f cdv A outer s H E) cm E (defBody st) m) :
    FnYG P w K mg base cm (k + 1) f fd ps (mFn ps.length N.length m) := by
  refine fnG_of F S (fun vs H Q E h => ?_) (fun cdv A outer s H vs Q E hr gd h => ?_)
  · obtain ⟨ρ, h, ws, rh, rs, o⟩ := h
    unfold mFn at o
    split at o
    · rw [← rs.length]
      assumption
    · exact o.elim
  · refine ⟨_, hb cdv A outer s H E hr gd (takes_of rfl rfl rfl rfl), ?_⟩
    obtain ⟨ρ, h, ws, rh, rs, o⟩ := h
    unfold mFn at o
    split at o
    · rename_i hl
      refine ⟨ρ, h, ws.map some ++ List.replicate (N.length - ps.length) none, rh, ?_, ?_⟩
      · have q := relS_start (N := N) rs
        rw [hl] at q
        exact q
      · unfold bnd at o
        cases e1 : m (ws.map some ++ List.replicate (N.length - ps.length) none) h with
        | no => rw [e1] at o; exact o
        | ex c v h' => rw [e1] at o; exact o
        | ok fl h1 =>
          rw [e1] at o
          cases fl with
          | rt w => exact o
          | nx s => exact fun ρ' H' σ' l rh' _ => o ρ' H' .non l rh' .non
          | bk s => exact o.elim
          | ct s => exact o.elim
    · exact o.elim
end EL
set_option maxHeartbeats 2000000
/-! EL43: repr of anything where the guards are known; an own __rmul__ behind a plain value. -/
namespace EL
open PySem PySem.Spec L2
open PyProof.Rows hiding St
theorem oReprA {X : Cx} (gd : X.A.guards = some []) (hu : X.A.units + 65 < cLine) : CallR X (.builtin "repr") (fun xs H Q => rRepr xs H Q ∨ rReprD X.K xs H Q) := fun pins s σ H xs us Q I r h => h.elim (oRepr pins s σ H xs us Q I r) (oReprD gd hu pins s σ H xs us Q I r)
end EL
namespace PySem.W
open PySem PySem.Calls PyProof.Rows
theorem fills_non_mul : fillsNumberSlot (.type "NoneType") "mul" = pure false := by
  unfold fillsNumberSlot
  simp only [typeLookup_type, builtinLookup_eq_fast]
  kernel_rfl
/-- the left kind has no such operator, or hands it on -/
structure Hands (prog : Program) (w : World) (s : Shared) (b : Value) (x : Addr) (T : String) : Prop where
  kind : Looks (model prog w) s.heap (typeOf b) (.type T)
  fill : fillsNumberSlot (.type T) "mul" = pure false ∨ (fillsNumberSlot (.type T) "mul" = pure true ∧ ∀ (n : Str), n = PySem.dunder "mul" → ∀ (A : Around) (E : Value → Shared → Prop) (Q : Option Value → Shared → Prop), Q none s → wpAny (model prog w) A (tryMethod b n (.ref x)) Q E s)
section
variable {prog : Program} {w : World}
theorem int_mul_inst (a : Int) (t : Tok) (x C : Addr) (od : Option Addr) : Meets (Builtin.«int.__mul__» ⟨[.int a t, .ref x], []⟩) (fun _ R s => (∃ dx, s.heap.get? x = some (instObj C dx)) ∧ R (.ok (.ret Value.notImplemented)) s) :=
  .of_wp fun prog w A R s h => by
    obtain ⟨hp, g, d, tk, os⟩ := s
    obtain ⟨⟨dx, hl⟩, h⟩ := h
    unfold instObj at hl
    wp_walk
    exact ⟨_, rfl, h⟩
theorem bool_mul_inst (a : Bool) (x C : Addr) : Meets (Builtin.«int.__mul__» ⟨[.bool a, .ref x], []⟩) (fun _ R s => (∃ dx, s.heap.get? x = some (instObj C dx)) ∧ R (.ok (.ret Value.notImplemented)) s) :=
  .of_wp fun prog w A R s h => by
    obtain ⟨hp, g, d, tk, os⟩ := s
    obtain ⟨⟨dx, hl⟩, h⟩ := h
    unfold instObj at hl
    wp_walk
    exact ⟨_, rfl, h⟩
end
theorem hands_int {prog : Program} {w : World} {s : Shared} {x C dx : Addr} (i : Int) (t : Tok) (h : s.heap.get? x = some (instObj C dx)) : Hands prog w s (.int i t) x "int" where
  kind := .of_pure rfl
  fill := .inr ⟨F.fills_int_mul, fun n hn A E Q q => by
    have sl : Slot "int" n "int.__mul__" := by rw [hn]; exact F.slot_int_mul
    have a := F.args_int_mul_2 (.int i t) (.ref x)
    have b := call_meets (prog := prog) (w := w) (A := A) (E := E) (s := s) (Q := fun v s' => v = .notImplemented ∧ Q none s') F.slot_int_mul (typeIs_int s i t) F.entry_int_mul a (int_mul_inst i t x C none)
    refine wpAny_tryMethod_declines (typeIs_int s i t) sl ?_
    apply b
    exact ⟨⟨dx, h⟩, rfl, q⟩⟩
theorem typeIs_bl (s : Shared) (b : Bool) : s.TypeIs (.bool b) "bool" := rfl
theorem hands_bool {prog : Program} {w : World} {s : Shared} {x C dx : Addr} (i : Bool) (h : s.heap.get? x = some (instObj C dx)) : Hands prog w s (.bool i) x "bool" where
  kind := .of_pure rfl
  fill := .inr ⟨F.fills_bool_mul, fun n hn A E Q q => by
    have sl : Slot "bool" n "int.__mul__" := by rw [hn]; exact F.slot_bool_mul
    have a := F.args_int_mul_2 (.bool i) (.ref x)
    have b := call_meets (prog := prog) (w := w) (A := A) (E := E) (s := s) (Q := fun v s' => v = .notImplemented ∧ Q none s') F.slot_bool_mul (typeIs_bl s i) F.entry_int_mul a (bool_mul_inst i x C)
    refine wpAny_tryMethod_declines (typeIs_bl s i) sl ?_
    apply b
    exact ⟨⟨dx, h⟩, rfl, q⟩⟩
theorem hands_non {prog : Program} {w : World} {s : Shared} {x : Addr} : Hands prog w s .none x "NoneType" where
  kind := .of_pure rfl
  fill := .inl fills_non_mul
theorem hands_str {prog : Program} {w : World} {s : Shared} {x : Addr} (y : Str) (t : Tok) : Hands prog w s (.str y t) x "str" where
  kind := .of_pure rfl
  fill := .inl noFill_str_mul
/-- an own __rmul__ behind a plain value -/
theorem own_rmul {prog : Program} {w : World} {A : Around} {E : Value → Shared → Prop} {s : Shared} {K : Frag} {x C L f g : Addr} {h₀ : Heap} {m : Str → Option Value} {ox : Obj} {od : Option Obj} {T : String} {b : Value} {Q : Value → Shared → Prop}
    (F : Fr h₀ L s.heap m) (X₀ : K.In h₀) (I : InstAt s.heap x ox C od) (hand : Hands prog w s b x T) (first : selfFirst K C = true) (own : findIn K (.ref C) (PySem.dunder "mul") = some (some (.ref g))) (mine : findIn K (.ref C) (dunderR "mul") = some (some (.ref f))) (fn : isFn K (.ref f) = true)
    (no : subIn K (.ref C) (.type T) = some false) (h : wpAny (model prog w) A (call (.ref f) [.ref x, b]) (CmpBack Q) E s) : wpAny (model prog w) A (binaryOp .Mult b (.ref x)) Q E s := by
  have X := X₀.keeps F.keep
  obtain ⟨cd, rest, hcd, hm⟩ := ksp_first first
  have made := ksp_try X I mine fn h
  obtain ⟨kind, fill⟩ := hand
  obtain ⟨hh, gs, dr, tk, os⟩ := s
  have K1 : Looks (model prog w) hh (typeOf (.ref x)) (.ref C) := I.type
  have K2 : Looks (model prog w) hh (fillsNumberSlot (.ref C) "mul") true := fills_K (M := model prog w) X hcd hm own
  have K4 : Looks (model prog w) hh (isSubtype (.ref C) (.type T)) false := looks_subIn X no
  have K6 : Looks (model prog w) hh (numberSlotInPython (.type T) "mul") false := .of_pure rfl
  have apart : (Value.type T == Value.ref C) = false := Bool.eq_false_iff.mpr fun z => nomatch beq_iff_eq.mp z
  have info : Operator.info .Mult = ("*", "mul") := rfl
  simp only [binaryOp, info]
  refine wpAny_holding (wpAny_bind ?_)
  unfold binaryOp1
  refine wpAny_bind (kind.at (wpAny_bind (K1.at ?_)))
  rcases fill with fl | ⟨fl, de⟩
  · have K3 : Looks (model prog w) hh (fillsNumberSlot (.type T) "mul") false := .of_pure fl
    refine wpAny_bind (K3.at ?_)
    simp only [apart, if_false, Bool.false_eq_true]
    ksp_lk
    refine wpAny_mono made (fun r s' z => ?_) fun _ _ e => e
    obtain ⟨v, rfl, q⟩ := z
    ksp_lk
    exact q
  · have K3 : Looks (model prog w) hh (fillsNumberSlot (.type T) "mul") true := .of_pure fl
    refine wpAny_bind (K3.at ?_)
    simp only [apart, if_false, Bool.false_eq_true]
    ksp_lk
    refine de _ rfl _ _ _ ?_
    ksp_lk
    refine wpAny_mono made (fun r s' z => ?_) fun _ _ e => e
    obtain ⟨v, rfl, q⟩ := z
    ksp_lk
    exact q
end PySem.W
namespace EL
open PySem PySem.Spec L2
open PyProof.Rows hiding St
def plainW : W → Bool
  | .int _ | .bl _ | .non | .str _ => true
  | _ => false
def plainV (v : V) : Prop := (∃ i, v = .int i) ∨ (∃ b, v = .bl b) ∨ v = .non ∨ ∃ x, v = .str x
/-- y * x, x an instance with an own __rmul__ -/
def fRmul (C : Str) (f : List W → M W) : W → W → M W := fun y x h => if (plainW y && insB h x C) = true then f [x, y] h else .no
def rRmul (C : Addr) (sp : Sp) (E : XK) : R2 := fun y x H Q => plainV y ∧ ∃ a dx fs, x = .ref a ∧ H a = some (.ins C dx fs) ∧ sp [x, y] H Q E
/-- what a class must say of its __rmul__ -/
structure RmF (K : PySem.W.Frag) (C : Addr) : Prop where
  first : PySem.W.selfFirst K C = true
  own : ∃ g : Addr, PySem.W.findIn K (.ref C) (PySem.dunder "mul") = some (some (.ref g))
  i : PySem.W.subIn K (.ref C) (.type "int") = some false
  b : PySem.W.subIn K (.ref C) (.type "bool") = some false
  n : PySem.W.subIn K (.ref C) (.type "NoneType") = some false
  s : PySem.W.subIn K (.ref C) (.type "str") = some false
theorem op_rmulY {X : Cx} {k : Nat} {f C : Addr} {fd : FuncData} {ps : List Str} {sp : Sp} {E : XK} (G0 : FnOk X.prog X.w X.K X.mg X.base (L2.CX X.prog X.w) k f fd ps sp) (hr : Room k X.A) (hb : Binds X.K fd ps []) (tk : Tak X E)
    (R0 : RmF X.K C) (hs : PySem.W.findIn X.K (.ref C) (dunderR "mul") = some (some (.ref f))) (hf : PySem.W.isFn X.K (.ref f) = true) : OpR X (binaryOp .Mult) (rRmul C sp E) := by
  intro pins s σ H y x u v Q I ry rx hq
  obtain ⟨py, a, dx, fs, rfl, ea, h⟩ := hq
  cases (show v = Value.ref a from rx)
  obtain ⟨od, J⟩ := inst_of I ea
  obtain ⟨m, hF⟩ := I.fr
  obtain ⟨g, hg⟩ := R0.own
  have at0 : s.heap.get? a = some (PySem.W.instObj C dx) := (I.hok a _ ea).2.2.2.1
  have run : wpAny (model X.prog X.w) X.A (call (.ref f) [.ref a, u]) (PySem.W.CmpBack (EP X pins σ Q)) X.xe s := wpAny_mono (runY G0 ⟨hr, rfl⟩ hb tk I (.cons rx (.cons ry .nil)) h) (fun r s' q => by
    obtain ⟨z, H', I', rz, q⟩ := q
    exact back_of (rel_ni rz) ⟨z, H', I', rz, q⟩) fun _ _ e => e
  rcases py with ⟨i, rfl⟩ | ⟨i, rfl⟩ | rfl | ⟨i, rfl⟩
  · obtain ⟨t, rfl⟩ := (show ∃ t, u = Value.int i t from ry)
    exact PySem.W.own_rmul hF I.ok.mod.kin J (PySem.W.hands_int i t at0) R0.first hg hs hf R0.i run
  · obtain rfl : u = Value.bool i := ry
    exact PySem.W.own_rmul hF I.ok.mod.kin J (PySem.W.hands_bool i at0) R0.first hg hs hf R0.b run
  · obtain rfl : u = Value.none := ry
    exact PySem.W.own_rmul hF I.ok.mod.kin J PySem.W.hands_non R0.first hg hs hf R0.n run
  · obtain ⟨t, rfl⟩ := (show ∃ t, u = Value.str i t from ry)
    exact PySem.W.own_rmul hF I.ok.mod.kin J (PySem.W.hands_str i t) R0.first hg hs hf R0.s run
section
variable {X : Cx} {cm : Cm} {E : XK} {a b : Expr} {ma mb : ME} {pos : Pos} {C : Str} {f : List W → M W}
theorem plain_of {y : W} {v : V} {K : PySem.W.Frag} {ρ : List Addr} {H : Hp} (r : Rel K ρ H y v) (e : plainW y = true) : plainV v := by
  cases r with
  | non => exact .inr (.inr (.inl rfl))
  | bl b => exact .inr (.inl ⟨b, rfl⟩)
  | int i => exact .inl ⟨i, rfl⟩
  | str x => exact .inr (.inr (.inr ⟨x, rfl⟩))
  | ref _ => cases e
  | tup _ _ => cases e
  | rol _ _ => cases e
theorem ye_rmul (ho : OpR X (binaryOp .Mult) (rRmul (cm C) (spY X.K cm f) E)) (ra : RE X cm a ma) (rb : RE X cm b mb) : YE X cm E (.BinOp a .Mult b pos) (mBin (fRmul C f) (noX ma) (noX mb)) :=
  peM (pe_op ho ra rb) fun σ H Q q => by
    obtain ⟨ρ, h, sw, rh, rs, o⟩ := q
    obtain ⟨y, h1, e1, o⟩ := nx_out o
    obtain ⟨x, h2, e2, o⟩ := nx_out o
    refine ⟨ρ, h, sw, y, h1, rh, rs, e1, fun ρ1 H1 y' l1 rh1 ry => ⟨ρ1, h1, sw, x, h2, rh1, rs.mono l1, e2, fun ρ2 H2 x' l2 rh2 rx => ?_⟩⟩
    have ry2 := ry.mono l2
    unfold fRmul at o
    split at o
    · rename_i c
      obtain ⟨c1, c2⟩ := Bool.and_eq_true_iff.mp c
      obtain ⟨p, ad, dx, fv, rfl, rfl, hp, ea⟩ := insB_of rh2 rx c2
      exact ⟨plain_of ry2 c1, ad, dx, fv, rfl, ea, ρ2, h2, _, rh2, .cons rx (.cons ry2 .nil), OutE.le (l1.trans l2) o⟩
    · exact o.elim
end
theorem FnG.imp {P : Program} {w : World} {K : PySem.W.Frag} {mg : Str → Option Value} {base : Heap} {CX : CXT} {k : Nat} {f : Addr} {fd : FuncData} {ps : List Str} {sp sp' : Sp} (F : FnG P w K mg base CX k f fd ps sp) (i : ∀ vs H Q E, sp' vs H Q E → sp vs H Q E) : FnG P w K mg base CX k f fd ps sp' :=
  ⟨fun vs H Q E h => F.len vs H Q E (i _ _ _ _ h), fun A outer s H args us vs Q E hr gd he hb hv h => F.run A outer s H args us vs Q E hr gd he hb hv (i _ _ _ _ h)⟩
theorem law_impG {P : Program} {w : World} {K : PySem.W.Frag} {mg : Str → Option Value} {base : Heap} {cm : Cm} {k : Nat} {f : Addr} {fd : FuncData} {ps : List Str} {m : List W → M W} (F : FnG P w K mg base CX0 k f fd ps (spM K cm m))
    (T : ∀ ns : List Int, ns.length ≤ 63 → ∃ h', m [.rol (ns.map W.int)] [] = .ok (.bl true) h') : FnG P w K mg base CX0 k f fd ps (spLaw K) := F.imp fun vs H Q E h => by
  obtain ⟨a, ns, rfl, hO, hS, hl, q⟩ := h
  obtain ⟨h', e⟩ := T ns hl
  have hp : SqP K H a (ns.map V.int) := by
    rcases hS with (hS | hS) | hS
    · rcases hO a with z | ⟨o, xs, z⟩
      · rw [z] at hS; cases hS
      · rw [z] at hS; cases hS
    · exact .inl hS
    · exact .inr hS
  refine ⟨[], [], [.rol (ns.map W.int)], .bl true, h', ⟨rfl, .nil, fun i o a e => by simp at e⟩, .cons (.rol hp (.ints ns)) .nil, e, fun ρ' H' v l rh r => ?_⟩
  cases r
  exact q H'
end EL
set_option maxHeartbeats 2000000
/-! EL44: own operators beside other kinds that raise nothing; an own item that raises. -/
namespace EL
open PySem PySem.Spec L2
open PyProof.Rows hiding St
theorem op_binC {X : Cx} {op : Operator} {k : Nat} {f C : Addr} {fd : FuncData} {ps : List Str} {sp : Sp} {tys : List String} (G0 : FnOk X.prog X.w X.K X.mg X.base CX0 k f fd ps sp) (hr : Room k X.A) (hb : Binds X.K fd ps [])
    (hc : PySem.W.selfFirst X.K C = true) (hs : PySem.W.findIn X.K (.ref C) (PySem.dunder op.info.2) = some (some (.ref f))) (hf : PySem.W.isFn X.K (.ref f) = true) (hn : ∀ n ∈ tys, BinF X.K C op n) : OpR X (binaryOp op) (rOwn X.K C tys sp) := by
  intro pins s σ H x y v u Q I rx ry hq
  obtain ⟨a, dx, fs, t, rfl, ea, ty, ht, h⟩ := hq
  cases (show v = Value.ref a from rx)
  obtain ⟨od, J⟩ := inst_of I ea
  obtain ⟨m, hF⟩ := I.fr
  have run : wpAny (model X.prog X.w) X.A (call (.ref f) [.ref a, u]) (PySem.W.CmpBack (EP X pins σ Q)) X.xe s := wpAny_mono (run_own G0 ⟨hr, rfl⟩ hb I (.cons rx (.cons ry .nil)) h) (fun r s' q => by
    obtain ⟨z, H', I', rz, q⟩ := q
    exact back_of (rel_ni rz) ⟨z, H', I', rz, q⟩) fun _ _ e => e
  have LT := ty.looks I ry
  rcases ht with rfl | ⟨n, hm, rfl⟩
  · exact PySem.W.binop_K (op := op) hF I.ok.mod.kin J LT hc hs hf run
  · obtain ⟨⟨rc, b1, b2⟩, ⟨fo, b3⟩, ⟨ro, b4⟩, b5⟩ := hn n hm
    exact PySem.W.own_bin hF I.ok.mod.kin J LT hc hs hf b1 b2 b3 b4 b5 run
theorem op_rmulC {X : Cx} {k : Nat} {f C : Addr} {fd : FuncData} {ps : List Str} {sp : Sp} (G0 : FnOk X.prog X.w X.K X.mg X.base CX0 k f fd ps sp) (hr : Room k X.A) (hb : Binds X.K fd ps [])
    (R0 : RmF X.K C) (hs : PySem.W.findIn X.K (.ref C) (dunderR "mul") = some (some (.ref f))) (hf : PySem.W.isFn X.K (.ref f) = true) : OpR X (binaryOp .Mult) (rRmul C sp fun _ _ _ => False) := by
  intro pins s σ H y x u v Q I ry rx hq
  obtain ⟨py, a, dx, fs, rfl, ea, h⟩ := hq
  cases (show v = Value.ref a from rx)
  obtain ⟨od, J⟩ := inst_of I ea
  obtain ⟨m, hF⟩ := I.fr
  obtain ⟨g, hg⟩ := R0.own
  have at0 : s.heap.get? a = some (PySem.W.instObj C dx) := (I.hok a _ ea).2.2.2.1
  have run : wpAny (model X.prog X.w) X.A (call (.ref f) [.ref a, u]) (PySem.W.CmpBack (EP X pins σ Q)) X.xe s := wpAny_mono (run_own G0 ⟨hr, rfl⟩ hb I (.cons rx (.cons ry .nil)) h) (fun r s' q => by
    obtain ⟨z, H', I', rz, q⟩ := q
    exact back_of (rel_ni rz) ⟨z, H', I', rz, q⟩) fun _ _ e => e
  rcases py with ⟨i, rfl⟩ | ⟨i, rfl⟩ | rfl | ⟨i, rfl⟩
  · obtain ⟨t, rfl⟩ := (show ∃ t, u = Value.int i t from ry)
    exact PySem.W.own_rmul hF I.ok.mod.kin J (PySem.W.hands_int i t at0) R0.first hg hs hf R0.i run
  · obtain rfl : u = Value.bool i := ry
    exact PySem.W.own_rmul hF I.ok.mod.kin J (PySem.W.hands_bool i at0) R0.first hg hs hf R0.b run
  · obtain rfl : u = Value.none := ry
    exact PySem.W.own_rmul hF I.ok.mod.kin J PySem.W.hands_non R0.first hg hs hf R0.n run
  · obtain ⟨t, rfl⟩ := (show ∃ t, u = Value.str i t from ry)
    exact PySem.W.own_rmul hF I.ok.mod.kin J (PySem.W.hands_str i t) R0.first hg hs hf R0.s run
def rIxY (C : Addr) (sp : Sp) (E : XK) : R2 := fun x y H Q => ∃ a dx fs, x = .ref a ∧ H a = some (.ins C dx fs) ∧ sp [x, y] H Q E
theorem ix_ownY {X : Cx} {k : Nat} {f C : Addr} {fd : FuncData} {ps : List Str} {sp : Sp} {E : XK} (G0 : FnOk X.prog X.w X.K X.mg X.base (L2.CX X.prog X.w) k f fd ps sp) (hr : Room (k + 1) X.A) (hb : Binds X.K fd ps []) (tk : Tak X E)
    (hs : PySem.W.findIn X.K (.ref C) "__getitem__" = some (some (.ref f))) (hf : PySem.W.fnIn X.K f = true) (hfn : PySem.W.isFn X.K (.ref f) = true) {slice : Expr} (hsl : ∀ o i, subscripted slice true o i = runValue (.builtin "lifetime.subscript" ⟨[o, i], []⟩)) :
    ∀ (value : Expr) (pins : List (Addr × Obj)) (s : Shared) (σ : St) (H : Hp) (x y : V) (v u : Value) (Q : VK), Inv X pins σ H s → RelV x v → RelV y u → rIxY C sp E x y H Q → wpAny (model X.prog X.w) X.A (subscriptTail value slice v u) (EP X pins σ Q) X.xe s := by
  intro value pins s σ H x y v u Q I rx ry hq
  obtain ⟨a, dx, fs, rfl, ea, h⟩ := hq
  cases (show v = Value.ref a from rx)
  obtain ⟨od, J⟩ := inst_of I ea
  obtain ⟨m, hF⟩ := I.fr
  exact PySem.W.sub_K hF I.ok.mod.kin J hs hf hfn (runY G0 (Sub.in1 ⟨hr, rfl⟩) hb tk I (.cons rx (.cons ry .nil)) h) (hsl _ _)
section
variable {X : Cx} {cm : Cm} {E : XK} {a b : Expr} {ma mb : ME} {pos : Pos} {C : Str} {f : List W → M W}
theorem wRmul : OpW X.K cm (rRmul (cm C) (spM X.K cm f) fun _ _ _ => False) (fRmul C f) := by
  intro ρ h H y x y' x' z h' Q rh ry rx e k
  unfold fRmul at e
  split at e
  · rename_i c
    obtain ⟨c1, c2⟩ := Bool.and_eq_true_iff.mp c
    obtain ⟨p, ad, dx, fv, rfl, rfl, hp, ea⟩ := insB_of rh rx c2
    exact ⟨plain_of ry c1, ad, dx, fv, rfl, ea, own2 rh (.cons rx (.cons ry .nil)) e k⟩
  · cases e
theorem ye_ixO {k : Nat} {g : Addr} {fd : FuncData} {ps : List Str} (G0 : FnY X.prog X.w X.K X.mg X.base cm k g fd ps f) (hr : Room (k + 1) X.A) (hb : Binds X.K fd ps []) (tk : Tak X E)
    (hs : PySem.W.findIn X.K (.ref (cm C)) "__getitem__" = some (some (.ref g))) (hf : PySem.W.fnIn X.K g = true) (hfn : PySem.W.isFn X.K (.ref g) = true) (ra : RE X cm a ma) (rb : RE X cm b mb)
    (hsl : ∀ o i, subscripted b true o i = runValue (.builtin "lifetime.subscript" ⟨[o, i], []⟩) := by exact fun _ _ => rfl) : YE X cm E (.Subscript a b pos) (mBin (fOwnIx C f) (noX ma) (noX mb)) := by
  refine peM (t := tOp (rIxY (cm C) (spY X.K cm f) E) (tE X.K cm ma) (tE X.K cm mb)) ⟨fun pins s σ H Q I q => ?_⟩ fun σ H Q q => ?_
  · exact Subscript_ (binT ra rb I q fun v u s2 x y H2 I2 rx ry q => ix_ownY G0 hr hb tk hs hf hfn hsl a pins s2 σ H2 x y v u Q I2 rx ry q)
  · obtain ⟨ρ, h, sw, rh, rs, o⟩ := q
    obtain ⟨x, h1, e1, o⟩ := nx_out o
    obtain ⟨y, h2, e2, o⟩ := nx_out o
    refine ⟨ρ, h, sw, x, h1, rh, rs, e1, fun ρ1 H1 x' l1 rh1 rx => ⟨ρ1, h1, sw, y, h2, rh1, rs.mono l1, e2, fun ρ2 H2 y' l2 rh2 ry => ?_⟩⟩
    have rx2 := rx.mono l2
    unfold fOwnIx at o
    split at o
    · rename_i c
      obtain ⟨p, ad, dx, fv, rfl, rfl, hp, ea⟩ := insB_of rh2 rx2 c
      exact ⟨ad, dx, fv, rfl, ea, ρ2, h2, _, rh2, .cons rx2 (.cons ry .nil), OutE.le (l1.trans l2) o⟩
    · exact o.elim
end
end EL
set_option maxHeartbeats 4000000
/-! EL45: own error classes made by a call with one keyword. -/
namespace EL
open PySem PySem.Spec L2
open PyProof.Rows hiding St
/-- the class is made by a call with one keyword -/
def MadeByK (nw : String) (tl : List Value) : Prop := ∀ {prog : Program} {w : World} {A : Around} {R : Result → Shared → Prop} {h : Heap} {g : Array GenState} {d : Drawn} {t : Nat} {os : OsState} {nm q : Str} {C N : Addr} {bs bm : List Value} {sn : List Str} {sub : List Value} {ab : Bool} {col : Option Bool} {dd : Option Addr} {k0 k1 k2 k3 k5 : Option Value} {n : Str} {u : Value} {fI : Addr},
  (∀ X : String, bm.contains (.type X) = tl.contains (.type X)) → h.get? C = some (excClassObj nm q C N bs bm true sn sub ab col dd k0 k1 k2 k3 k5 nw) → PySem.W.Looks (model prog w) h (typeLookup (.ref C) "__init__") (some (.ref fI)) → (∀ self, PySem.W.Looks (model prog w) h (bindSpecial (.ref fI) self) (.ref fI, [self])) →
  codeAny (model prog w) (A.under (.builtin "type.__call__" ⟨[.ref C], [(n, u)]⟩)) (.call (.ref fI) ⟨[.ref (h.objs.size + 1)], [(n, u)]⟩) (PySem.W.InitBack (h.objs.size + 1) R) ⟨(h.push (PySem.W.kdv_tup [])).push (PySem.HandSPX.excO C h.objs.size), g, d, t, os⟩ → codeAny (model prog w) A (.call (.ref C) ⟨[], [(n, u)]⟩) R ⟨h, g, d, t, os⟩
section
variable {prog : Program} {w : World} {A : Around} {R : Result → Shared → Prop} {E : Value → Shared → Prop} {h : Heap} {g : Array GenState} {d : Drawn} {t : Nat} {os : OsState} {nm q : Str} {C N : Addr} {bs bm bmB : List Value} {sn : List Str} {sub : List Value} {ab : Bool} {col : Option Bool} {dd : Option Addr} {k0 k1 k2 k3 k5 : Option Value} {n : Str} {u : Value} {fI : Addr} {B nw initId : String}
theorem kw_check (F : ExcBaseFacts B nw initId bmB) {M : Model} {Q : Unit → Shared → Prop} (hL : bm.contains (.type B) = true) (at_ : h.get? C = some (excClassObj nm q C N bs bm true sn sub ab col dd k0 k1 k2 k3 k5 nw)) (z : Q () ⟨h, g, d, t, os⟩) : wpAny M A (checkBuiltinCall nw ⟨[.ref C], [(n, u)]⟩) Q E ⟨h, g, d, t, os⟩ := by
  have star := F.noStar
  have has : (Value.ref C :: bm).contains (.type B) = true := by rw [List.contains_cons, hL, Bool.or_true]
  simp only [checkBuiltinCall, F.newKind, F.newSplit, F.newRow]
  repeat (first | refine wpAny_loadPart_at at_ ?_ | (refine wpAny_isSubtype_exc at_ ?_; rw [has]) | refine wpAny_staticBase_exc at_ ?_ | refine wpAny_madeBy_exc at_ ?_ | simp only [bne_self_eq_false, Bool.false_eq_true, if_false] | wp_step)
  exact z
theorem kw_new (F : ExcBaseFacts B nw initId bmB) (hL : bm.contains (.type B) = true) (hA : bm.contains (.type "AttributeError") = false) (hN : bm.contains (.type "NameError") = false) (at_ : h.get? C = some (excClassObj nm q C N bs bm true sn sub ab col dd k0 k1 k2 k3 k5 nw))
    (z : R (.ok (.ret (.ref (h.objs.size + 1)))) ⟨(h.push (PySem.W.kdv_tup [])).push (PySem.HandSPX.excO C h.objs.size), g, d, t, os⟩) : codeAny (model prog w) A (.builtin nw ⟨[.ref C], [(n, u)]⟩) R ⟨h, g, d, t, os⟩ := by
  have ends := F.ends
  have has : (Value.ref C :: bm).contains (.type B) = true := by rw [List.contains_cons, hL, Bool.or_true]
  have noA : (Value.ref C :: bm).contains (.type "AttributeError") = false := by rw [List.contains_cons, hA]; rfl
  have noN : (Value.ref C :: bm).contains (.type "NameError") = false := by rw [List.contains_cons, hN]; rfl
  refine codeAny_builtinAt F.entry ?_
  unfold Builtin.«BaseException.__new__»
  refine PySem.wpAt_bind ?_
  show PySem.wpAt _ _ _ (stack >>= _) _ _ _
  refine PySem.wpAt_bind (PySem.wpAt_stack fun p below => PySem.wpAt_of_wpAny ?_)
  wp_walk
  refine PySem.wpAt_of_wpAny ?_
  rw [F.owner]
  repeat (first | with_reducible refine wpAny_madeHere_exc F.canon at_ ?_ | with_reducible refine wpAny_loadPart_at at_ ?_ | (with_reducible refine wpAny_isSubtype_exc at_ ?_; first | rw [has] | rw [noA] | rw [noN]) | wp_step)
  show R _ _
  rw [Heap.size_push]
  exact z
end
theorem made_kw {B nw initId : String} {bmB tl : List Value} (F : ExcBaseFacts B nw initId bmB) (tL : tl.contains (.type B) = true) (tA : tl.contains (.type "AttributeError") = false) (tN : tl.contains (.type "NameError") = false) : MadeByK nw tl := by
  intro prog w A R h g d t os nm q C N bs bm sn sub ab col dd k0 k1 k2 k3 k5 n u fI hT at_ hi hb hq
  have hL : bm.contains (.type B) = true := by rw [hT]; exact tL
  have hA : bm.contains (.type "AttributeError") = false := by rw [hT]; exact tA
  have hN : bm.contains (.type "NameError") = false := by rw [hT]; exact tN
  have f1 := tc_lookup
  have f2 := tc_bind (.ref C)
  have ty : (⟨h, g, d, t, os⟩ : Shared).TypeIs (.ref C) "type" := ⟨_, at_, rfl⟩
  refine codeAny_of_tree ?_
  show wpAny _ _ (callAny (.ref C) _) _ _ _
  repeat (any_goals (first | assumption | with_reducible refine wpAny_loadPart_at at_ ?_ | wp_step))
  refine ⟨rfl, codeAny_call_builtin_at (Code.quiet_builtin _ (by decide +kernel)) entry_typeCall ?_⟩
  refine wpAny_check_type_call_sub at_ ?_
  repeat (first | with_reducible refine wpAny_loadPart_at at_ ?_ | with_reducible refine wpAny_madeBy_exc at_ ?_ | wp_step)
  refine codeAny_call_builtin_code (Code.quiet_builtin _ F.quiet) (kw_check F hL at_ (kw_new F hL hA hN at_ ?_))
  show wpAny _ _ _ _ _ _
  have kk : ∀ b o, h.get? b = some o → ((h.push (PySem.W.kdv_tup [])).push (PySem.HandSPX.excO C h.objs.size)).get? b = some o := fun b o e => Heap.get?_push_of_some _ (Heap.get?_push_of_some _ e)
  have at1 := kk _ _ at_
  have mine : ((h.push (PySem.W.kdv_tup [])).push (PySem.HandSPX.excO C h.objs.size)).get? (h.objs.size + 1) = some ({ cls := .ref C, data := .fields #[.ref h.objs.size, .none, .none, .none, .bool false, .none] } : Obj) := by heap_get
  have self : (Value.ref C :: bm).contains (.ref C) = true := by simp
  have i1 := hi.keeps kk
  have b1 := (hb (.ref (h.objs.size + 1))).keeps kk
  unfold isInstance
  repeat (first | with_reducible refine wpAny_loadPart_at mine ?_ | (refine wpAny_isSubtype_exc at1 ?_; rw [self]) | wp_step)
  show wpAny _ _ (typeLookup (.ref C) _) _ _ _
  refine i1.at (wpAny_holding (wpAny_bind (b1.at (wpAny_bind (wpAny_call (codeAny_mono hq fun r s' z => ?_))))))
  rcases r with e | (v | _ | _ | _) <;> first | exact z | exact z.elim | skip
  obtain ⟨rfl, z⟩ := z
  first
    | exact wpAny_pure (wpAny_pure z)
    | (wp_walk; exact z)
theorem famK_V : MadeByK "ValueError.__new__" [.type "ValueError", .type "Exception", .type "BaseException", .type "object"] := made_kw F.excBase_ValueError (by decide +kernel) (by decide +kernel) (by decide +kernel)
theorem famK_O : MadeByK "OverflowError.__new__" [.type "OverflowError", .type "ArithmeticError", .type "Exception", .type "BaseException", .type "object"] := made_kw F.excBase_OverflowError (by decide +kernel) (by decide +kernel) (by decide +kernel)
theorem famK_R : MadeByK "RuntimeError.__new__" [.type "RuntimeError", .type "Exception", .type "BaseException", .type "object"] := made_kw F.excBase_RuntimeError (by decide +kernel) (by decide +kernel) (by decide +kernel)
theorem famK_K : MadeByK "LookupError.__new__" [.type "KeyError", .type "LookupError", .type "Exception", .type "BaseException", .type "object"] := made_kw F.excBase_LookupError (by decide +kernel) (by decide +kernel) (by decide +kernel)
/-- one keyword is bound -/
theorem binds_kw1 {K : PySem.W.Frag} {x q n : Str} {st : Stmt} {f : Addr} {fd : FuncData} (F : Fun K x q st f fd)
    (h : ∀ (kV doc pm : Value) (an : Option Addr) (cdv ct a u : Value), bindArgs (PySem.W.fnOf x q (defArgs st) (defBody st) (defScope st) .none kV doc pm an cdv ct) ⟨[a], [(n, u)]⟩ = pure [(("self" : Str), a), (n, u)]) (s : Shared) (a u : Value) : BindsTo s fd ⟨[a], [(n, u)]⟩ [(("self" : Str), a), (n, u)] := by
  obtain ⟨oc, od, kV, doc, pm, an, cdv, ct, osl, rfl, lk, hcd⟩ := F.ex
  exact .of_eq (h kV doc pm an cdv ct a u)
end EL
set_option maxHeartbeats 4000000
/-! EL46: errors as values: made, read, asked for their class. -/
namespace EL
open PySem PySem.Spec L2
open PyProof.Rows hiding St

section
variable {X : Cx} {o e : Expr} {es : List Expr} {to te : TE} {ta : TA} {f : Str} {p p' pos : Pos}
/-- an error is made and kept -/
theorem mk_keep {pins : List (Addr × Obj)} {σ : St} {H1 H2 : Hp} {hp hp2 h2 : Heap} {g1 g2 : Array GenState} {d1 d2 : Drawn} {t1 t2 : Nat} {os1 os2 : OsState} {a C d : Addr} {fs : List (Str × V)} (I1 : Inv X pins σ H1 ⟨hp, g1, d1, t1, os1⟩)
    (ha : hp.objs.size ≤ a) (k : ∀ b o, hp.get? b = some o → hp2.get? b = some o) (un : Un (frs X.stack) [] (upd H1 a (exo a C none)) H2 hp2 h2) (hok : HOk X.prog X.w H2 h2) (ho : os2 = os1) (hb : AllBare g2)
    (ed : H2 d = some (exd d fs)) (hd1 : H1 d = none) : Inv X pins σ (upd H2 d (.xd fs)) ⟨h2, g2, d2, t2, os2⟩ := by
  obtain ⟨mA, hns, rel⟩ := exd_at hok ed
  have hn : H1 a = none := I1.hok.fresh ha
  have nha : ∀ {b : Addr} {o : Obj}, hp.get? b = some o → b ≠ a := fun {b o} z => Nat.ne_of_lt (Nat.lt_of_lt_of_le (Heap.lt_size z) ha)
  have up : ∀ {b : Addr}, b ≠ a → H1 b = none → upd H1 a (exo a C none) b = none := fun {b} hb n => by rw [upd_ne hb]; exact n
  have nd : ∀ {b : Addr} {o : Obj}, hp.get? b = some o → H1 b = none → b ≠ d := fun {b o} z n e => by
    have y := un.free b o (k b o z) (up (nha z) n) (by simp)
    rw [e, ed] at y
    cases y
  have U : Un (frs X.stack) [] H1 (upd H2 d (.xd fs)) hp h2 := {
    keep := fun b o z n hf hx => un.keep b o (k b o z) (up (nha z) n) hf hx
    slot := fun b o z n hf hx => un.slot b o (k b o z) (up (nha z) n) hf hx
    free := fun b o z n hx => by
      rw [upd_ne (nd z n)]
      exact un.free b o (k b o z) (up (nha z) n) hx
    there := fun b o z hx => un.there b o (k b o z) hx
    tups := fun b xs z => by
      rw [upd_ne (ne_of_none z hd1)]
      exact un.tups b xs (by rw [upd_ne (ne_of_none z hn)]; exact z)
    frzs := fun b o v z => by
      rw [upd_ne (ne_of_none z hd1)]
      exact un.frzs b o v (by rw [upd_ne (ne_of_none z hn)]; exact z)
    tbls := fun b ps z => by
      rw [upd_ne (ne_of_none z hd1)]
      exact un.tbls b ps (by rw [upd_ne (ne_of_none z hn)]; exact z) }
  have hok3 : HOk X.prog X.w (upd H2 d (.xd fs)) h2 := fun b o z => by
    by_cases hbd : b = d
    · subst hbd
      rw [upd_same] at z
      cases z
      exact ⟨mA, hns, rel⟩
    · rw [upd_ne hbd] at z
      exact (hok b o z).stay (fun c v hc y => y)
        (fun c hc => by rw [upd_ne (at_ne ed hc exd_own)]; exact hc) (fun c xs hc => by rw [upd_ne (at_ne ed hc exd_tup)]; exact hc)
  exact I1.call' (ch := []) ho U hok3 hb (fun b z => absurd z (by simp))
/-- the heap with a new error -/
abbrev xvH (H : Hp) (a C dx : Addr) (f : Str) (y : V) : Hp := upd (upd H dx (.xd [(f, y)])) a (exo a C (some dx))
theorem xvH_eq {H : Hp} {a C dx : Addr} {f : Str} {y : V} (ne : dx ≠ a) : upd (upd (upd (upd H a (exo a C none)) dx (exd dx [(f, y)])) a (exo a C (some dx))) dx (.xd [(f, y)]) = xvH H a C dx f y := by
  funext b
  unfold xvH
  by_cases h1 : b = dx
  · subst h1
    rw [upd_same, upd_ne ne, upd_same]
  · rw [upd_ne h1]
    by_cases h2 : b = a
    · subst h2
      rw [upd_same, upd_same]
    · rw [upd_ne h2, upd_ne h1, upd_ne h2, upd_ne h2, upd_ne h1]
def tMkV (C : Addr) (f : Str) (ta : TA) : TE := fun σ H Q => ta σ H fun vs H1 => ∃ y, vs = [y] ∧ ∀ a dx, H1 a = none → H1 dx = none → dx ≠ a → Q (.ref a) (xvH H1 a C dx f y)
theorem pe_mkx {C : Addr} {x : Str} (er : ErrK X.prog X.w X.K X.mg X.base C x) (hr : Room 2 X.A) (ha : PA X (e :: es) ta) (hg : Gl X x := by rfl) (hdb : (x == ("__debug__" : Str)) = false := by decide)
    (he : starEach (e :: es) X.env = (false, eval e X.env) :: starEach es X.env := by rfl) (hpl : (backTo pos (starEach es X.env)).any (·.1) = false := by rfl) : PE X (.Call (.Name x p) (e :: es) [] pos) (tMkV C (fieldOf x) ta) := by
  refine ⟨fun pins s σ H Q I w => ?_⟩
  obtain ⟨fI, fd, iC, tI, F1, hb⟩ := er.ini
  obtain ⟨ds, eds, hb⟩ : ∃ ds, ds = [] ∧ Binds X.K fd ["self", fieldOf x] ds := ⟨[], rfl, hb⟩
  obtain ⟨nw, tl, nm, q, N, bs, bm, sn, sb, ab, cl, dd, k0, k1, k2, k3, k5, fam, hC, hbm⟩ := er.T.cls
  refine wpAny_Call_Name_kw (ld_glob I hg er.gl (PySem.W.callWith_K (h₀ := X.base) I.ok.mod.kin er.T.kC (thn (ha.run pos pins s σ H _ I w) fun us s1 ⟨vs, H1, I1, r1, y, ev, q1⟩ => ⟨I1.kIn, ?_⟩) he hpl) hdb)
  show wpAny _ _ (call (.ref C) us) _ _ _
  obtain ⟨hp, g, dr, tk, os⟩ := s1
  subst ev
  have up : hp.objs.size ≤ hp.objs.size + 1 := Nat.le_succ _
  have hn : H1 (hp.objs.size + 1) = none := I1.hok.fresh up
  have kk : ∀ b o, hp.get? b = some o → ((hp.push (PySem.W.kdv_tup us)).push (PySem.HandSPX.excO C hp.objs.size)).get? b = some o := fun b o z => Heap.get?_push_of_some _ (Heap.get?_push_of_some _ z)
  have gt : ((hp.push (PySem.W.kdv_tup us)).push (PySem.HandSPX.excO C hp.objs.size)).get? (hp.objs.size + 1) = some (PySem.HandSPX.excO C hp.objs.size) := by heap_get
  have I2 := I1.laid (t' := tk) (a := hp.objs.size + 1) (o := exo (hp.objs.size + 1) C none) (h' := (hp.push (PySem.W.kdv_tup us)).push (PySem.HandSPX.excO C hp.objs.size)) kk up (exo_ok gt)
  have r2 : Vals [V.ref (hp.objs.size + 1), y] (Value.ref (hp.objs.size + 1) :: (us ++ ds)) := by rw [eds, List.append_nil]; exact .cons rfl r1
  have hl : (Value.ref (hp.objs.size + 1) :: us ++ ds).length = 2 := by rw [eds, List.append_nil, List.length_cons, ← Paired.length r1]; rfl
  have hus : us.length ≤ sizeLine := by rw [← Paired.length r1, sizeLine_eq, List.length_cons, List.length_nil]; omega
  refine wpAny_call (fam.made (fun Y => PySem.W.excTail_contains Y bm hbm) (I1.kIn _ _ hC) (PySem.W.looks_findIn I1.kIn iC) (fun self => PySem.W.bind_fn I1.kIn self tI) hus
    (codeAny_mono (F1.run _ X.stack _ _ ⟨Value.ref (hp.objs.size + 1) :: us, []⟩ (Value.ref (hp.objs.size + 1) :: (us ++ ds)) _ (fun v H2 => v = .non ∧ ∃ dx, H1 dx = none ∧ dx ≠ hp.objs.size + 1 ∧ H2 = upd (upd (upd H1 (hp.objs.size + 1) (exo (hp.objs.size + 1) C none)) dx (exd dx [(fieldOf x, y)])) (hp.objs.size + 1) (exo (hp.objs.size + 1) C (some dx))) (fun _ _ _ => False) (hr.make C us []) (I2.env0.make C us []) (hb _ (Value.ref (hp.objs.size + 1) :: us) I2.kIn hl) r2
      ⟨_, C, y, rfl, er.T, er.nf, upd_same, fun dx nd ne => ⟨rfl, dx, by rw [upd_ne ne] at nd; exact nd, ne, rfl⟩⟩) fun r s' z => ?_))
  match r, z with
  | .error er', z => exact pass0 pins σ _ _ er' s' I2 z
  | .ok (.ret u), z =>
    obtain ⟨v, H2, os2, bare2, un2, hok2, rv, ev, d, hd1, ne, eH⟩ := z
    subst ev
    have ed : H2 d = some (exd d [(fieldOf x, y)]) := by rw [eH, upd_ne ne, upd_same]
    have J := mk_keep (d2 := s'.drawn) (t2 := s'.toks) I1 up kk un2 hok2 os2 bare2 ed hd1
    rw [eH, xvH_eq ne] at J
    exact ⟨rv, V.ref (hp.objs.size + 1), _, J, rfl, q1 _ d hn hd1 ne⟩
  | .ok .next, z => exact False.elim z
  | .ok .brk, z => exact False.elim z
  | .ok .cont, z => exact False.elim z
/-- an error class of the text, as a call by keyword sees it -/
structure ErrW (P : Program) (w : World) (K : PySem.W.Frag) (mg : Str → Option Value) (base : Heap) (C : Addr) (x : Str) : Prop where
  kw : ∃ nw tl nm q N bs bm sn sb ab cl dd k0 k1 k2 k3 k5, MadeByK nw tl ∧ K.lookup C = some (excClassObj nm q C N bs bm true sn sb ab cl dd k0 k1 k2 k3 k5 nw) ∧ PySem.W.excTail tl bm = true
  ini : ∃ fi fd, PySem.W.findIn K (.ref C) "__init__" = some (some (.ref fi)) ∧ PySem.W.typeIn K (.ref fi) = some (.type "function") ∧ FnOk P w K mg base CX0 1 fi fd ["self", fieldOf x] (spErr K (fieldOf x)) ∧ ∀ (s : Shared) (a u : Value), BindsTo s fd ⟨[a], [(fieldOf x, u)]⟩ [(("self" : Str), a), (fieldOf x, u)]
theorem pe_mkw {C : Addr} {x f : Str} {kpos : Pos} (er : ErrK X.prog X.w X.K X.mg X.base C x) (ew : ErrW X.prog X.w X.K X.mg X.base C x) (hr : Room 2 X.A) (hkw : PK X [⟨some f, e, kpos⟩] ta) (hf : fieldOf x = f := by rfl) (hg : Gl X x := by rfl) (hdb : (x == ("__debug__" : Str)) = false := by decide)
    (hall : (backToKw pos (keywordEach [⟨some f, e, kpos⟩] X.env)).all (·.1.isSome) = true := by rfl) (hks : (backToKw pos (keywordEach [⟨some f, e, kpos⟩] X.env)).filterMap (·.1) = [f] := by rfl)
    (hpl : ((backTo pos (starEach [] X.env)).any (·.1) || (backToKw pos (keywordEach [⟨some f, e, kpos⟩] X.env)).any (·.1.isNone)) = false := by rfl) : PE X (.Call (.Name x p) [] [⟨some f, e, kpos⟩] pos) (tMkV C (fieldOf x) ta) := by
  subst hf
  refine ⟨fun pins s σ H Q I w => ?_⟩
  obtain ⟨fI, fd, iC, tI, F1, hb⟩ := ew.ini
  obtain ⟨nw, tl, nm, q, N, bs, bm, sn, sb, ab, cl, dd, k0, k1, k2, k3, k5, fam, hC, hbm⟩ := ew.kw
  refine wpAny_Call_Name_kw (ld_glob I hg er.gl (PySem.W.callWith_KW0 (h₀ := X.base) I.ok.mod.kin er.T.kC hall (thn (hkw.run pos pins s σ H _ I w) fun us s1 ⟨vs, H1, I1, r1, y, ev, q1⟩ => ⟨I1.kIn, ?_⟩) hpl) hdb)
  rw [hks]
  subst ev
  have hus : ∃ u, us = [u] ∧ L2.RelV y u := by
    cases r1 with
    | cons a b =>
      cases b
      exact ⟨_, rfl, a⟩
  obtain ⟨u, eu, ru⟩ := hus
  rw [eu]
  show wpAny _ _ (call (.ref C) [] [(fieldOf x, u)]) _ _ _
  obtain ⟨hp, g, dr, tk, os⟩ := s1
  have up : hp.objs.size ≤ hp.objs.size + 1 := Nat.le_succ _
  have hn : H1 (hp.objs.size + 1) = none := I1.hok.fresh up
  have kk : ∀ b o, hp.get? b = some o → ((hp.push (PySem.W.kdv_tup [])).push (PySem.HandSPX.excO C hp.objs.size)).get? b = some o := fun b o z => Heap.get?_push_of_some _ (Heap.get?_push_of_some _ z)
  have gt : ((hp.push (PySem.W.kdv_tup [])).push (PySem.HandSPX.excO C hp.objs.size)).get? (hp.objs.size + 1) = some (PySem.HandSPX.excO C hp.objs.size) := by heap_get
  have I2 := I1.laid (t' := tk) (a := hp.objs.size + 1) (o := exo (hp.objs.size + 1) C none) (h' := (hp.push (PySem.W.kdv_tup [])).push (PySem.HandSPX.excO C hp.objs.size)) kk up (exo_ok gt)
  have r2 : Vals [V.ref (hp.objs.size + 1), y] [Value.ref (hp.objs.size + 1), u] := .cons rfl (.cons ru .nil)
  refine wpAny_call (fam (fun Y => PySem.W.excTail_contains Y bm hbm) (I1.kIn _ _ hC) (PySem.W.looks_findIn I1.kIn iC) (fun self => PySem.W.bind_fn I1.kIn self tI)
    (codeAny_mono (F1.run _ X.stack _ _ ⟨[Value.ref (hp.objs.size + 1)], [(fieldOf x, u)]⟩ [Value.ref (hp.objs.size + 1), u] _ (fun v H2 => v = .non ∧ ∃ dx, H1 dx = none ∧ dx ≠ hp.objs.size + 1 ∧ H2 = upd (upd (upd H1 (hp.objs.size + 1) (exo (hp.objs.size + 1) C none)) dx (exd dx [(fieldOf x, y)])) (hp.objs.size + 1) (exo (hp.objs.size + 1) C (some dx))) (fun _ _ _ => False) (hr.make C [] [(fieldOf x, u)]) (I2.env0.make C [] [(fieldOf x, u)]) (hb _ _ _) r2
      ⟨_, C, y, rfl, er.T, er.nf, upd_same, fun dx nd ne => ⟨rfl, dx, by rw [upd_ne ne] at nd; exact nd, ne, rfl⟩⟩) fun r s' z => ?_))
  match r, z with
  | .error er', z => exact pass0 pins σ _ _ er' s' I2 z
  | .ok (.ret u), z =>
    obtain ⟨v, H2, os2, bare2, un2, hok2, rv, ev, d, hd1, ne, eH⟩ := z
    subst ev
    have ed : H2 d = some (exd d [(fieldOf x, y)]) := by rw [eH, upd_ne ne, upd_same]
    have J := mk_keep (d2 := s'.drawn) (t2 := s'.toks) I1 up kk un2 hok2 os2 bare2 ed hd1
    rw [eH, xvH_eq ne] at J
    exact ⟨rv, V.ref (hp.objs.size + 1), _, J, rfl, q1 _ d hn hd1 ne⟩
  | .ok .next, z => exact False.elim z
  | .ok .brk, z => exact False.elim z
  | .ok .cont, z => exact False.elim z
end
/-! ### the plain side -/
def mMkX (C : Str) (mr : MA) : ME := fun sw => bnd (mr sw) fun ws h => match ws with
  | [v] => .ok (.ref h.length) (h ++ [.xc C (fieldOf C) v])
  | _ => .no
theorem mkx_of {K : PySem.W.Frag} {cm : Cm} {C : Str} {mr : MA} {σ : St} {H : Hp} {Q : VK} (q : tE K cm (mMkX C mr) σ H Q) : tMkV (cm C) (fieldOf C) (tA K cm mr) σ H Q := by
  obtain ⟨ρ, h, sw, w, h', rh, rs, e, k⟩ := q
  obtain ⟨ws, h1, e1, e2⟩ := bnd_ok e
  refine ⟨ρ, h, sw, ws, h1, rh, rs, e1, fun ρ1 H1 vs l1 rh1 rv => ?_⟩
  match ws, rv with
  | [], _ => cases e2
  | _ :: _ :: _, _ => cases e2
  | [v], .cons (v := y) r .nil =>
    cases e2
    refine ⟨y, rfl, fun a dx na nd ne => ?_⟩
    have nd' : upd H1 dx (.xd [(fieldOf C, y)]) a = none := by rw [upd_ne (Ne.symm ne)]; exact na
    have l2 : Le K ρ1 H1 ρ1 (xvH H1 a (cm C) dx (fieldOf C) y) := (le_new nd).trans (le_new nd')
    refine k (ρ1 ++ [a]) _ _ (l1.trans (l2.trans (le_app a))) ((rh1.new nd).push nd' ⟨dx, y, upd_same, by rw [upd_ne ne, upd_same], r.mono (l2.trans (le_app a))⟩) (.ref (push_at rh1))
section
variable {X : Cx} {cm : Cm} {a e : Expr} {es : List Expr} {ma me : ME} {mr : MA} {C f x : Str} {p p2 pos kpos : Pos}
theorem re_mkx (er : ErrK X.prog X.w X.K X.mg X.base (cm x) x) (hr : Room 2 X.A) (ha : RA X cm (e :: es) mr) (hg : Gl X x := by rfl) (hdb : (x == ("__debug__" : Str)) = false := by decide)
    (he : starEach (e :: es) X.env = (false, eval e X.env) :: starEach es X.env := by rfl) (hpl : (backTo pos (starEach es X.env)).any (·.1) = false := by rfl) : RE X cm (.Call (.Name x p) (e :: es) [] pos) (mMkX x mr) :=
  peM (pe_mkx er hr ha hg hdb he hpl) fun _ _ _ q => mkx_of q
theorem rk_one (ha : RE X cm e me) : PK X [⟨some f, e, kpos⟩] (tA X.K cm (aCons me aNil)) := by
  refine ⟨fun pos pins s σ H Q I q => (pk_cons ha pk_nil).run pos pins s σ H Q I ?_⟩
  obtain ⟨ρ, h, sw, w, h', rh, rs, e, k⟩ := q
  obtain ⟨x, h1, e1, e2⟩ := bnd_ok e
  obtain ⟨y, h2, e3, e4⟩ := bnd_ok e2
  cases e3
  cases e4
  exact ⟨ρ, h, sw, x, h', rh, rs, e1, fun ρ1 H1 x' l1 rh1 rx => k ρ1 H1 _ l1 rh1 (.cons rx .nil)⟩
theorem re_mkw (er : ErrK X.prog X.w X.K X.mg X.base (cm x) x) (ew : ErrW X.prog X.w X.K X.mg X.base (cm x) x) (hr : Room 2 X.A) (ha : RE X cm e me) (hf : fieldOf x = f := by rfl) (hg : Gl X x := by rfl) (hdb : (x == ("__debug__" : Str)) = false := by decide)
    (hall : (backToKw pos (keywordEach [⟨some f, e, kpos⟩] X.env)).all (·.1.isSome) = true := by rfl) (hks : (backToKw pos (keywordEach [⟨some f, e, kpos⟩] X.env)).filterMap (·.1) = [f] := by rfl)
    (hpl : ((backTo pos (starEach [] X.env)).any (·.1) || (backToKw pos (keywordEach [⟨some f, e, kpos⟩] X.env)).any (·.1.isNone)) = false := by rfl) : RE X cm (.Call (.Name x p) [] [⟨some f, e, kpos⟩] pos) (mMkX x (aCons me aNil)) :=
  peM (pe_mkw er ew hr (rk_one ha) hf hg hdb hall hks hpl) fun _ _ _ q => mkx_of q
/-- which class an error is of -/
def xcB (h : Hw) (x : W) : Option (Str × Str × W) := match x with
  | .ref p => match h[p]? with
    | some (.xc C f w) => some (C, f, w)
    | _ => none
  | _ => none
theorem xcB_of {K : PySem.W.Frag} {ρ : List Addr} {h : Hw} {H : Hp} {x w : W} {v : V} {C f : Str} (rh : RelH K cm ρ h H) (r : Rel K ρ H x v) (e : xcB h x = some (C, f, w)) : ∃ a d y, v = .ref a ∧ H a = some (exo a (cm C) (some d)) ∧ H d = some (.xd [(f, y)]) ∧ Rel K ρ H w y := by
  cases r with
  | @ref p a hp =>
    obtain ⟨o, ho, ro⟩ := rh.at (w := .non) hp
    unfold xcB at e
    dsimp only at e
    rw [ho] at e
    cases o with
    | xc C' f' w' =>
      cases e
      obtain ⟨d, y, e1, e2, q⟩ := ro
      exact ⟨a, d, y, rfl, e1, e2, q⟩
    | _ => cases e
  | _ => cases e
def tXv (K : PySem.W.Frag) (f : Str) (te : TE) : TE := fun σ H Q => te σ H fun x H1 => ∃ a C d fs v, x = .ref a ∧ XfC K C ∧ PySem.W.findIn K (.ref C) f = some none ∧ H1 a = some (exo a C (some d)) ∧ H1 d = some (.xd fs) ∧ fs.lookup f = some v ∧ Q v H1
theorem pe_xv {te : TE} (he : PE X e te) (hb : attributeBase e f X.env (eval e X.env) = eval e X.env := by rfl) : PE X (.Attribute e f pos) (tXv X.K f te) := by
  refine ⟨fun pins s σ H Q I h => ?_⟩
  refine attr_of hb (thn (he.run pins s σ H _ I h) fun u s1 hh => ?_)
  obtain ⟨x, H1, I1, rx, a, C, d, fs, v, ex, T, hno, ea, ed, l, q⟩ := hh
  subst ex
  obtain rfl : u = Value.ref a := rx
  obtain ⟨t1, hoe⟩ := exo_at I1.hok ea
  have hx : ObjOk X.prog X.w H1 s1.heap d (.xd fs) := I1.hok d _ ed
  obtain ⟨mA, hns, hr⟩ := hx
  obtain ⟨od, ho, hl⟩ := lookIn_ns hns
  obtain ⟨u, hu, ru⟩ := RelO.some_of (v := v) (o := mA f) (by rw [← l]; exact hr f)
  have J : PySem.W.InstAt s1.heap a _ C (some od) := ⟨hoe, rfl, rfl, ho⟩
  exact HandSPX.exc_get I1.kIn J T.ga T.gg T.exC (PySem.W.findObj_own T.hdC hno rfl (by rw [hl, hu])) (handed_of ru) ⟨v, H1, I1.tok _, ru, q⟩
/-- an error's field -/
def mFldX (C f : Str) (a : ME) : ME := fun sw => bnd (a sw) fun x h => match xcB h x with
  | some (C', f', w) => if C' = C ∧ f' = f then .ok w h else .no
  | none => .no
theorem re_fldX (hx : HxC X.K X.mg (cm C) C f) (ha : RE X cm a ma) (hb : attributeBase a f X.env (eval a X.env) = eval a X.env := by rfl) : RE X cm (.Attribute a f pos) (mFldX C f ma) := by
  refine peM (pe_xv ha hb) fun σ H Q q => ?_
  obtain ⟨ρ, h, sw, w, h', rh, rs, e, k⟩ := q
  obtain ⟨x, h1, e1, e2⟩ := bnd_ok e
  refine ⟨ρ, h, sw, x, h1, rh, rs, e1, fun ρ1 H1 v l1 rh1 rx => ?_⟩
  split at e2
  · rename_i C' f' w' hq
    split at e2
    · rename_i c
      obtain ⟨rfl, rfl⟩ := c
      cases e2
      obtain ⟨ad, d, y, rfl, ea, ed, rw'⟩ := xcB_of rh1 rx hq
      exact ⟨ad, _, d, _, y, rfl, hx.xf, hx.nf, ea, ed, by simp, k ρ1 H1 _ l1 rh1 rw'⟩
    · cases e2
  · cases e2
/-! isinstance of an error -/
def rIsX (K : PySem.W.Frag) : List V → Hp → VK → Prop := fun xs H Q => ∃ (a D d : Addr) (c : V) (cv : Value) (b : Bool) (fs : List (Str × V)), xs = [.ref a, c] ∧ ExcC K D ∧ (∀ u, RelV c u → u = cv) ∧ PySem.W.kitOne K (.ref D) cv = some b ∧ H a = some (exo a D (some d)) ∧ H d = some (.xd fs) ∧ Q (.bl b) H
theorem call_isX : CallR X (.builtin "isinstance") (rIsX X.K) := by
  intro pins s σ H xs us Q I r h
  obtain ⟨a, D, d, c, cv, b, fs, rfl, C, hcv, e, ea, ed, q⟩ := h
  cases r with
  | cons rx rr =>
    cases rr with
    | cons rt rr =>
      cases rr
      cases rx
      have ec := hcv _ rt
      subst ec
      obtain ⟨t1, hoe⟩ := exo_at I.hok ea
      have hx : ObjOk X.prog X.w H s.heap d (.xd fs) := I.hok d _ ed
      obtain ⟨mA, hns, hr⟩ := hx
      obtain ⟨od, ho, hl⟩ := lookIn_ns hns
      have J : PySem.W.InstAt s.heap a _ D (some od) := ⟨hoe, rfl, rfl, ho⟩
      have hcl : (PySem.W.clsIn X.K D).isSome = true := by
        obtain ⟨cdD, hcD, _⟩ := PySem.W.any_some C.hd
        rw [hcD] <;> rfl
      exact PySem.W.kia_one (PySem.W.kitx_exc hcl C.hg C.hk C.hs C.ha C.hn C.ht C.hm) I.kIn J e (fun z => nomatch z) fun tk => ⟨.bl b, H, I.kept (t' := tk) fun _ _ z => z, rfl, q⟩
/-- isinstance(x, T), x an error of one of these classes -/
def mIsX (tab : List (Str × Bool)) (a : ME) : ME := fun sw => bnd (a sw) fun x h => match xcB h x with
  | some q => match tab.lookup q.1 with
    | some b => .ok (.bl b) h
    | none => .no
  | none => .no
theorem lookup_mem {l : List (Str × Bool)} {c : Str} {b : Bool} (h : l.lookup c = some b) : (c, b) ∈ l := by
  induction l with
  | nil => cases h
  | cons q r ih =>
    obtain ⟨c', b'⟩ := q
    rw [List.lookup_cons] at h
    split at h
    · rename_i z
      cases h
      rw [beq_iff_eq.mp z]
      exact List.mem_cons_self
    · exact List.mem_cons_of_mem _ (ih h)
theorem isX_of {tv : V} {cv : Value} {tab : List (Str × Bool)} {σ : St} {H : Hp} {Q : VK} {K : PySem.W.Frag} (hcv : ∀ u, RelV tv u → u = cv) (ht : ∀ q ∈ tab, ExcC K (cm q.1) ∧ PySem.W.kitOne K (.ref (cm q.1)) cv = some q.2) (q : tE K cm (mIsX tab ma) σ H Q) :
    tE K cm ma σ H fun x H1 => rIsX K [x, tv] H1 Q := by
  obtain ⟨ρ, h, sw, w, h', rh, rs, e, k⟩ := q
  obtain ⟨x, h1, e1, e2⟩ := bnd_ok e
  refine ⟨ρ, h, sw, x, h1, rh, rs, e1, fun ρ1 H1 v l1 rh1 rx => ?_⟩
  split at e2
  · rename_i qq hq
    obtain ⟨C', f', w'⟩ := qq
    split at e2
    · rename_i b hb
      cases e2
      obtain ⟨ad, d, y, rfl, ea, ed, _⟩ := xcB_of rh1 rx hq
      obtain ⟨t1, t2⟩ := ht _ (lookup_mem hb)
      exact ⟨ad, _, d, tv, cv, b, _, rfl, t1, hcv, t2, ea, ed, k ρ1 H1 _ l1 rh1 (.bl _)⟩
    · cases e2
  · cases e2
theorem re_isX {T : Addr} {tab : List (Str × Bool)} (hm : X.mg "isinstance" = none) (hT : X.mg x = some (.ref T)) (ht : ∀ q ∈ tab, ExcC X.K (cm q.1) ∧ PySem.W.kitOne X.K (.ref (cm q.1)) (.ref T) = some q.2) (ha : RE X cm a ma)
    (hg : Gl X "isinstance" := by rfl) (hg2 : Gl X x := by rfl) (hd : (x == ("__debug__" : Str)) = false := by decide)
    (hs1 : starEach (a :: [.Name x p2]) X.env = (false, eval a X.env) :: starEach [.Name x p2] X.env := by rfl) (hs2 : starEach (.Name x p2 :: []) X.env = (false, eval (.Name x p2) X.env) :: starEach [] X.env := by rfl) (hpl : (backTo pos (starEach [.Name x p2] X.env)).any (·.1) = false := by rfl) :
    RE X cm (.Call (.Name "isinstance" p) [a, .Name x p2] [] pos) (mIsX tab ma) :=
  peM (pe_callB call_isX hg hm (by decide +kernel) (pa_cons ha (pa_cons (pe_glob (v := .ref T) hg2 hT rfl hd) pa_nil hs2) hs1) (by decide) (by decide) hs1 hpl) fun σ H Q q => isX_of (tv := .ref T) (cv := .ref T) (fun _ h => h) ht q
theorem re_isXB {T : String} {tab : List (Str × Bool)} (hm : X.mg "isinstance" = none) (hT : X.mg x = none) (ht : ∀ q ∈ tab, ExcC X.K (cm q.1) ∧ PySem.W.kitOne X.K (.ref (cm q.1)) (.type T) = some q.2) (ha : RE X cm a ma) (hv : bootBuiltins x = some (.type T) := by decide +kernel)
    (hg : Gl X "isinstance" := by rfl) (hg2 : Gl X x := by rfl) (hn : x ≠ "__name__" := by decide) (hd : (x == ("__debug__" : Str)) = false := by decide)
    (hs1 : starEach (a :: [.Name x p2]) X.env = (false, eval a X.env) :: starEach [.Name x p2] X.env := by rfl) (hs2 : starEach (.Name x p2 :: []) X.env = (false, eval (.Name x p2) X.env) :: starEach [] X.env := by rfl) (hpl : (backTo pos (starEach [.Name x p2] X.env)).any (·.1) = false := by rfl) :
    RE X cm (.Call (.Name "isinstance" p) [a, .Name x p2] [] pos) (mIsX tab ma) :=
  peM (pe_callB call_isX hg hm (by decide +kernel) (pa_cons ha (pa_cons (pe_bltn (v := .ty T) hg2 hT hv rfl hn hd) pa_nil hs2) hs1) (by decide) (by decide) hs1 hpl) fun σ H Q q => isX_of (tv := .ty T) (cv := .type T) (fun _ h => h) ht q
end
theorem isx_nil {K : PySem.W.Frag} {cm : Cm} {v : Value} : ∀ q ∈ ([] : List (Str × Bool)), ExcC K (cm q.1) ∧ PySem.W.kitOne K (.ref (cm q.1)) v = some q.2 := fun _ h => nomatch h
theorem isx_cons {K : PySem.W.Frag} {cm : Cm} {v : Value} {c : Str} {b : Bool} {l : List (Str × Bool)} (h1 : ExcC K (cm c)) (h2 : PySem.W.kitOne K (.ref (cm c)) v = some b) (h : ∀ q ∈ l, ExcC K (cm q.1) ∧ PySem.W.kitOne K (.ref (cm q.1)) v = some q.2) : ∀ q ∈ (c, b) :: l, ExcC K (cm q.1) ∧ PySem.W.kitOne K (.ref (cm q.1)) v = some q.2 := fun q hq => by
  rcases List.mem_cons.mp hq with rfl | hq
  · exact ⟨h1, h2⟩
  · exact h q hq
/-- what the written part must say for a call by keyword -/
theorem errW_mk {P : Program} {w : World} {K : PySem.W.Frag} {mg : Str → Option Value} {base : Heap} {C : Addr} {x qn n : Str} {st : Stmt} {fi : Addr} {fd : FuncData} {p1 p2 p3 p4 : Pos} {nm q N bs bm sn sub ab col dd k0 k1 k2 k3 k5} {nw : String} {tl : List Value} (fam : MadeByK nw tl)
    (ho : K.lookup C = some (excClassObj nm q C N bs bm true sn sub ab col dd k0 k1 k2 k3 k5 nw)) (ht : PySem.W.excTail tl bm = true) (hf : fieldOf x = n)
    (i1 : PySem.W.findIn K (.ref C) "__init__" = some (some (.ref fi))) (i2 : PySem.W.typeIn K (.ref fi) = some (.type "function")) (F : Fun K "__init__" qn st fi fd) (S : FnScope ["self", n] ["self", n] (defScope st)) (hb : defBody st = [.Assign [.Attribute (.Name "self" p1) n p2] (.Name n p3) p4]) (hn : n ≠ "self") (hn2 : (n == ("__debug__" : Str)) = false) (hn3 : (n == ("__classdict__" : Str)) = false)
    (v1 : Vis (defScope st) "self") (v2 : Vis (defScope st) n)
    (h : ∀ (kV doc pm : Value) (an : Option Addr) (cdv ct a u : Value), bindArgs (PySem.W.fnOf "__init__" qn (defArgs st) (defBody st) (defScope st) .none kV doc pm an cdv ct) ⟨[a], [(n, u)]⟩ = pure [(("self" : Str), a), (n, u)]) : ErrW P w K mg base C x := by
  subst hf
  exact ⟨⟨nw, tl, nm, q, N, bs, bm, sn, sub, ab, col, dd, k0, k1, k2, k3, k5, fam, ho, ht⟩, fi, fd, i1, i2, err_init F S hb hn hn2 hn3 v1 v2, fun s a u => binds_kw1 F h s a u⟩
end EL
set_option maxHeartbeats 4000000
/-! EL47: a static method without arguments; what raises in front; what no fuel is left for. -/
namespace EL
open PySem PySem.Spec L2
open PyProof.Rows hiding St

section
variable {X : Cx} {cm : Cm} {a b o : Expr} {ma mb mo : ME} {apos cpos pos : Pos}
/-- C.m, a static method -/
structure SMet (K : PySem.W.Frag) (C : Addr) (m : Str) (p g : Addr) : Prop where
  rd : PySem.W.readsIn K C (.type "type") = true
  ga : PySem.W.specialIn K (.ref C) "__getattribute__" = some (some (.builtin "type.__getattribute__"))
  at_ : PySem.W.findCls K (.ref C) (.type "type") m = some (.get (.builtin "staticmethod.__get__") (.ref p) .none (.ref C))
  rc : ∃ rest, PySem.W.recIn K p "staticmethod" = some (.ref g :: rest)
  kp : PySem.W.keepIn K (.ref g) = true
theorem pe_smeth0 {CX : CXT} {C p g : Addr} {m : Str} {k : Nat} {fd : FuncData} {ps : List Str} {sp : Sp} {E : XK} {ta : TE} {pl : Sem Bool} (he : PE X o ta) (c : SMet X.K C m p g) (F : FnOk X.prog X.w X.K X.mg X.base CX k g fd ps sp) (hb : Binds X.K fd ps []) (hr : Room k X.A) (hx : Passes CX X E)
    (ht : eval (.Call (.Attribute o m apos) [] [] pos) X.env = (do
      let ov ← eval o X.env
      standAt apos.atName
      let (f, first) ← holding [ov] (getMethod ov m pl)
      callWith pos f first (backTo pos (starEach [] X.env)) (backToKw pos (keywordEach [] X.env))) := by rfl) :
    PE X (.Call (.Attribute o m apos) [] [] pos) (fun σ H Q => ta σ H fun x H1 => x = .ref C ∧ sp [] H1 Q E) := by
  refine ⟨fun pins s σ H Q I h => ?_⟩
  refine PySem.W.methodCall_KW (pl := pl) (thn (he.run pins s σ H _ I h) fun u s1 ⟨x, H1, I1, rx, ex, q⟩ => ?_) ht
  subst ex
  obtain rfl : u = Value.ref C := rx
  obtain ⟨rest, hp⟩ := c.rc
  refine PySem.W.method_cls I1.kIn c.ga (PySem.W.cls_bind I1.kIn c.rd c.at_ (wpAny_call (PySem.W.sm_get (s := { s1 with toks := s1.toks + 1 }) I1.kIn hp (PySem.W.handed_on rfl ?_))))
  have I2 : L2.Inv X pins σ H1 { s1 with toks := s1.toks + 1 } := I1.tok _
  exact PySem.W.callWith_K0 I2.kIn c.kp (run_fn (us := []) (vs := []) (dvs := []) F hr hb .nil hx I2 .nil q)
def mSm (m : List W → M W) : ME := fun _ => m []
theorem re_smeth0 {C p g : Addr} {x m : Str} {k : Nat} {fd : FuncData} {ps : List Str} {f : List W → M W} {np : Pos} {pl : Sem Bool} (hm : X.mg x = some (.ref C)) (c : SMet X.K C m p g) (F : FnOk X.prog X.w X.K X.mg X.base CX0 k g fd ps (spM X.K cm f)) (hr : Room k X.A) (hb : Binds X.K fd ps []) (hg : Gl X x := by rfl) (hd : (x == ("__debug__" : Str)) = false := by decide)
    (ht : eval (.Call (.Attribute (.Name x np) m apos) [] [] pos) X.env = (do
      let ov ← eval (.Name x np) X.env
      standAt apos.atName
      let (f, first) ← holding [ov] (getMethod ov m pl)
      callWith pos f first (backTo pos (starEach [] X.env)) (backToKw pos (keywordEach [] X.env))) := by rfl) :
    RE X cm (.Call (.Attribute (.Name x np) m apos) [] [] pos) (mSm f) := by
  refine peM (pe_smeth0 (E := fun _ _ _ => False) (pl := pl) (pe_glob (v := .ref C) hg hm rfl hd) c F hb hr pass0 ht) fun σ H Q q => ?_
  obtain ⟨ρ, h, sw, w, h', rh, rs, e, k⟩ := q
  exact ⟨rfl, ρ, h, [], w, h', rh, .nil, e, fun ρ3 H3 v l3 => k ρ3 H3 v l3⟩
end
/-! ### a first piece that raises -/
def frX (a whole : ME) : ME := fun sw h => match a sw h with
  | .ex c v h' => .ex c v h'
  | .ok _ _ => noX whole sw h
  | .no => .no
section
variable {X : Cx} {cm : Cm} {E : XK} {o it elt tg : Expr} {mo ma me : ME} {g : MG} {apos pos : Pos} {C m : Str} {scope : Scope}
theorem t2y {K : PySem.W.Frag} {σ : St} {H : Hp} {Q : VK} (q : tE K cm ma σ H Q) : yE K cm E ma σ H Q := by
  obtain ⟨ρ, h, sw, w, h', rh, rs, e, k⟩ := q
  exact ⟨ρ, h, sw, rh, rs, by rw [e]; exact k⟩
/-- either the first piece raises, or all ends well -/
theorem fr_of {K : PySem.W.Frag} {σ : St} {H : Hp} {Q Q' : VK} {whole : ME} (q : yE K cm E (frX ma whole) σ H Q) (k : tE K cm whole σ H Q → tE K cm ma σ H Q') : yE K cm E ma σ H Q' := by
  obtain ⟨ρ, h, sw, rh, rs, o⟩ := q
  unfold frX at o
  cases e0 : ma sw h with
  | no => rw [e0] at o; exact o.elim
  | ex c v h' => rw [e0] at o; exact ⟨ρ, h, sw, rh, rs, by rw [e0]; exact o⟩
  | ok a h1 =>
    rw [e0] at o
    dsimp only at o
    unfold noX at o
    cases e1 : whole sw h with
    | no => rw [e1] at o; exact o.elim
    | ex c v h' => rw [e1] at o; exact o.elim
    | ok w h' => rw [e1] at o; exact t2y (k ⟨ρ, h, sw, w, h', rh, rs, e1, o⟩)
theorem ye_meth0R {k : Nat} {f : Addr} {fd : FuncData} {ps : List Str} {fn : List W → M W} {dws : List W} {dvs : List V} {ds : List Value} {pl : Sem Bool} (ck : Cls X.K (cm C)) (me : Meth X.K (cm C) m f) (F : FnOk X.prog X.w X.K X.mg X.base CX0 k f fd ps (spM X.K cm fn)) (hr : Room k X.A)
    (hb : Binds X.K fd ps ds) (hd : Vals dvs ds) (hdw : ∀ ρ H, Rels X.K ρ H dws dvs) (ho : YE X cm E o mo)
    (ht : eval (.Call (.Attribute o m apos) [] [] pos) X.env = (do
      let ov ← eval o X.env
      standAt apos.atName
      let (f, first) ← holding [ov] (getMethod ov m pl)
      callWith pos f first (backTo pos (starEach [] X.env)) (backToKw pos (keywordEach [] X.env))) := by rfl) : YE X cm E (.Call (.Attribute o m apos) [] [] pos) (frX mo (mMeth C m fn dws mo aNil)) := by
  refine peM (pe_meth0 (E := fun _ _ _ => False) ho ck me F hr hb hd pass0 ht) fun σ H Q q => ?_
  refine fr_of q fun q => ?_
  have q2 := meth_of (E := fun _ _ _ => False) (mr := aNil) hdw q
  obtain ⟨ρ, h, sw, w, h', rh, rs, e, k⟩ := q2
  refine ⟨ρ, h, sw, w, h', rh, rs, e, fun ρ1 H1 x l1 rh1 rx => ?_⟩
  obtain ⟨a, dx, fs, h1, h2, h3, z⟩ := k ρ1 H1 x l1 rh1 rx
  refine ⟨a, dx, fs, h1, h2, h3, ?_⟩
  obtain ⟨ρ2, h4, sw2, ws, h5, rh4, rs4, e4, k4⟩ := z
  cases e4
  exact k4 ρ2 H1 [] .refl rh4 .nil
/-- the start of a walk, in front of it the value -/
theorem any_of {K : PySem.W.Frag} {σ : St} {H : Hp} {R : It → Hp → Prop} (q : tI K cm (iAny ma) σ H R) : tE K cm ma σ H fun x H1 =>
    (∃ a, x = .ref a ∧ (∃ xs, SqL K H1 a xs) ∧ R (Itl K a) H1) ∨ (∃ a, x = .ref a ∧ (∃ xs, SqT K H1 a xs) ∧ R (Itt K a) H1) ∨ ∃ z, x = .str z ∧ R (Its z) H1 := by
  obtain ⟨ρ, h, sw, src, h', rh, rs, e, k⟩ := q
  obtain ⟨x, h1, e1, e2⟩ := bnd_ok e
  refine ⟨ρ, h, sw, x, h1, rh, rs, e1, fun ρ1 H1 v l1 rh1 rx => ?_⟩
  cases rx with
  | @ref p a hp =>
    obtain ⟨o, ho, ro⟩ := rh1.at (w := .non) hp
    simp only at e2
    rw [ho] at e2
    cases o with
    | lst xs =>
      obtain ⟨vs, ea, rx⟩ := ro
      cases e2
      exact .inl ⟨a, rfl, ⟨vs, .of ea⟩, k ρ1 H1 _ l1 rh1 ⟨a, hp, rfl⟩⟩
    | _ => cases e2
  | rol hq r =>
    cases e2
    exact .inl ⟨_, rfl, ⟨_, hq.sq⟩, k ρ1 H1 _ l1 rh1 ⟨_, _, hq, r, rfl⟩⟩
  | tup hq r =>
    cases e2
    exact .inr (.inl ⟨_, rfl, ⟨_, hq⟩, k ρ1 H1 _ l1 rh1 ⟨_, _, hq, r, rfl⟩⟩)
  | str z =>
    cases e2
    exact .inr (.inr ⟨z, rfl, k ρ1 H1 _ l1 rh1 rfl⟩)
  | _ => cases e2
theorem ye_lcR (own : List (Str × Nat)) (hc : X.calm = true) (hN : X.N.Nodup) (hi : YE X cm E it ma) {N0 : List Str} {sc0 : Scope} (ok : blkC N0 sc0 scope own = true)
    (hg : ∀ (s : Shared) (H : Hp) (C : Addr) (cl : List (Str × Addr)) (fp : List Addr), RG (X.blk s H scope (compEnvC scope cl C X.env) fp) cm (own.map (·.2)) tg g)
    (he : ∀ (s : Shared) (H : Hp) (C : Addr) (cl : List (Str × Addr)) (fp : List Addr), RE (X.blk s H scope (compEnvC scope cl C X.env) fp) cm elt me) (hs : ∀ x, foldedSetIterable it X.env x = pure x := by intro _; rfl) (eN : N0 = X.N := by rfl) (eS : sc0 = X.env.scope := by rfl) :
    YE X cm E (.ListComp elt [⟨tg, it, [], 0⟩] scope pos) (frX ma (mLc (iAny ma) g tYs me (own.map (·.2)))) :=
  peM (pe_lc (own := own) hc hN (pi_any hi) (by rw [← eN, ← eS]; exact blkOk_by ok) hg (fun _ _ _ _ _ => pts_nil) he hs) fun σ H Q q =>
    fr_of q fun q => any_of (lc_tE q (fun _ _ _ _ z => z) (fun _ _ _ z => by
      obtain ⟨ρ, h, sw, b, h', rh, rs, e, k⟩ := z
      cases e
      exact k ρ _ .refl rh) (fun _ _ _ z => z))
end
section
variable {X : Cx} {cm : Cm} {a b : Expr} {ma mb : ME} {pos : Pos}
theorem dind_of {K : PySem.W.Frag} {neg : Bool} {g : Bool → Bool} (hg : ∀ b, g b = (neg != b)) {σ : St} {H : Hp} {Q : VK} (q : tE K cm (mBin (fDin neg) ma mb) σ H Q) : tE K cm ma σ H fun y H1 => tE K cm mb σ H1 fun x H2 => ∃ a o, x = .ref a ∧ DGet H2 a y o ∧ Q (.bl (g o.isSome)) H2 := by
  obtain ⟨ρ, h, sw, w, h', rh, rs, e, k⟩ := q
  obtain ⟨y, h1, e1, e2⟩ := bnd_ok e
  obtain ⟨d, h2, e3, e4⟩ := bnd_ok e2
  refine ⟨ρ, h, sw, y, h1, rh, rs, e1, fun ρ1 H1 y' l1 rh1 ry => ?_⟩
  refine ⟨ρ1, h1, sw, d, h2, rh1, rs.mono l1, e3, fun ρ2 H2 d' l2 rh2 rd => ?_⟩
  unfold fDin at e4
  split at e4
  · rename_i kvs kk hd hk
    obtain ⟨p, ad, kv, rfl, hp, rfl, er, rk⟩ := dOf_of rh2 rd hd
    have ek := keyW_of (ry.mono l2) hk
    subst ek
    cases e4
    refine ⟨ad, _, rfl, rd_get er, ?_⟩
    have es : (valV kv kk).isSome = (valW kvs kk).isSome := by
      rcases rk.val kk with ⟨n1, n2⟩ | ⟨w', v, n1, n2, rv⟩ <;> rw [n1, n2] <;> rfl
    rw [es, hg]
    exact k ρ2 H2 (.bl (neg != (valW kvs kk).isSome)) (l1.trans l2) rh2 (.bl _)
  · cases e4
theorem re_dnotin (hu : X.A.units + 1 < cLine) (ha : RE X cm a ma) (hb : RE X cm b mb) (hm : behindInMarks .NotIn b = false := by first | exact nobehind _ (by decide) (by decide) | rfl) : RE X cm (.Compare a [.NotIn] [b] pos) (mBin (fDin true) ma mb) :=
  peM (pe_cmp (pc_dnotin hu ha hb) hm) fun σ H Q q => dind_of (neg := true) (g := fun b => !b) (fun b => by cases b <;> rfl) q
theorem rt_dnotin (hu : X.A.units + 1 < cLine) (ha : RE X cm a ma) (hb : RE X cm b mb) (hm : behindInMarks .NotIn b = false := by first | exact nobehind _ (by decide) (by decide) | rfl) : RT X cm (.Compare a [.NotIn] [b] pos) (tVal (mBin (fDin true) ma mb)) :=
  ptM (pt_cmp (pc_dnotin hu ha hb) hm) fun σ H Q q => test_of (fun Q' q => dind_of (neg := true) (g := fun b => !b) (fun b => by cases b <;> rfl) q) q
theorem rt_din (hu : X.A.units + 1 < cLine) (ha : RE X cm a ma) (hb : RE X cm b mb) (hm : behindInMarks .In b = false := by first | exact nobehind _ (by decide) (by decide) | rfl) : RT X cm (.Compare a [.In] [b] pos) (tVal (mBin (fDin false) ma mb)) :=
  ptM (pt_cmp (pc_din hu ha hb) hm) fun σ H Q q => test_of (fun Q' q => dind_of (neg := false) (g := fun b => b) (fun b => by cases b <;> rfl) q) q
end
/-! ### a text in a tuple of texts -/
def fInT (neg : Bool) : W → W → M W
  | .str x, .tup us => fun h => match wStrs us with
    | some ys => .ok (.bl (neg != decide (x ∈ ys))) h
    | none => .no
  | _, _ => bad
theorem inV_str {x : Str} : ∀ ys : List Str, inV (.str x) (ys.map V.str) = decide (x ∈ ys)
  | [] => rfl
  | y :: r => by
    have ih := inV_str (x := x) r
    unfold inV at ih ⊢
    rw [List.map_cons, List.any_cons, ih]
    have e : eqV (.str y) (.str x) = decide (x = y) := by
      by_cases h : x = y
      · subst h; simp [eqV]
      · have h' : ¬ y = x := fun z => h z.symm
        simp [eqV, h, h']
    rw [e]
    simp [List.mem_cons]
theorem wInT {X : Cx} {cm : Cm} {neg : Bool} : OpW X.K cm (rIn X.K neg) (fInT neg) := by
  intro ρ h H x y x' y' z h' Q rh rx ry e k
  cases x with
  | str a =>
    cases y with
    | tup us =>
      cases rx
      cases ry with
      | @tup _ vs p hq rv =>
        have e' : (match wStrs us with
          | some ys => EL.R.ok (W.bl (neg != decide (a ∈ ys))) h
          | none => .no) = .ok z h' := e
        cases ey : wStrs us with
        | none => rw [ey] at e'; cases e'
        | some ys =>
          rw [ey] at e'
          cases e'
          have eu := wStrs_of ey
          subst eu
          have ev := rv.of_strs
          subst ev
          refine ⟨p, _, rfl, .inr hq, rfl, flat_strs ys, ?_⟩
          rw [inV_str]
          have q := k ρ H (.bl (neg != decide (a ∈ ys))) .refl rh (.bl _)
          cases neg
          · simpa using q
          · simpa using q
    | _ => cases e
  | _ => cases e
theorem ok_inT {neg : Bool} {x : Str} {ys : List Str} {h : Hw} {P : W → Hw → Prop} (p : P (.bl (neg != decide (x ∈ ys))) h) : Ok (fInT neg (.str x) (.tup (ys.map W.str))) h P := by
  refine ⟨_, h, ?_, p⟩
  show (match wStrs (ys.map W.str) with
    | some ys => EL.R.ok (W.bl (neg != decide (x ∈ ys))) h
    | none => .no) = _
  rw [wStrs_map]
/-- no fuel is left -/
theorem fnok_bad {P : Program} {w : World} {K : PySem.W.Frag} {mg : Str → Option Value} {base : Heap} {cm : Cm} {CX : CXT} {k : Nat} {f : Addr} {fd : FuncData} {ps : List Str} : FnOk P w K mg base CX k f fd ps (spM K cm fun _ => bad) :=
  ⟨fun _ _ _ _ q => (by obtain ⟨_, _, _, _, _, _, _, e, _⟩ := q; cases e), fun _ _ _ _ _ _ _ _ _ _ _ _ _ q => (by obtain ⟨_, _, _, _, _, _, _, e, _⟩ := q; cases e)⟩
end EL
namespace ThisLaw
open PySem PySem.Spec L2 EL
open PyProof.Rows hiding St
section
def topS (i : Nat) : Stmt := PySem.Challenge.pw_standinparts_k07_whole_lists_within_list.main.body.getD i (.Pass ⟨0, 0, 0, 0⟩)
end
theorem Names_of {X : Cx} {x : Str} {c : Value} (hm : X.mg x = some c) (hg : Gl X x := by rfl) (hd : (x == ("__debug__" : Str)) = false := by decide) : Names X x c := ⟨hg, hd, .inl hm⟩
abbrev s__law_pool : Stmt := topS 26
theorem sc__law_pool : FnScope ["_law_script", "_law_k", "_law_cell", "_law_size", "_law_mixed"] ["_law_script", "_law_k"] (defScope s__law_pool) := ⟨rfl, rfl, rfl, by decide +kernel, rfl, by decide +kernel, by decide +kernel⟩
def m__law_pool : List W → M W := mFn 2 5 (sSeq (sAsg (gNm 2) (mIf (tVal (mBin fLt (mVar 1) (mCall bLen (aCons (mVar 0) aNil)))) (mBin fIx (mVar 0) (mVar 1)) (mBin fAdd (mBin fMul (mC (.int 7)) (mCall bSum (aCons (mSl (mVar 0) oNo (oSo (mC (.int 63)))) aNil))) (mVar 1))))
    (sSeq (sAsg (gNm 3) (mCall bAbs (aCons (mVar 2) aNil)))
    (sSeq (sAsg (gNm 4) (mBin fAdd (mBin fAdd (mBin fAdd (mBin fMod (mCall bInt (aCons (mVar 3) aNil)) (mC (.int 2147483629))) (mBin fMul (mBin fMul (mC (.int 7919)) (mVar 1)) (mVar 1))) (mBin fMul (mC (.int 31)) (mVar 1))) (mC (.int 17))))
    (sSeq (sAsg (gNm 4) (mBin fMod (mCall bInt (aCons (mBin fMul (mVar 4) (mC (.int 48271))) aNil)) (mC (.int 2147483647))))
    (sRet (mLst (aCons (mBin fMul (mVar 3) (mCall bInt (aCons (mBin fGe (mVar 3) (mBin fPow (mC (.int 10)) (mC (.int 18)))) aNil))) (aCons (mBin fMod (mCall bInt (aCons (mBin fMul (mVar 4) (mVar 4)) aNil)) (mC (.int 2147483629))) aNil))))))))
theorem ok__law_pool {P : Program} {w : World} {K : PySem.W.Frag} {mg : Str → Option Value} {base : Heap} {cm : Cm} {f : Addr} {fd : FuncData} (F : Fun K "_law_pool" "_law_pool" s__law_pool f fd) (z_len : mg "len" = none) (z_sum : mg "sum" = none) (z_abs : mg "abs" = none) (z_int : mg "int" = none) :
    FnOk P w K mg base CX0 1 f fd ["_law_script", "_law_k"] (spM K cm m__law_pool) :=
  efn F sc__law_pool fun cdv A outer s H E hr => (rss_cons (rs_asg (vs := [2]) (re_if (rt_cmp oLt wCmp (re_var 1) (re_callB oLen wLen z_len (ra_cons (re_var 0) ra_nil))) (re_ix (re_var 0) (re_var 1)) (re_op oAdd wAdd (re_op oMul wMul (re_int) (re_callB (cr_sum rfl) wSum z_sum (ra_cons (re_sl (re_var 0) ro_no (ro_so (re_int))) ra_nil))) (re_var 1))) (rg_name 2 sc__law_pool.nd))
    (rss_cons (rs_asg (vs := [3]) (re_callB call_abs wAbs z_abs (ra_cons (re_var 2) ra_nil)) (rg_name 3 sc__law_pool.nd))
    (rss_cons (rs_asg (vs := [4]) (re_op oAdd wAdd (re_op oAdd wAdd (re_op oAdd wAdd (re_op op_mod wMod (re_callTy call_int1 wInt1 z_int (ra_cons (re_var 3) ra_nil)) (re_int)) (re_op oMul wMul (re_op oMul wMul (re_int) (re_var 1)) (re_var 1))) (re_op oMul wMul (re_int) (re_var 1))) (re_int)) (rg_name 4 sc__law_pool.nd))
    (rss_cons (rs_asg (vs := [4]) (re_op op_mod wMod (re_callTy call_int1 wInt1 z_int (ra_cons (re_op oMul wMul (re_var 4) (re_int)) ra_nil)) (re_int)) (rg_name 4 sc__law_pool.nd))
    (rss_one (rs_ret (re_lst (ra_cons (re_op oMul wMul (re_var 3) (re_callTy call_int1 wInt1 z_int (ra_cons (re_cmp oGe wCmp (re_var 3) (re_op op_pow wPow (re_int) (re_int))) ra_nil))) (ra_cons (re_op op_mod wMod (re_callTy call_int1 wInt1 z_int (ra_cons (re_op oMul wMul (re_var 4) (re_var 4)) ra_nil)) (re_int)) ra_nil)))))))))
abbrev s__law_draw : Stmt := topS 27
theorem sc__law_draw : FnScope ["_law_pool_here", "_law_many", "_law_found"] ["_law_pool_here", "_law_many"] (defScope s__law_draw) := ⟨rfl, rfl, rfl, by decide +kernel, rfl, by decide +kernel, by decide +kernel⟩
def m__law_draw : List W → M W := mFn 2 3 (sSeq (sIf (tVal (mBin fGt (mBin fIx (mVar 0) (mC (.int 0))) (mC (.int 0)))) (sSeq (sAsg (gNm 2) (mBin fMod (mCall bInt (aCons (mBin fIx (mVar 0) (mC (.int 0))) aNil)) (mVar 1)))
    (sSeq (sAsg (gSubL (mVar 0) (mC (.int 0))) (mBin fDiv (mBin fIx (mVar 0) (mC (.int 0))) (mVar 1)))
    (sRet (mVar 2)))) sNil)
    (sSeq (sAsg (gSubL (mVar 0) (mC (.int 1))) (mBin fMod (mCall bInt (aCons (mBin fAdd (mBin fMul (mBin fIx (mVar 0) (mC (.int 1))) (mC (.int 48271))) (mC (.int 11))) aNil)) (mC (.int 2147483647))))
    (sRet (mBin fMod (mCall bInt (aCons (mBin fDiv (mBin fMod (mCall bInt (aCons (mBin fMul (mBin fIx (mVar 0) (mC (.int 1))) (mBin fIx (mVar 0) (mC (.int 1)))) aNil)) (mC (.int 2147483629))) (mC (.int 16))) aNil)) (mVar 1)))))
theorem ok__law_draw {P : Program} {w : World} {K : PySem.W.Frag} {mg : Str → Option Value} {base : Heap} {cm : Cm} {f : Addr} {fd : FuncData} (F : Fun K "_law_draw" "_law_draw" s__law_draw f fd) (z_int : mg "int" = none) :
    FnOk P w K mg base CX0 1 f fd ["_law_pool_here", "_law_many"] (spM K cm m__law_draw) :=
  efn F sc__law_draw fun cdv A outer s H E hr => (rss_cons (rs_if (rt_cmp oGt wCmp (re_ix (re_var 0) (re_int)) (re_int)) (rss_cons (rs_asg (vs := [2]) (re_op op_mod wMod (re_callTy call_int1 wInt1 z_int (ra_cons (re_ix (re_var 0) (re_int)) ra_nil)) (re_var 1)) (rg_name 2 sc__law_draw.nd))
    (rss_cons (rs_asg (vs := []) (re_op op_fdivW wDiv (re_ix (re_var 0) (re_int)) (re_var 1)) (rg_sub (re_var 0) (re_int)))
    (rss_one (rs_ret (re_var 2))))) rss_nil)
    (rss_cons (rs_asg (vs := []) (re_op op_mod wMod (re_callTy call_int1 wInt1 z_int (ra_cons (re_op oAdd wAdd (re_op oMul wMul (re_ix (re_var 0) (re_int)) (re_int)) (re_int)) ra_nil)) (re_int)) (rg_sub (re_var 0) (re_int)))
    (rss_one (rs_ret (re_op op_mod wMod (re_callTy call_int1 wInt1 z_int (ra_cons (re_op op_fdivW wDiv (re_op op_mod wMod (re_callTy call_int1 wInt1 z_int (ra_cons (re_op oMul wMul (re_ix (re_var 0) (re_int)) (re_ix (re_var 0) (re_int))) ra_nil)) (re_int)) (re_int)) ra_nil)) (re_var 1))))))
abbrev s__law_pick : Stmt := topS 28
theorem sc__law_pick : FnScope ["_law_pool_here", "_law_row"] ["_law_pool_here", "_law_row"] (defScope s__law_pick) := ⟨rfl, rfl, rfl, by decide +kernel, rfl, by decide +kernel, by decide +kernel⟩
def m__law_pick : List W → M W := mFn 2 2 (sRet (mBin fIx (mVar 1) (mCall m__law_draw (aCons (mVar 0) (aCons (mCall bLen (aCons (mVar 1) aNil)) aNil)))))
theorem ok__law_pick {P : Program} {w : World} {K : PySem.W.Frag} {mg : Str → Option Value} {base : Heap} {cm : Cm} {f : Addr} {fd : FuncData} (F : Fun K "_law_pick" "_law_pick" s__law_pick f fd) (z_len : mg "len" = none) {f__law_draw : Addr} {fd__law_draw : FuncData} (G__law_draw : FnOk P w K mg base CX0 1 f__law_draw fd__law_draw ["_law_pool_here", "_law_many"] (spM K cm m__law_draw)) (g__law_draw : mg "_law_draw" = some (.ref f__law_draw)) (k__law_draw : PySem.W.keepIn K (.ref f__law_draw) = true) (b__law_draw : Binds K fd__law_draw ["_law_pool_here", "_law_many"] []) :
    FnOk P w K mg base CX0 2 f fd ["_law_pool_here", "_law_row"] (spM K cm m__law_pick) :=
  efn F sc__law_pick fun cdv A outer s H E hr => (rss_one (rs_ret (re_ix (re_var 1) (re_call G__law_draw (hr.mono (by decide)) g__law_draw k__law_draw b__law_draw (ra_cons (re_var 0) (ra_cons (re_callB oLen wLen z_len (ra_cons (re_var 1) ra_nil)) ra_nil))))))
abbrev s_is_word : Stmt := topS 13
theorem sc_is_word : FnScope ["value", "letter"] ["value"] (defScope s_is_word) := ⟨rfl, rfl, rfl, by decide +kernel, rfl, by decide +kernel, by decide +kernel⟩
def m_is_word : List W → M W := mFn 1 2 (sSeq (sIf ((tOr (tNot (tTru (mIsi "str" (mVar 0)))) (tNot (tVal (mCh fLe fLe (mC (.int 1)) (mCall bLen (aCons (mVar 0) aNil)) (mC (.int 8))))))) (sRet (mC (.bl false))) sNil)
    (sRet (mCall bAll (aCons (mLc (iAny (mVar 0)) (gNm 1) tYs (mBin (fIn false) (mVar 1) (mC (.str "abcdefghijklmnopqrstuvwxyz"))) [1]) aNil))))
theorem ok_is_word {P : Program} {w : World} {K : PySem.W.Frag} {mg : Str → Option Value} {base : Heap} {cm : Cm} {f : Addr} {fd : FuncData} (F : Fun K "is_word" "is_word" s_is_word f fd) (z_len : mg "len" = none) (z_isinstance : mg "isinstance" = none) (z_str : mg "str" = none) (z_all : mg "all" = none) {t_LONGEST_WORD : Tok} (c_LONGEST_WORD : mg "LONGEST_WORD" = some (.int 8 t_LONGEST_WORD)) {t_LETTERS : Tok} (c_LETTERS : mg "LETTERS" = some (.str "abcdefghijklmnopqrstuvwxyz" t_LETTERS)) :
    FnOk P w K mg base CX0 1 f fd ["value"] (spM K cm m_is_word) :=
  efn F sc_is_word fun cdv A outer s H E hr => (rss_cons (rs_if (rw_t (rt_or (rt_not (rt_tru (re_isi (T := "str") z_isinstance z_str (re_var 0)))) (rt_or1 (rt_not (rt_ch oLe wCmp oLe wCmp (re_int) (re_callB oLen wLen z_len (ra_cons (re_var 0) ra_nil)) (re_gint c_LONGEST_WORD)))))) (rss_one (rs_ret (re_bl))) rss_nil)
    (rss_one (rs_ret (re_callB (cr_all rfl) wAll z_all (ra_cons (re_lc [("letter", 1)] rfl sc_is_word.nd (ri_any (re_var 0)) (N0 := ["value", "letter"]) (sc0 := defScope s_is_word) (by decide +kernel) (fun _ _ _ _ _ => (rg_name 1 sc_is_word.nd)) (fun _ _ _ _ _ => (re_cmp (oIn (hu65 hr)) wIn (re_var 1) (re_gstr c_LETTERS)))) ra_nil)))))
abbrev s_Catalog___init__ : Stmt := inCls (topS 24) 0
theorem sc_Catalog___init__ : FnScope ["self", "lists", "word", "parts_list"] ["self", "lists"] (defScope s_Catalog___init__) := ⟨rfl, rfl, rfl, by decide +kernel, rfl, by decide +kernel, by decide +kernel⟩
def m_Catalog___init__ : List W → M W := mFn 2 4 (sSeq (sIf (tNot (tTru (mIsi "dict" (mVar 1)))) (fun _ => bad) sNil)
    (sSeq (lockS (selM (mVar 1)) (sForI (iDit (mVar 1)) (gTu 2 (gsCons (gNm 2) (gsCons (gNm 3) gsNil))) (sSeq (sIf (tNot (tTru (mCall m_is_word (aCons (mVar 2) aNil)))) (fun _ => bad) sNil)
    (sIf (tNot (tTru (mIsiC [("PartsList", true)] allTys (mVar 3)))) (fun _ => bad) sNil))))
    (sSeq (sIf (tVal (mBin fGt (mCall bLenD (aCons (mVar 1) aNil)) (mC (.int 40)))) (fun _ => bad) sNil)
    (sFldS "Catalog" "_lists" (mVar 0) (lockE (selM (mVar 1)) (mDc (iDky (mVar 1)) (gNm 2) tYs (mVar 2) (mBin fDget (mVar 1) (mVar 2)) [2]))))))
theorem ok_Catalog___init__ {P : Program} {w : World} {K : PySem.W.Frag} {mg : Str → Option Value} {base : Heap} {cm : Cm} {f : Addr} {fd : FuncData} (F : Fun K "__init__" "Catalog.__init__" s_Catalog___init__ f fd) (z_isinstance : mg "isinstance" = none) (z_dict : mg "dict" = none) (z_len : mg "len" = none) {t_MOST_LISTS : Tok} (c_MOST_LISTS : mg "MOST_LISTS" = some (.int 40 t_MOST_LISTS)) (k_Catalog : ClsK K mg "Catalog" (cm "Catalog")) (k_PartsList : ClsK K mg "PartsList" (cm "PartsList")) (a_Catalog__lists : NoAttr K (cm "Catalog") "_lists") {f_is_word : Addr} {fd_is_word : FuncData} (G_is_word : FnOk P w K mg base CX0 1 f_is_word fd_is_word ["value"] (spM K cm m_is_word)) (g_is_word : mg "is_word" = some (.ref f_is_word)) (k_is_word : PySem.W.keepIn K (.ref f_is_word) = true) (b_is_word : Binds K fd_is_word ["value"] []) :
    FnOk P w K mg base CX0 2 f fd ["self", "lists"] (spM K cm m_Catalog___init__) :=
  efn F sc_Catalog___init__ fun cdv A outer s H E hr => (rss_cons (rs_if (rt_not (rt_tru (re_isi (T := "dict") z_isinstance z_dict (re_var 1)))) (rss_one (rs_bad)) rss_nil)
    (rss_cons (rs_lock (sel := selM (mVar 1)) (rs_for (vs := [2, 3]) PassesOwn.never rfl (ri_items (re_var 1)) (rg_tup rfl (rgs_cons (rg_name 2 sc_Catalog___init__.nd) (rgs_cons (rg_name 3 sc_Catalog___init__.nd) rgs_nil))) (rss_cons (rs_if (rt_not (rt_tru (re_call G_is_word (hr.mono (by decide)) g_is_word k_is_word b_is_word (ra_cons (re_var 2) ra_nil)))) (rss_one (rs_bad)) rss_nil)
    (rss_one (rs_if (rt_not (rt_tru (re_isiC (C := "PartsList") z_isinstance k_PartsList.gl (isi_tab k_PartsList) k_PartsList.tys (re_var 3)))) (rss_one (rs_bad)) rss_nil)))))
    (rss_cons (rs_if (rt_cmp oGt wCmp (re_callB call_lenD wLenD z_len (ra_cons (re_var 1) ra_nil)) (re_gint c_MOST_LISTS)) (rss_one (rs_bad)) rss_nil)
    (rss_one (rs_fld (C := "Catalog") k_Catalog.cl a_Catalog__lists (re_var 0) (re_lock (sel := selM (mVar 1)) (re_dc [("word", 2)] rfl sc_Catalog___init__.nd (ri_keys (re_var 1)) (N0 := ["self", "lists", "word", "parts_list"]) (sc0 := defScope s_Catalog___init__) (by decide +kernel) (fun _ _ _ _ _ => (rg_name 2 sc_Catalog___init__.nd)) (fun _ _ _ _ _ => (re_var 2)) (fun _ _ _ _ _ => (re_dsub (hu_of hr) (re_var 1) (re_var 2))))))))))
abbrev s_is_integer : Stmt := topS 12
theorem sc_is_integer : FnScope ["value", "lowest", "highest"] ["value", "lowest", "highest"] (defScope s_is_integer) := ⟨rfl, rfl, rfl, by decide +kernel, rfl, by decide +kernel, by decide +kernel⟩
def m_is_integer : List W → M W := mFn 3 3 (sRet ((mAnd (mIsi "int" (mVar 0)) (mAnd (mNot (mIsi "bool" (mVar 0))) (mCh fLe fLe (mVar 1) (mVar 0) (mVar 2))))))
theorem ok_is_integer {P : Program} {w : World} {K : PySem.W.Frag} {mg : Str → Option Value} {base : Heap} {cm : Cm} {f : Addr} {fd : FuncData} (F : Fun K "is_integer" "is_integer" s_is_integer f fd) (z_isinstance : mg "isinstance" = none) (z_bool : mg "bool" = none) (z_int : mg "int" = none) :
    FnOk P w K mg base CX0 1 f fd ["value", "lowest", "highest"] (spM K cm m_is_integer) :=
  efn F sc_is_integer fun cdv A outer s H E hr => (rss_one (rs_ret ((re_and (re_isi (T := "int") z_isinstance z_int (re_var 0)) (re_and (re_not (re_isi (T := "bool") z_isinstance z_bool (re_var 0))) (re_one (re_ch oLe wCmp oLe wCmp (re_var 1) (re_var 0) (re_var 2))))))))
abbrev s_is_place : Stmt := topS 18
theorem sc_is_place : FnScope ["value", "word", "plain", "number", "share"] ["value"] (defScope s_is_place) := ⟨rfl, rfl, rfl, by decide +kernel, rfl, by decide +kernel, by decide +kernel⟩
def m_is_place : List W → M W := mFn 1 5 (sSeq (sIf ((tOr (tNot (tTru (mIsi "tuple" (mVar 0)))) (tVal (mBin (fEq true) (mCall bLen (aCons (mVar 0) aNil)) (mC (.int 4)))))) (sRet (mC (.bl false))) sNil)
    (sSeq (sAsg (gTu 4 (gsCons (gNm 1) (gsCons (gNm 2) (gsCons (gNm 3) (gsCons (gNm 4) gsNil))))) (mVar 0))
    (sSeq (sIf ((tOr (tNot (tTru (mCall m_is_word (aCons (mVar 1) aNil)))) (tOr (tNot (tTru (mCall m_is_word (aCons (mVar 2) aNil)))) (tNot (tTru (mCall m_is_integer (aCons (mVar 3) (aCons (mC (.int 1)) (aCons (mC (.int 999)) aNil))))))))) (sRet (mC (.bl false))) sNil)
    (sRet ((mOr (mBin (fIs false) (mVar 4) (mC .non)) (mCall m_is_integer (aCons (mVar 4) (aCons (mC (.int 0)) (aCons (mVar 3) aNil))))))))))
theorem ok_is_place {P : Program} {w : World} {K : PySem.W.Frag} {mg : Str → Option Value} {base : Heap} {cm : Cm} {f : Addr} {fd : FuncData} (F : Fun K "is_place" "is_place" s_is_place f fd) (z_len : mg "len" = none) (z_isinstance : mg "isinstance" = none) (z_tuple : mg "tuple" = none) {t_MOST_UNITS : Tok} (c_MOST_UNITS : mg "MOST_UNITS" = some (.int 999 t_MOST_UNITS)) {f_is_integer : Addr} {fd_is_integer : FuncData} (G_is_integer : FnOk P w K mg base CX0 1 f_is_integer fd_is_integer ["value", "lowest", "highest"] (spM K cm m_is_integer)) (g_is_integer : mg "is_integer" = some (.ref f_is_integer)) (k_is_integer : PySem.W.keepIn K (.ref f_is_integer) = true) (b_is_integer : Binds K fd_is_integer ["value", "lowest", "highest"] []) {f_is_word : Addr} {fd_is_word : FuncData} (G_is_word : FnOk P w K mg base CX0 1 f_is_word fd_is_word ["value"] (spM K cm m_is_word)) (g_is_word : mg "is_word" = some (.ref f_is_word)) (k_is_word : PySem.W.keepIn K (.ref f_is_word) = true) (b_is_word : Binds K fd_is_word ["value"] []) :
    FnOk P w K mg base CX0 2 f fd ["value"] (spM K cm m_is_place) :=
  efn F sc_is_place fun cdv A outer s H E hr => (rss_cons (rs_if (rw_t (rt_or (rt_not (rt_tru (re_isi (T := "tuple") z_isinstance z_tuple (re_var 0)))) (rt_or1 (rt_cmp (op_neD hr.units) wNe (re_callB oLen wLen z_len (ra_cons (re_var 0) ra_nil)) (re_int))))) (rss_one (rs_ret (re_bl))) rss_nil)
    (rss_cons (rs_asg (vs := [1, 2, 3, 4]) (re_var 0) (rg_tup rfl (rgs_cons (rg_name 1 sc_is_place.nd) (rgs_cons (rg_name 2 sc_is_place.nd) (rgs_cons (rg_name 3 sc_is_place.nd) (rgs_cons (rg_name 4 sc_is_place.nd) rgs_nil))))))
    (rss_cons (rs_if (rw_t (rt_or (rt_not (rt_tru (re_call G_is_word (hr.mono (by decide)) g_is_word k_is_word b_is_word (ra_cons (re_var 1) ra_nil)))) (rt_or (rt_not (rt_tru (re_call G_is_word (hr.mono (by decide)) g_is_word k_is_word b_is_word (ra_cons (re_var 2) ra_nil)))) (rt_or1 (rt_not (rt_tru (re_call G_is_integer (hr.mono (by decide)) g_is_integer k_is_integer b_is_integer (ra_cons (re_var 3) (ra_cons (re_int) (ra_cons (re_gint c_MOST_UNITS) ra_nil)))))))))) (rss_one (rs_ret (re_bl))) rss_nil)
    (rss_one (rs_ret ((re_or (re_cmp oIs wIs (re_var 4) (re_non)) (re_one (re_call G_is_integer (hr.mono (by decide)) g_is_integer k_is_integer b_is_integer (ra_cons (re_var 4) (ra_cons (re_int) (ra_cons (re_var 3) ra_nil))))))))))))
abbrev s_check_places : Stmt := topS 19
theorem sc_check_places : FnScope ["places", "words", "index", "place"] ["places"] (defScope s_check_places) := ⟨rfl, rfl, rfl, by decide +kernel, rfl, by decide +kernel, by decide +kernel⟩
def m_check_places : List W → M W := mFn 1 4 (sSeq (sIf ((tOr (tNot (tTru (mIsi2 "list" "tuple" (mVar 0)))) (tVal (mBin (fEq false) (mCall bLen (aCons (mVar 0) aNil)) (mC (.int 0)))))) (fun _ => bad) sNil)
    (sSeq (sAsg (gNm 1) (bSet0))
    (sSeq (sForI (iEnu (mVar 0)) (gTu 2 (gsCons (gNm 2) (gsCons (gNm 3) gsNil))) (sSeq (sIf ((tOr (tNot (tTru (mCall m_is_place (aCons (mVar 3) aNil)))) (tVal (mBin (fInS false) (mBin fIx (mVar 3) (mC (.int 0))) (mVar 1))))) (fun _ => bad) sNil)
    (sExp (mSAdd (mVar 1) (mBin fIx (mVar 3) (mC (.int 0)))))))
    (sIf (tVal (mBin fGt (mCall bLen (aCons (mVar 0) aNil)) (mC (.int 12)))) (fun _ => bad) sNil))))
theorem ok_check_places {P : Program} {w : World} {K : PySem.W.Frag} {mg : Str → Option Value} {base : Heap} {cm : Cm} {f : Addr} {fd : FuncData} (F : Fun K "check_places" "check_places" s_check_places f fd) (z_len : mg "len" = none) (z_isinstance : mg "isinstance" = none) (z_list : mg "list" = none) (z_tuple : mg "tuple" = none) (z_set : mg "set" = none) (z_enumerate : mg "enumerate" = none) {t_MOST_PLACES : Tok} (c_MOST_PLACES : mg "MOST_PLACES" = some (.int 12 t_MOST_PLACES)) {f_is_place : Addr} {fd_is_place : FuncData} (G_is_place : FnOk P w K mg base CX0 2 f_is_place fd_is_place ["value"] (spM K cm m_is_place)) (g_is_place : mg "is_place" = some (.ref f_is_place)) (k_is_place : PySem.W.keepIn K (.ref f_is_place) = true) (b_is_place : Binds K fd_is_place ["value"] []) (eP : cm.P = P) (eW : cm.w = w) :
    FnOk P w K mg base CX0 3 f fd ["places"] (spM K cm m_check_places) :=
  efn F sc_check_places fun cdv A outer s H E hr => (rss_cons (rs_if (rw_t (rt_or (rt_not (rt_tru (re_isi2 (S := "list") (T := "tuple") z_isinstance z_list z_tuple (re_var 0)))) (rt_or1 (rt_cmp (op_eqD hr.units) wEq (re_callB oLen wLen z_len (ra_cons (re_var 0) ra_nil)) (re_int))))) (rss_one (rs_bad)) rss_nil)
    (rss_cons (rs_asg (vs := [1]) (re_set0 eP eW z_set) (rg_name 1 sc_check_places.nd))
    (rss_cons (rs_for (vs := [2, 3]) PassesOwn.never rfl (ri_enum z_enumerate (re_var 0)) (rg_tup rfl (rgs_cons (rg_name 2 sc_check_places.nd) (rgs_cons (rg_name 3 sc_check_places.nd) rgs_nil))) (rss_cons (rs_if (rw_t (rt_or (rt_not (rt_tru (re_call G_is_place (hr.mono (by decide)) g_is_place k_is_place b_is_place (ra_cons (re_var 3) ra_nil)))) (rt_or1 (rt_cmp or_sinK (wInS eP eW false) (re_ix (re_var 3) (re_int)) (re_var 1))))) (rss_one (rs_bad)) rss_nil)
    (rss_one (rs_expr (re_sadd eP eW (re_var 1) (re_ix (re_var 3) (re_int)))))))
    (rss_one (rs_if (rt_cmp oGt wCmp (re_callB oLen wLen z_len (ra_cons (re_var 0) ra_nil)) (re_gint c_MOST_PLACES)) (rss_one (rs_bad)) rss_nil)))))
abbrev s_PartsList___init__ : Stmt := inCls (topS 21) 0
theorem sc_PartsList___init__ : FnScope ["self", "places", "word", "plain", "number", "share"] ["self", "places"] (defScope s_PartsList___init__) := ⟨rfl, rfl, rfl, by decide +kernel, rfl, by decide +kernel, by decide +kernel⟩
def m_PartsList___init__ : List W → M W := mFn 2 6 (sSeq (sExp (mCall m_check_places (aCons (mVar 1) aNil)))
    (sFldS "PartsList" "_places" (mVar 0) (mCall bTup1 (aCons (mLc (iAny (mVar 1)) (gTu 4 (gsCons (gNm 2) (gsCons (gNm 3) (gsCons (gNm 4) (gsCons (gNm 5) gsNil))))) tYs (mTup (aCons (mVar 2) (aCons (mVar 3) (aCons (mVar 4) (aCons (mVar 5) aNil))))) [2, 3, 4, 5]) aNil))))
theorem ok_PartsList___init__ {P : Program} {w : World} {K : PySem.W.Frag} {mg : Str → Option Value} {base : Heap} {cm : Cm} {f : Addr} {fd : FuncData} (F : Fun K "__init__" "PartsList.__init__" s_PartsList___init__ f fd) (z_tuple : mg "tuple" = none) (k_PartsList : ClsK K mg "PartsList" (cm "PartsList")) (a_PartsList__places : NoAttr K (cm "PartsList") "_places") {f_check_places : Addr} {fd_check_places : FuncData} (G_check_places : FnOk P w K mg base CX0 3 f_check_places fd_check_places ["places"] (spM K cm m_check_places)) (g_check_places : mg "check_places" = some (.ref f_check_places)) (k_check_places : PySem.W.keepIn K (.ref f_check_places) = true) (b_check_places : Binds K fd_check_places ["places"] []) :
    FnOk P w K mg base CX0 4 f fd ["self", "places"] (spM K cm m_PartsList___init__) :=
  efn F sc_PartsList___init__ fun cdv A outer s H E hr => (rss_cons (rs_expr (re_call G_check_places (hr.mono (by decide)) g_check_places k_check_places b_check_places (ra_cons (re_var 1) ra_nil)))
    (rss_one (rs_fld (C := "PartsList") k_PartsList.cl a_PartsList__places (re_var 0) (re_callTy call_tuple_of wTup1 z_tuple (ra_cons (re_lc [("word", 2), ("plain", 3), ("number", 4), ("share", 5)] rfl sc_PartsList___init__.nd (ri_any (re_var 1)) (N0 := ["self", "places", "word", "plain", "number", "share"]) (sc0 := defScope s_PartsList___init__) (by decide +kernel) (fun _ _ _ _ _ => (rg_tup rfl (rgs_cons (rg_name 2 sc_PartsList___init__.nd) (rgs_cons (rg_name 3 sc_PartsList___init__.nd) (rgs_cons (rg_name 4 sc_PartsList___init__.nd) (rgs_cons (rg_name 5 sc_PartsList___init__.nd) rgs_nil)))))) (fun _ _ _ _ _ => (re_tup (ra_cons (re_var 2) (ra_cons (re_var 3) (ra_cons (re_var 4) (ra_cons (re_var 5) ra_nil))))))) ra_nil)))))
abbrev s_Catalog___contains__ : Stmt := inCls (topS 24) 3
theorem sc_Catalog___contains__ : FnScope ["self", "x"] ["self", "x"] (defScope s_Catalog___contains__) := ⟨rfl, rfl, rfl, by decide +kernel, rfl, by decide +kernel, by decide +kernel⟩
def m_Catalog___contains__ : List W → M W := mFn 2 2 (sRet ((mAnd (mCall m_is_word (aCons (mVar 1) aNil)) (mBin (fDin false) (mVar 1) (mFld "Catalog" "_lists" (mVar 0))))))
theorem ok_Catalog___contains__ {P : Program} {w : World} {K : PySem.W.Frag} {mg : Str → Option Value} {base : Heap} {cm : Cm} {f : Addr} {fd : FuncData} (F : Fun K "__contains__" "Catalog.__contains__" s_Catalog___contains__ f fd) (k_Catalog : ClsK K mg "Catalog" (cm "Catalog")) (a_Catalog__lists : NoAttr K (cm "Catalog") "_lists") {f_is_word : Addr} {fd_is_word : FuncData} (G_is_word : FnOk P w K mg base CX0 1 f_is_word fd_is_word ["value"] (spM K cm m_is_word)) (g_is_word : mg "is_word" = some (.ref f_is_word)) (k_is_word : PySem.W.keepIn K (.ref f_is_word) = true) (b_is_word : Binds K fd_is_word ["value"] []) :
    FnOk P w K mg base CX0 2 f fd ["self", "x"] (spM K cm m_Catalog___contains__) :=
  efn F sc_Catalog___contains__ fun cdv A outer s H E hr => (rss_one (rs_ret ((re_and (re_call G_is_word (hr.mono (by decide)) g_is_word k_is_word b_is_word (ra_cons (re_var 1) ra_nil)) (re_one (re_din (hu_of hr) (re_var 1) (re_fld (C := "Catalog") k_Catalog.cl a_Catalog__lists (re_var 0))))))))
abbrev s_Catalog___len__ : Stmt := inCls (topS 24) 2
theorem sc_Catalog___len__ : FnScope ["self"] ["self"] (defScope s_Catalog___len__) := ⟨rfl, rfl, rfl, by decide +kernel, rfl, by decide +kernel, by decide +kernel⟩
def m_Catalog___len__ : List W → M W := mFn 1 1 (sRet (mCall bLenD (aCons (mFld "Catalog" "_lists" (mVar 0)) aNil)))
theorem ok_Catalog___len__ {P : Program} {w : World} {K : PySem.W.Frag} {mg : Str → Option Value} {base : Heap} {cm : Cm} {f : Addr} {fd : FuncData} (F : Fun K "__len__" "Catalog.__len__" s_Catalog___len__ f fd) (z_len : mg "len" = none) (k_Catalog : ClsK K mg "Catalog" (cm "Catalog")) (a_Catalog__lists : NoAttr K (cm "Catalog") "_lists") :
    FnOk P w K mg base CX0 1 f fd ["self"] (spM K cm m_Catalog___len__) :=
  efn F sc_Catalog___len__ fun cdv A outer s H E hr => (rss_one (rs_ret (re_callB call_lenD wLenD z_len (ra_cons (re_fld (C := "Catalog") k_Catalog.cl a_Catalog__lists (re_var 0)) ra_nil))))
abbrev s_Catalog_words : Stmt := inCls (topS 24) 1
theorem sc_Catalog_words : FnScope ["self"] ["self"] (defScope s_Catalog_words) := ⟨rfl, rfl, rfl, by decide +kernel, rfl, by decide +kernel, by decide +kernel⟩
def m_Catalog_words : List W → M W := mFn 1 1 (sRet (mCall bSortSetD (aCons (mFld "Catalog" "_lists" (mVar 0)) aNil)))
theorem ok_Catalog_words {P : Program} {w : World} {K : PySem.W.Frag} {mg : Str → Option Value} {base : Heap} {cm : Cm} {f : Addr} {fd : FuncData} (F : Fun K "words" "Catalog.words" s_Catalog_words f fd) (z_sorted : mg "sorted" = none) (z_set : mg "set" = none) (k_Catalog : ClsK K mg "Catalog" (cm "Catalog")) (a_Catalog__lists : NoAttr K (cm "Catalog") "_lists") :
    FnOk P w K mg base CX0 1 f fd ["self"] (spM K cm m_Catalog_words) :=
  efn F sc_Catalog_words fun cdv A outer s H E hr => (rss_one (rs_ret (re_sortSetD rfl z_sorted z_set (re_fld (C := "Catalog") k_Catalog.cl a_Catalog__lists (re_var 0)))))
abbrev s_PartsList_places : Stmt := inCls (topS 21) 1
theorem sc_PartsList_places : FnScope ["self"] ["self"] (defScope s_PartsList_places) := ⟨rfl, rfl, rfl, by decide +kernel, rfl, by decide +kernel, by decide +kernel⟩
def m_PartsList_places : List W → M W := mFn 1 1 (sRet (mCall bList1 (aCons (mFld "PartsList" "_places" (mVar 0)) aNil)))
theorem ok_PartsList_places {P : Program} {w : World} {K : PySem.W.Frag} {mg : Str → Option Value} {base : Heap} {cm : Cm} {f : Addr} {fd : FuncData} (F : Fun K "places" "PartsList.places" s_PartsList_places f fd) (z_list : mg "list" = none) (k_PartsList : ClsK K mg "PartsList" (cm "PartsList")) (a_PartsList__places : NoAttr K (cm "PartsList") "_places") :
    FnOk P w K mg base CX0 1 f fd ["self"] (spM K cm m_PartsList_places) :=
  efn F sc_PartsList_places fun cdv A outer s H E hr => (rss_one (rs_ret (re_callTy call_list_of wList1 z_list (ra_cons (re_fld (C := "PartsList") k_PartsList.cl a_PartsList__places (re_var 0)) ra_nil))))
abbrev s_count_places : Stmt := topS 22
theorem sc_count_places : FnScope ["lists", "word", "within", "counts", "total", "_", "plain"] ["lists", "word", "within", "counts"] (defScope s_count_places) := ⟨rfl, rfl, rfl, by decide +kernel, rfl, by decide +kernel, by decide +kernel⟩
def mS_count_places (rec_ : List W → M W) : List W → M W := mFn 4 7 (sSeq (sAsg (gNm 4) (mC (.int 0)))
    (sSeq (sForI (iAny (mMeth "PartsList" "places" m_PartsList_places [] (mBin fDget (mVar 0) (mVar 1)) aNil)) (gTu 4 (gsCons (gNm 5) (gsCons (gNm 6) (gsCons (gNm 5) (gsCons (gNm 5) gsNil))))) (sSeq (sIf (tVal (mBin (fInT false) (mVar 6) (mVar 2))) (fun _ => bad) sNil)
    (sIf (tVal (mBin (fDin true) (mVar 6) (mVar 0))) (sAug 4 fAddI (mC (.int 1))) (sSeq (sIf (tVal (mBin (fDin true) (mVar 6) (mVar 3))) (sDput (mVar 3) (mVar 6) (mCall rec_ (aCons (mVar 0) (aCons (mVar 6) (aCons (mTup (aStar (mVar 2) (aCons (mVar 6) aNil))) (aCons (mVar 3) aNil)))))) sNil)
    (sAug 4 fAddI (mBin fDget (mVar 3) (mVar 6)))))))
    (sRet (mVar 4))))
def mN_count_places : Nat → List W → M W
  | 0 => fun _ => bad
  | n + 1 => mS_count_places (mN_count_places n)
def m_count_places : List W → M W := mN_count_places 12
theorem okS_count_places {P : Program} {w : World} {K : PySem.W.Frag} {mg : Str → Option Value} {base : Heap} {cm : Cm} {f : Addr} {fd : FuncData} {j : Nat} {rec_ : List W → M W} (hj : 1 ≤ j) (F : Fun K "count_places" "count_places" s_count_places f fd) (k_PartsList : ClsK K mg "PartsList" (cm "PartsList")) {f_PartsList_places : Addr} {fd_PartsList_places : FuncData} (G_PartsList_places : FnOk P w K mg base CX0 1 f_PartsList_places fd_PartsList_places ["self"] (spM K cm m_PartsList_places)) (o_PartsList_places : Own K (cm "PartsList") "places" f_PartsList_places) (b_PartsList_places : Binds K fd_PartsList_places ["self"] []) (G_self : FnOk P w K mg base CX0 j f fd ["lists", "word", "within", "counts"] (spM K cm rec_)) (g_self : mg "count_places" = some (.ref f)) (k_self : PySem.W.keepIn K (.ref f) = true) (b_self : Binds K fd ["lists", "word", "within", "counts"] []) :
    FnOk P w K mg base CX0 (j + 1) f fd ["lists", "word", "within", "counts"] (spM K cm (mS_count_places rec_)) :=
  efn F sc_count_places fun cdv A outer s H E hr => (rss_cons (rs_asg (vs := [4]) (re_int) (rg_name 4 sc_count_places.nd))
    (rss_cons (rs_for (vs := [5, 6]) PassesOwn.never rfl (ri_any (re_meth0 k_PartsList.cl o_PartsList_places.meth G_PartsList_places (hr.mono (Nat.le_trans (by decide) hj)) b_PartsList_places .nil rels_nil (re_dsub (hu_of hr) (re_var 0) (re_var 1)))) (rg_tup rfl (rgs_cons (rg_name 5 sc_count_places.nd) (rgs_cons (rg_name 6 sc_count_places.nd) (rgs_cons (rg_name 5 sc_count_places.nd) (rgs_cons (rg_name 5 sc_count_places.nd) rgs_nil))))) (rss_cons (rs_if (rt_cmp op_in_seq wInT (re_var 6) (re_var 2)) (rss_one (rs_bad)) rss_nil)
    (rss_one (rs_if (rt_dnotin (hu_of hr) (re_var 6) (re_var 0)) (rss_one (rs_aug 4 sc_count_places.nd (re_int) ip_add wIpAdd)) (rss_cons (rs_if (rt_dnotin (hu_of hr) (re_var 6) (re_var 3)) (rss_one (rs_dput (hu_of hr) (re_var 3) (re_var 6) (re_call G_self hr g_self k_self b_self (ra_cons (re_var 0) (ra_cons (re_var 6) (ra_cons (re_tup (ra_star (re_var 2) (ra_cons (re_var 6) ra_nil))) (ra_cons (re_var 3) ra_nil))))))) rss_nil)
    (rss_one (rs_aug 4 sc_count_places.nd (re_dsub (hu_of hr) (re_var 3) (re_var 6)) ip_add wIpAdd)))))))
    (rss_one (rs_ret (re_var 4)))))
theorem ok_count_places {P : Program} {w : World} {K : PySem.W.Frag} {mg : Str → Option Value} {base : Heap} {cm : Cm} {f : Addr} {fd : FuncData} (F : Fun K "count_places" "count_places" s_count_places f fd) (k_PartsList : ClsK K mg "PartsList" (cm "PartsList")) {f_PartsList_places : Addr} {fd_PartsList_places : FuncData} (G_PartsList_places : FnOk P w K mg base CX0 1 f_PartsList_places fd_PartsList_places ["self"] (spM K cm m_PartsList_places)) (o_PartsList_places : Own K (cm "PartsList") "places" f_PartsList_places) (b_PartsList_places : Binds K fd_PartsList_places ["self"] []) (g_self : mg "count_places" = some (.ref f)) (k_self : PySem.W.keepIn K (.ref f) = true) (b_self : Binds K fd ["lists", "word", "within", "counts"] []) :
    FnOk P w K mg base CX0 13 f fd ["lists", "word", "within", "counts"] (spM K cm m_count_places) := by
  have go : ∀ n, FnOk P w K mg base CX0 (1 + n) f fd ["lists", "word", "within", "counts"] (spM K cm (mN_count_places n)) := fun n => by
    induction n with
    | zero => exact fnok_bad
    | succ n ih => exact okS_count_places (Nat.le_add_right _ _) F k_PartsList G_PartsList_places o_PartsList_places b_PartsList_places ih g_self k_self b_self
  exact go 12
abbrev s_times_share : Stmt := topS 20
theorem sc_times_share : FnScope ["share", "number"] ["share", "number"] (defScope s_times_share) := ⟨rfl, rfl, rfl, by decide +kernel, rfl, by decide +kernel, by decide +kernel⟩
def m_times_share : List W → M W := mFn 2 2 (sRet (mIf (tVal (mBin (fIs false) (mVar 0) (mC .non))) (mC .non) (mBin fMul (mVar 0) (mVar 1))))
theorem ok_times_share {P : Program} {w : World} {K : PySem.W.Frag} {mg : Str → Option Value} {base : Heap} {cm : Cm} {f : Addr} {fd : FuncData} (F : Fun K "times_share" "times_share" s_times_share f fd) :
    FnOk P w K mg base CX0 1 f fd ["share", "number"] (spM K cm m_times_share) :=
  efn F sc_times_share fun cdv A outer s H E hr => (rss_one (rs_ret (re_if (rt_cmp oIs wIs (re_var 0) (re_non)) (re_non) (re_op oMul wMul (re_var 0) (re_var 1)))))
abbrev s_put_in : Stmt := topS 23
theorem sc_put_in : FnScope ["lists", "word", "times", "rows", "_", "plain", "number", "share"] ["lists", "word", "times"] (defScope s_put_in) := ⟨rfl, rfl, rfl, by decide +kernel, rfl, by decide +kernel, by decide +kernel⟩
def mS_put_in (rec_ : List W → M W) : List W → M W := mFn 3 8 (sSeq (sAsg (gNm 3) (mLst aNil))
    (sSeq (sForI (iAny (mMeth "PartsList" "places" m_PartsList_places [] (mBin fDget (mVar 0) (mVar 1)) aNil)) (gTu 4 (gsCons (gNm 4) (gsCons (gNm 5) (gsCons (gNm 6) (gsCons (gNm 7) gsNil))))) (sIf (tVal (mBin (fDin false) (mVar 5) (mVar 0))) (sExp (mExt (mVar 3) (mCall rec_ (aCons (mVar 0) (aCons (mVar 5) (aCons (mBin fMul (mVar 2) (mVar 6)) aNil)))))) (sExp (mApp (mVar 3) (mTup (aCons (mVar 5) (aCons (mBin fMul (mVar 2) (mVar 6)) (aCons (mCall m_times_share (aCons (mVar 7) (aCons (mVar 2) aNil))) aNil))))))))
    (sRet (mVar 3))))
def mN_put_in : Nat → List W → M W
  | 0 => fun _ => bad
  | n + 1 => mS_put_in (mN_put_in n)
def m_put_in : List W → M W := mN_put_in 12
theorem okS_put_in {P : Program} {w : World} {K : PySem.W.Frag} {mg : Str → Option Value} {base : Heap} {cm : Cm} {f : Addr} {fd : FuncData} {j : Nat} {rec_ : List W → M W} (hj : 1 ≤ j) (F : Fun K "put_in" "put_in" s_put_in f fd) (k_PartsList : ClsK K mg "PartsList" (cm "PartsList")) {f_PartsList_places : Addr} {fd_PartsList_places : FuncData} (G_PartsList_places : FnOk P w K mg base CX0 1 f_PartsList_places fd_PartsList_places ["self"] (spM K cm m_PartsList_places)) (o_PartsList_places : Own K (cm "PartsList") "places" f_PartsList_places) (b_PartsList_places : Binds K fd_PartsList_places ["self"] []) {f_times_share : Addr} {fd_times_share : FuncData} (G_times_share : FnOk P w K mg base CX0 1 f_times_share fd_times_share ["share", "number"] (spM K cm m_times_share)) (g_times_share : mg "times_share" = some (.ref f_times_share)) (k_times_share : PySem.W.keepIn K (.ref f_times_share) = true) (b_times_share : Binds K fd_times_share ["share", "number"] []) (G_self : FnOk P w K mg base CX0 j f fd ["lists", "word", "times"] (spM K cm rec_)) (g_self : mg "put_in" = some (.ref f)) (k_self : PySem.W.keepIn K (.ref f) = true) (b_self : Binds K fd ["lists", "word", "times"] []) :
    FnOk P w K mg base CX0 (j + 1) f fd ["lists", "word", "times"] (spM K cm (mS_put_in rec_)) :=
  efn F sc_put_in fun cdv A outer s H E hr => (rss_cons (rs_asg (vs := [3]) (re_lst ra_nil) (rg_name 3 sc_put_in.nd))
    (rss_cons (rs_for (vs := [4, 5, 6, 7]) PassesOwn.never rfl (ri_any (re_meth0 k_PartsList.cl o_PartsList_places.meth G_PartsList_places (hr.mono (Nat.le_trans (by decide) hj)) b_PartsList_places .nil rels_nil (re_dsub (hu_of hr) (re_var 0) (re_var 1)))) (rg_tup rfl (rgs_cons (rg_name 4 sc_put_in.nd) (rgs_cons (rg_name 5 sc_put_in.nd) (rgs_cons (rg_name 6 sc_put_in.nd) (rgs_cons (rg_name 7 sc_put_in.nd) rgs_nil))))) (rss_one (rs_if (rt_din (hu_of hr) (re_var 5) (re_var 0)) (rss_one (rs_expr (re_extend (re_var 3) (re_call G_self hr g_self k_self b_self (ra_cons (re_var 0) (ra_cons (re_var 5) (ra_cons (re_op oMul wMul (re_var 2) (re_var 6)) ra_nil))))))) (rss_one (rs_expr (re_append (re_var 3) (re_tup (ra_cons (re_var 5) (ra_cons (re_op oMul wMul (re_var 2) (re_var 6)) (ra_cons (re_call G_times_share (hr.mono (Nat.le_trans (by decide) hj)) g_times_share k_times_share b_times_share (ra_cons (re_var 7) (ra_cons (re_var 2) ra_nil))) ra_nil))))))))))
    (rss_one (rs_ret (re_var 3)))))
theorem ok_put_in {P : Program} {w : World} {K : PySem.W.Frag} {mg : Str → Option Value} {base : Heap} {cm : Cm} {f : Addr} {fd : FuncData} (F : Fun K "put_in" "put_in" s_put_in f fd) (k_PartsList : ClsK K mg "PartsList" (cm "PartsList")) {f_PartsList_places : Addr} {fd_PartsList_places : FuncData} (G_PartsList_places : FnOk P w K mg base CX0 1 f_PartsList_places fd_PartsList_places ["self"] (spM K cm m_PartsList_places)) (o_PartsList_places : Own K (cm "PartsList") "places" f_PartsList_places) (b_PartsList_places : Binds K fd_PartsList_places ["self"] []) {f_times_share : Addr} {fd_times_share : FuncData} (G_times_share : FnOk P w K mg base CX0 1 f_times_share fd_times_share ["share", "number"] (spM K cm m_times_share)) (g_times_share : mg "times_share" = some (.ref f_times_share)) (k_times_share : PySem.W.keepIn K (.ref f_times_share) = true) (b_times_share : Binds K fd_times_share ["share", "number"] []) (g_self : mg "put_in" = some (.ref f)) (k_self : PySem.W.keepIn K (.ref f) = true) (b_self : Binds K fd ["lists", "word", "times"] []) :
    FnOk P w K mg base CX0 13 f fd ["lists", "word", "times"] (spM K cm m_put_in) := by
  have go : ∀ n, FnOk P w K mg base CX0 (1 + n) f fd ["lists", "word", "times"] (spM K cm (mN_put_in n)) := fun n => by
    induction n with
    | zero => exact fnok_bad
    | succ n ih => exact okS_put_in (Nat.le_add_right _ _) F k_PartsList G_PartsList_places o_PartsList_places b_PartsList_places G_times_share g_times_share k_times_share b_times_share ih g_self k_self b_self
  exact go 12
abbrev s_Catalog_opened : Stmt := inCls (topS 24) 6
theorem sc_Catalog_opened : FnScope ["self", "word", "rows", "letter", "row"] ["self", "word"] (defScope s_Catalog_opened) := ⟨rfl, rfl, rfl, by decide +kernel, rfl, by decide +kernel, by decide +kernel⟩
def m_Catalog_opened : List W → M W := mFn 2 5 (sSeq (noX (sIf (tVal (mBin (fOwnIn true "Catalog" m_Catalog___contains__) (mVar 1) (mVar 0))) (fun _ => bad) sNil))
    (sSeq (sIf (noX (tVal (mBin fGt (mCall m_count_places (aCons (mFld "Catalog" "_lists" (mVar 0)) (aCons (mVar 1) (aCons (mTup (aCons (mVar 1) aNil)) (aCons (mDnew) aNil))))) (mC (.int 12))))) (sRaise "TooMany" (noX (aCons (mC (.int 12)) aNil))) sNil)
    (sSeq (noX (sAsg (gNm 2) (mCall m_put_in (aCons (mFld "Catalog" "_lists" (mVar 0)) (aCons (mVar 1) (aCons (mC (.int 1)) aNil))))))
    (noX (sRet (mMake "PartsList" m_PartsList___init__ [] (aCons (mLc (iZip2 (mC (.str "abcdefghijklmnopqrstuvwxyz")) (mVar 2)) (gTu 2 (gsCons (gNm 3) (gsCons (gNm 4) gsNil))) tYs (mTup (aCons (mVar 3) (aStar (mVar 4) aNil))) [3, 4]) aNil)))))))
theorem ok_Catalog_opened {P : Program} {w : World} {K : PySem.W.Frag} {mg : Str → Option Value} {base : Heap} {cm : Cm} {f : Addr} {fd : FuncData} (F : Fun K "opened" "Catalog.opened" s_Catalog_opened f fd) (z_zip : mg "zip" = none) {t_MOST_PLACES : Tok} (c_MOST_PLACES : mg "MOST_PLACES" = some (.int 12 t_MOST_PLACES)) {t_LETTERS : Tok} (c_LETTERS : mg "LETTERS" = some (.str "abcdefghijklmnopqrstuvwxyz" t_LETTERS)) (k_Catalog : ClsK K mg "Catalog" (cm "Catalog")) (k_PartsList : ClsK K mg "PartsList" (cm "PartsList")) (a_Catalog__lists : NoAttr K (cm "Catalog") "_lists") {f_Catalog___contains__ : Addr} {fd_Catalog___contains__ : FuncData} (G_Catalog___contains__ : FnOk P w K mg base CX0 2 f_Catalog___contains__ fd_Catalog___contains__ ["self", "x"] (spM K cm m_Catalog___contains__)) (o_Catalog___contains__ : Own K (cm "Catalog") "__contains__" f_Catalog___contains__) (b_Catalog___contains__ : Binds K fd_Catalog___contains__ ["self", "x"] []) {f_count_places : Addr} {fd_count_places : FuncData} (G_count_places : FnOk P w K mg base CX0 13 f_count_places fd_count_places ["lists", "word", "within", "counts"] (spM K cm m_count_places)) (g_count_places : mg "count_places" = some (.ref f_count_places)) (k_count_places : PySem.W.keepIn K (.ref f_count_places) = true) (b_count_places : Binds K fd_count_places ["lists", "word", "within", "counts"] []) {f_put_in : Addr} {fd_put_in : FuncData} (G_put_in : FnOk P w K mg base CX0 13 f_put_in fd_put_in ["lists", "word", "times"] (spM K cm m_put_in)) (g_put_in : mg "put_in" = some (.ref f_put_in)) (k_put_in : PySem.W.keepIn K (.ref f_put_in) = true) (b_put_in : Binds K fd_put_in ["lists", "word", "times"] []) {f_PartsList___init__ : Addr} {fd_PartsList___init__ : FuncData} (G_PartsList___init__ : FnOk P w K mg base CX0 4 f_PartsList___init__ fd_PartsList___init__ ["self", "places"] (spM K cm m_PartsList___init__)) (mk_PartsList : L2.Mk K (cm "PartsList") f_PartsList___init__) (b_PartsList___init___0 : Binds K fd_PartsList___init__ ["self", "places"] []) (er_TooMany : ErrK P w K mg base (cm "TooMany") "TooMany") :
    FnY P w K mg base cm 14 f fd ["self", "word"] m_Catalog_opened :=
  efnY F sc_Catalog_opened fun cdv A outer s H E hr tk => (yss_cons (ys_of (rs_if (rt_cmp (op_ownNotIn G_Catalog___contains__ (hr.mono (by decide)) b_Catalog___contains__ o_Catalog___contains__.at_ o_Catalog___contains__.fn) wOwnIn (re_var 1) (re_var 0)) (rss_one (rs_bad)) rss_nil))
    (yss_cons (ys_if (yt_of (rt_cmp oGt wCmp (re_call G_count_places (hr.mono (by decide)) g_count_places k_count_places b_count_places (ra_cons (re_fld (C := "Catalog") k_Catalog.cl a_Catalog__lists (re_var 0)) (ra_cons (re_var 1) (ra_cons (re_tup (ra_cons (re_var 1) ra_nil)) (ra_cons (re_dnew) ra_nil))))) (re_gint c_MOST_PLACES))) (yss_one (ys_raise er_TooMany tk (hr.mono (by decide)) (ra_cons (re_gint c_MOST_PLACES) ra_nil))) yss_nil)
    (yss_cons (ys_of (rs_asg (vs := [2]) (re_call G_put_in (hr.mono (by decide)) g_put_in k_put_in b_put_in (ra_cons (re_fld (C := "Catalog") k_Catalog.cl a_Catalog__lists (re_var 0)) (ra_cons (re_var 1) (ra_cons (re_int) ra_nil)))) (rg_name 2 sc_Catalog_opened.nd)))
    (yss_one (ys_of (rs_ret (re_make (dvs := []) mk_PartsList G_PartsList___init__ (hr.mono (by decide)) k_PartsList.gl b_PartsList___init___0 .nil rels_nil (ra_cons (re_lc [("letter", 3), ("row", 4)] rfl sc_Catalog_opened.nd (ri_zipSL z_zip (re_gstr c_LETTERS) (re_var 2)) (N0 := ["self", "word", "rows", "letter", "row"]) (sc0 := defScope s_Catalog_opened) (by decide +kernel) (fun _ _ _ _ _ => (rg_tup rfl (rgs_cons (rg_name 3 sc_Catalog_opened.nd) (rgs_cons (rg_name 4 sc_Catalog_opened.nd) rgs_nil)))) (fun _ _ _ _ _ => (re_tup (ra_cons (re_var 3) (ra_star (re_var 4) ra_nil))))) ra_nil))))))))
abbrev s__law_told : Stmt := topS 30
theorem sc__law_told : FnScope ["_law_catalog", "_law_word", "e", "_law_place"] ["_law_catalog", "_law_word"] (defScope s__law_told) := ⟨rfl, rfl, rfl, by decide +kernel, rfl, by decide +kernel, by decide +kernel⟩
def m__law_told : List W → M W := mFn 2 4 (sTryY (sRet (frX (frX (mMeth "Catalog" "opened" m_Catalog_opened [] (noX (mVar 0)) (noX (aCons (mVar 1) aNil))) (mMeth "PartsList" "places" m_PartsList_places [] (mMeth "Catalog" "opened" m_Catalog_opened [] (noX (mVar 0)) (noX (aCons (mVar 1) aNil))) aNil)) (mLc (iAny (frX (mMeth "Catalog" "opened" m_Catalog_opened [] (noX (mVar 0)) (noX (aCons (mVar 1) aNil))) (mMeth "PartsList" "places" m_PartsList_places [] (mMeth "Catalog" "opened" m_Catalog_opened [] (noX (mVar 0)) (noX (aCons (mVar 1) aNil))) aNil))) (gNm 3) tYs (mVar 3) [3]))) [("TooMany", ["BadPlace"], (fun v => rtn v)), ("BadPlace", ["TooMany"], (fun _ => rtn (.str "great")))])
theorem ok__law_told {P : Program} {w : World} {K : PySem.W.Frag} {mg : Str → Option Value} {base : Heap} {cm : Cm} {f : Addr} {fd : FuncData} (F : Fun K "_law_told" "_law_told" s__law_told f fd) (k_PartsList : ClsK K mg "PartsList" (cm "PartsList")) (k_Catalog : ClsK K mg "Catalog" (cm "Catalog")) {f_PartsList_places : Addr} {fd_PartsList_places : FuncData} (G_PartsList_places : FnOk P w K mg base CX0 1 f_PartsList_places fd_PartsList_places ["self"] (spM K cm m_PartsList_places)) (o_PartsList_places : Own K (cm "PartsList") "places" f_PartsList_places) (b_PartsList_places : Binds K fd_PartsList_places ["self"] []) {f_Catalog_opened : Addr} {fd_Catalog_opened : FuncData} (G_Catalog_opened : FnY P w K mg base cm 14 f_Catalog_opened fd_Catalog_opened ["self", "word"] m_Catalog_opened) (o_Catalog_opened : Own K (cm "Catalog") "opened" f_Catalog_opened) (b_Catalog_opened : Binds K fd_Catalog_opened ["self", "word"] []) (hx_BadPlace : HxC K mg (cm "BadPlace") "BadPlace" "index") (hx_TooMany : HxC K mg (cm "TooMany") "TooMany" "limit") (xm_BadPlace_BadPlace : PySem.W.exmOne K (.ref (cm "BadPlace")) (.ref (cm "BadPlace")) = some true) (xm_TooMany_BadPlace : PySem.W.exmOne K (.ref (cm "TooMany")) (.ref (cm "BadPlace")) = some false) (xm_TooMany_TooMany : PySem.W.exmOne K (.ref (cm "TooMany")) (.ref (cm "TooMany")) = some true) (xm_BadPlace_TooMany : PySem.W.exmOne K (.ref (cm "BadPlace")) (.ref (cm "TooMany")) = some false) :
    FnY P w K mg base cm 15 f fd ["_law_catalog", "_law_word"] m__law_told :=
  efnY F sc__law_told fun cdv A outer s H E hr tk => (yss_one (ys_try (tk := tk) (hb := fun E' pn xe tk po => (yss_one (ys_ret (ye_lcR [("_law_place", 3)] rfl sc__law_told.nd (ye_meth0R k_PartsList.cl o_PartsList_places.meth G_PartsList_places (hr.mono (by decide)) b_PartsList_places .nil rels_nil (ye_meth k_Catalog.cl o_Catalog_opened.meth G_Catalog_opened (hr.mono (by decide)) b_Catalog_opened .nil rels_nil (re_var 0) (ra_cons (re_var 1) ra_nil) tk)) (N0 := ["_law_catalog", "_law_word", "e", "_law_place"]) (sc0 := defScope s__law_told) (by decide +kernel) (fun _ _ _ _ _ => (rg_name 3 sc__law_told.nd)) (fun _ _ _ _ _ => (re_var 3)))))) (hh := (.cons (Names_of hx_TooMany.gl) xm_TooMany_TooMany (fun q hq => by simp only [List.mem_cons, List.not_mem_nil, or_false] at hq; rcases hq with rfl <;> assumption) sc__law_told.nd (i := 2) rfl rfl (he_own hx_TooMany (by decide +kernel)) (.cons (Names_of hx_BadPlace.gl) xm_BadPlace_BadPlace (fun q hq => by simp only [List.mem_cons, List.not_mem_nil, or_false] at hq; rcases hq with rfl <;> assumption) sc__law_told.nd (i := 2) rfl rfl (he_of (fun _ _ => re_str) (fun _ => rfl)) .nil)))))
abbrev s__law_opened : Stmt := topS 29
theorem sc__law_opened : FnScope ["_law_lists", "_law_word", "_law_number", "_law_found", "_law_name", "_law_plain", "_law_many", "_law_share"] ["_law_lists", "_law_word", "_law_number"] (defScope s__law_opened) := ⟨rfl, rfl, rfl, by decide +kernel, rfl, by decide +kernel, by decide +kernel⟩
def mS__law_opened (rec_ : List W → M W) : List W → M W := mFn 3 8 (sSeq (sAsg (gNm 3) (mLst aNil))
    (sSeq (sForI (iAny (mBin fDget (mVar 0) (mVar 1))) (gTu 4 (gsCons (gNm 4) (gsCons (gNm 5) (gsCons (gNm 6) (gsCons (gNm 7) gsNil))))) (sIf (tVal (mBin (fDin false) (mVar 5) (mVar 0))) (sAsg (gNm 3) (mBin fAdd (mVar 3) (mCall rec_ (aCons (mVar 0) (aCons (mVar 5) (aCons (mBin fMul (mVar 2) (mVar 6)) aNil)))))) (sExp (mApp (mVar 3) (mTup (aCons (mVar 5) (aCons (mBin fMul (mVar 2) (mVar 6)) (aCons (mIf (tVal (mBin (fIs false) (mVar 7) (mC .non))) (mC .non) (mBin fMul (mVar 2) (mVar 7))) aNil))))))))
    (sRet (mVar 3))))
def mN__law_opened : Nat → List W → M W
  | 0 => fun _ => bad
  | n + 1 => mS__law_opened (mN__law_opened n)
def m__law_opened : List W → M W := mN__law_opened 12
theorem okS__law_opened {P : Program} {w : World} {K : PySem.W.Frag} {mg : Str → Option Value} {base : Heap} {cm : Cm} {f : Addr} {fd : FuncData} {j : Nat} {rec_ : List W → M W} (hj : 0 ≤ j) (F : Fun K "_law_opened" "_law_opened" s__law_opened f fd) (G_self : FnOk P w K mg base CX0 j f fd ["_law_lists", "_law_word", "_law_number"] (spM K cm rec_)) (g_self : mg "_law_opened" = some (.ref f)) (k_self : PySem.W.keepIn K (.ref f) = true) (b_self : Binds K fd ["_law_lists", "_law_word", "_law_number"] []) :
    FnOk P w K mg base CX0 (j + 1) f fd ["_law_lists", "_law_word", "_law_number"] (spM K cm (mS__law_opened rec_)) :=
  efn F sc__law_opened fun cdv A outer s H E hr => (rss_cons (rs_asg (vs := [3]) (re_lst ra_nil) (rg_name 3 sc__law_opened.nd))
    (rss_cons (rs_for (vs := [4, 5, 6, 7]) PassesOwn.never rfl (ri_any (re_dsub (hu_of hr) (re_var 0) (re_var 1))) (rg_tup rfl (rgs_cons (rg_name 4 sc__law_opened.nd) (rgs_cons (rg_name 5 sc__law_opened.nd) (rgs_cons (rg_name 6 sc__law_opened.nd) (rgs_cons (rg_name 7 sc__law_opened.nd) rgs_nil))))) (rss_one (rs_if (rt_din (hu_of hr) (re_var 5) (re_var 0)) (rss_one (rs_asg (vs := [3]) (re_op oAdd wAdd (re_var 3) (re_call G_self hr g_self k_self b_self (ra_cons (re_var 0) (ra_cons (re_var 5) (ra_cons (re_op oMul wMul (re_var 2) (re_var 6)) ra_nil))))) (rg_name 3 sc__law_opened.nd))) (rss_one (rs_expr (re_append (re_var 3) (re_tup (ra_cons (re_var 5) (ra_cons (re_op oMul wMul (re_var 2) (re_var 6)) (ra_cons (re_if (rt_cmp oIs wIs (re_var 7) (re_non)) (re_non) (re_op oMul wMul (re_var 2) (re_var 7))) ra_nil))))))))))
    (rss_one (rs_ret (re_var 3)))))
theorem ok__law_opened {P : Program} {w : World} {K : PySem.W.Frag} {mg : Str → Option Value} {base : Heap} {cm : Cm} {f : Addr} {fd : FuncData} (F : Fun K "_law_opened" "_law_opened" s__law_opened f fd) (g_self : mg "_law_opened" = some (.ref f)) (k_self : PySem.W.keepIn K (.ref f) = true) (b_self : Binds K fd ["_law_lists", "_law_word", "_law_number"] []) :
    FnOk P w K mg base CX0 12 f fd ["_law_lists", "_law_word", "_law_number"] (spM K cm m__law_opened) := by
  have go : ∀ n, FnOk P w K mg base CX0 (0 + n) f fd ["_law_lists", "_law_word", "_law_number"] (spM K cm (mN__law_opened n)) := fun n => by
    induction n with
    | zero => exact fnok_bad
    | succ n ih => exact okS__law_opened (Nat.le_add_right _ _) F  ih g_self k_self b_self
  exact go 12
abbrev s_Catalog___getitem__ : Stmt := inCls (topS 24) 4
theorem sc_Catalog___getitem__ : FnScope ["self", "at"] ["self", "at"] (defScope s_Catalog___getitem__) := ⟨rfl, rfl, rfl, by decide +kernel, rfl, by decide +kernel, by decide +kernel⟩
def m_Catalog___getitem__ : List W → M W := mFn 2 2 (sSeq (sIf ((tOr (tNot (tTru (mCall m_is_word (aCons (mVar 1) aNil)))) (tVal (mBin (fDin true) (mVar 1) (mFld "Catalog" "_lists" (mVar 0)))))) (fun _ => bad) sNil)
    (sRet (mBin fDget (mFld "Catalog" "_lists" (mVar 0)) (mVar 1))))
theorem ok_Catalog___getitem__ {P : Program} {w : World} {K : PySem.W.Frag} {mg : Str → Option Value} {base : Heap} {cm : Cm} {f : Addr} {fd : FuncData} (F : Fun K "__getitem__" "Catalog.__getitem__" s_Catalog___getitem__ f fd) (k_Catalog : ClsK K mg "Catalog" (cm "Catalog")) (a_Catalog__lists : NoAttr K (cm "Catalog") "_lists") {f_is_word : Addr} {fd_is_word : FuncData} (G_is_word : FnOk P w K mg base CX0 1 f_is_word fd_is_word ["value"] (spM K cm m_is_word)) (g_is_word : mg "is_word" = some (.ref f_is_word)) (k_is_word : PySem.W.keepIn K (.ref f_is_word) = true) (b_is_word : Binds K fd_is_word ["value"] []) :
    FnOk P w K mg base CX0 2 f fd ["self", "at"] (spM K cm m_Catalog___getitem__) :=
  efn F sc_Catalog___getitem__ fun cdv A outer s H E hr => (rss_cons (rs_if (rw_t (rt_or (rt_not (rt_tru (re_call G_is_word (hr.mono (by decide)) g_is_word k_is_word b_is_word (ra_cons (re_var 1) ra_nil)))) (rt_or1 (rt_dnotin (hu_of hr) (re_var 1) (re_fld (C := "Catalog") k_Catalog.cl a_Catalog__lists (re_var 0)))))) (rss_one (rs_bad)) rss_nil)
    (rss_one (rs_ret (re_dsub (hu_of hr) (re_fld (C := "Catalog") k_Catalog.cl a_Catalog__lists (re_var 0)) (re_var 1)))))
abbrev s_PartsList___eq__ : Stmt := inCls (topS 21) 11
theorem sc_PartsList___eq__ : FnScope ["self", "other"] ["self", "other"] (defScope s_PartsList___eq__) := ⟨rfl, rfl, rfl, by decide +kernel, rfl, by decide +kernel, by decide +kernel⟩
def m_PartsList___eq__ : List W → M W := mFn 2 2 (sRet ((mAnd (mIsiC [("PartsList", true)] allTys (mVar 1)) (mBin (fEq false) (mFld "PartsList" "_places" (mVar 0)) (mFld "PartsList" "_places" (mVar 1))))))
theorem ok_PartsList___eq__ {P : Program} {w : World} {K : PySem.W.Frag} {mg : Str → Option Value} {base : Heap} {cm : Cm} {f : Addr} {fd : FuncData} (F : Fun K "__eq__" "PartsList.__eq__" s_PartsList___eq__ f fd) (z_isinstance : mg "isinstance" = none) (k_PartsList : ClsK K mg "PartsList" (cm "PartsList")) (a_PartsList__places : NoAttr K (cm "PartsList") "_places") :
    FnOk P w K mg base CX0 1 f fd ["self", "other"] (spM K cm m_PartsList___eq__) :=
  efn F sc_PartsList___eq__ fun cdv A outer s H E hr => (rss_one (rs_ret ((re_and (re_isiC (C := "PartsList") z_isinstance k_PartsList.gl (isi_tab k_PartsList) k_PartsList.tys (re_var 1)) (re_one (re_cmp (op_eqD hr.units) wEq (re_fld (C := "PartsList") k_PartsList.cl a_PartsList__places (re_var 0)) (re_fld (C := "PartsList") k_PartsList.cl a_PartsList__places (re_var 1))))))))
abbrev s_law : Stmt := topS 31
theorem sc_law : FnScope ["_law_script", "_law_names", "_law_k", "_law_pool_here", "_law_lists", "_law_at", "_law_name", "_law_rows", "_law_word", "_law_number", "_law_plain", "_law_share", "_law_catalog", "_law_deep", "_law_due", "_law_row"] ["_law_script"] (defScope s_law) := ⟨rfl, rfl, rfl, by decide +kernel, rfl, by decide +kernel, by decide +kernel⟩
def m_law : List W → M W := mFn 1 16 (sSeq (sAsg (gNm 1) (mLst (aCons (mC (.str "la")) (aCons (mC (.str "lb")) (aCons (mC (.str "lc")) (aCons (mC (.str "ld")) aNil))))))
    (sSeq (sForI (iRg1 (mCall bMax (aCons (mC (.int 1)) (aCons (mCall bMin (aCons (mCall bLen (aCons (mVar 0) aNil)) (aCons (mC (.int 3)) aNil))) aNil)))) (gNm 2) (sSeq (sAsg (gNm 3) (mCall m__law_pool (aCons (mVar 0) (aCons (mVar 2) aNil))))
    (sSeq (sAsg (gNm 4) (mDnew))
    (sSeq (sForI (iEnu (mVar 1)) (gTu 2 (gsCons (gNm 5) (gsCons (gNm 6) gsNil))) (sSeq (sAsg (gNm 7) (mLst aNil))
    (sSeq (sForI (iAny (mSl (mLst (aCons (mC (.str "x")) (aCons (mC (.str "y")) (aCons (mC (.str "z")) aNil)))) oNo (oSo (mBin fAdd (mC (.int 1)) (mCall m__law_draw (aCons (mVar 3) (aCons (mC (.int 3)) aNil))))))) (gNm 8) (sSeq (sAsg (gNm 9) (mBin fAdd (mC (.int 1)) (mCall m__law_draw (aCons (mVar 3) (aCons (mC (.int 4)) aNil)))))
    (sSeq (sAsg (gTu 2 (gsCons (gNm 10) (gsCons (gNm 11) gsNil))) (mTup (aCons (mCall m__law_pick (aCons (mVar 3) (aCons (mBin fAdd (mLst (aCons (mC (.str "p")) (aCons (mC (.str "q")) aNil))) (mSl (mVar 1) (oSo (mBin fAdd (mVar 5) (mC (.int 1)))) oNo)) aNil))) (aCons (mCall m__law_pick (aCons (mVar 3) (aCons (mLst (aCons (mC .non) (aCons (mC (.int 0)) (aCons (mVar 9) aNil)))) aNil))) aNil))))
    (sExp (mApp (mVar 7) (mTup (aCons (mVar 8) (aCons (mVar 10) (aCons (mVar 9) (aCons (mVar 11) aNil))))))))))
    (sDput (mVar 4) (mVar 6) (mVar 7)))))
    (sSeq (sAsg (gNm 12) (mMake "Catalog" m_Catalog___init__ [] (aCons (mCall bDict (aCons (mLc (iAny (mVar 1)) (gNm 6) tYs (mTup (aCons (mVar 6) (aCons (mMake "PartsList" m_PartsList___init__ [] (aCons (mBin fDget (mVar 4) (mVar 6)) aNil)) aNil))) [6]) aNil)) aNil)))
    (sSeq (sIf ((tOr (tVal (mBin (fEq true) (mMeth "Catalog" "words" m_Catalog_words [] (mVar 12) aNil) (mVar 1))) (tOr (tVal (mBin (fEq true) (mCall (bLenO "Catalog" m_Catalog___len__) (aCons (mVar 12) aNil)) (mC (.int 4)))) (tOr (tVal (mBin (fOwnIn false "Catalog" m_Catalog___contains__) (mC (.str "p")) (mVar 12))) (tVal (mBin (fOwnIn false "Catalog" m_Catalog___contains__) (mC (.int 5)) (mVar 12))))))) (sRet (mC (.bl false))) sNil)
    (sSeq (sAsg (gNm 13) (mDnew))
    (sSeq (sForI (iRg1 (mC (.int 10))) (gNm 5) (sSeq (sAsg (gNm 10) (mIf (tVal (mBin fLt (mVar 5) (mC (.int 9)))) (mBin fIx (mC (.str "abcdefghijk")) (mBin fAdd (mVar 5) (mC (.int 1)))) (mC (.str "p"))))
    (sDput (mVar 13) (mBin fIx (mC (.str "abcdefghijk")) (mVar 5)) (mMake "PartsList" m_PartsList___init__ [] (aCons (mLc (iAny (mC (.str "abcdefghijkl"))) (gNm 8) tYs (mTup (aCons (mVar 8) (aCons (mVar 10) (aCons (mC (.int 1)) (aCons (mC .non) aNil))))) [8]) aNil)))))
    (sSeq (sIf ((tOr (tVal (mBin (fEq true) (mCall m__law_told (aCons (mMake "Catalog" m_Catalog___init__ [] (aCons (mVar 13) aNil)) (aCons (mC (.str "a")) aNil))) (mC (.int 12)))) (tVal (mBin (fEq false) (mCall m__law_told (aCons (mMake "Catalog" m_Catalog___init__ [] (aCons (mVar 13) aNil)) (aCons (mC (.str "j")) aNil))) (mC (.int 12)))))) (sRet (mC (.bl false))) sNil)
    (sForI (iAny (mVar 1)) (gNm 6) (sSeq (sAsg (gNm 7) (mCall m__law_opened (aCons (mVar 4) (aCons (mVar 6) (aCons (mC (.int 1)) aNil)))))
    (sSeq (sAsg (gNm 14) (mLc (iEnu (mSl (mVar 7) oNo (oSo (mC (.int 12))))) (gTu 2 (gsCons (gNm 5) (gsCons (gNm 15) gsNil))) tYs (mTup (aCons (mBin fIx (mC (.str "abcdefghijkl")) (mVar 5)) (aCons (mBin fIx (mVar 15) (mC (.int 0))) (aCons (mBin fIx (mVar 15) (mC (.int 1))) (aCons (mBin fIx (mVar 15) (mC (.int 2))) aNil))))) [5, 15]))
    (sSeq (sAsg (gNm 14) (mIf (tVal (mBin fGt (mCall bLen (aCons (mVar 7) aNil)) (mC (.int 12)))) (mC (.int 12)) (mVar 14)))
    (sIf ((tOr (tVal (mBin (fEq true) (mCall m__law_told (aCons (mVar 12) (aCons (mVar 6) aNil))) (mVar 14))) (tOr (tVal (mBin (fOwnNe "PartsList" allTys m_PartsList___eq__) (mBin (fOwnIx "Catalog" m_Catalog___getitem__) (mVar 12) (mVar 6)) (mMake "PartsList" m_PartsList___init__ [] (aCons (mBin fDget (mVar 4) (mVar 6)) aNil)))) (tVal (mBin (fOwnIn true "Catalog" m_Catalog___contains__) (mVar 6) (mVar 12)))))) (sRet (mC (.bl false))) sNil))))))))))))))
    (sRet (mC (.bl true)))))
theorem ok_law {P : Program} {w : World} {K : PySem.W.Frag} {mg : Str → Option Value} {base : Heap} {cm : Cm} {f : Addr} {fd : FuncData} (F : Fun K "law" "law" s_law f fd) (z_range : mg "range" = none) (z_max : mg "max" = none) (z_min : mg "min" = none) (z_len : mg "len" = none) (z_enumerate : mg "enumerate" = none) (z_dict : mg "dict" = none) (k_Catalog : ClsK K mg "Catalog" (cm "Catalog")) (k_PartsList : ClsK K mg "PartsList" (cm "PartsList")) {f__law_pool : Addr} {fd__law_pool : FuncData} (G__law_pool : FnOk P w K mg base CX0 1 f__law_pool fd__law_pool ["_law_script", "_law_k"] (spM K cm m__law_pool)) (g__law_pool : mg "_law_pool" = some (.ref f__law_pool)) (k__law_pool : PySem.W.keepIn K (.ref f__law_pool) = true) (b__law_pool : Binds K fd__law_pool ["_law_script", "_law_k"] []) {f__law_draw : Addr} {fd__law_draw : FuncData} (G__law_draw : FnOk P w K mg base CX0 1 f__law_draw fd__law_draw ["_law_pool_here", "_law_many"] (spM K cm m__law_draw)) (g__law_draw : mg "_law_draw" = some (.ref f__law_draw)) (k__law_draw : PySem.W.keepIn K (.ref f__law_draw) = true) (b__law_draw : Binds K fd__law_draw ["_law_pool_here", "_law_many"] []) {f__law_pick : Addr} {fd__law_pick : FuncData} (G__law_pick : FnOk P w K mg base CX0 2 f__law_pick fd__law_pick ["_law_pool_here", "_law_row"] (spM K cm m__law_pick)) (g__law_pick : mg "_law_pick" = some (.ref f__law_pick)) (k__law_pick : PySem.W.keepIn K (.ref f__law_pick) = true) (b__law_pick : Binds K fd__law_pick ["_law_pool_here", "_law_row"] []) {f_Catalog___init__ : Addr} {fd_Catalog___init__ : FuncData} (G_Catalog___init__ : FnOk P w K mg base CX0 2 f_Catalog___init__ fd_Catalog___init__ ["self", "lists"] (spM K cm m_Catalog___init__)) (mk_Catalog : L2.Mk K (cm "Catalog") f_Catalog___init__) (b_Catalog___init___0 : Binds K fd_Catalog___init__ ["self", "lists"] []) {f_PartsList___init__ : Addr} {fd_PartsList___init__ : FuncData} (G_PartsList___init__ : FnOk P w K mg base CX0 4 f_PartsList___init__ fd_PartsList___init__ ["self", "places"] (spM K cm m_PartsList___init__)) (mk_PartsList : L2.Mk K (cm "PartsList") f_PartsList___init__) (b_PartsList___init___0 : Binds K fd_PartsList___init__ ["self", "places"] []) {f_Catalog___contains__ : Addr} {fd_Catalog___contains__ : FuncData} (G_Catalog___contains__ : FnOk P w K mg base CX0 2 f_Catalog___contains__ fd_Catalog___contains__ ["self", "x"] (spM K cm m_Catalog___contains__)) (o_Catalog___contains__ : Own K (cm "Catalog") "__contains__" f_Catalog___contains__) (b_Catalog___contains__ : Binds K fd_Catalog___contains__ ["self", "x"] []) {f_Catalog___len__ : Addr} {fd_Catalog___len__ : FuncData} (G_Catalog___len__ : FnOk P w K mg base CX0 1 f_Catalog___len__ fd_Catalog___len__ ["self"] (spM K cm m_Catalog___len__)) (o_Catalog___len__ : Own K (cm "Catalog") "__len__" f_Catalog___len__) (b_Catalog___len__ : Binds K fd_Catalog___len__ ["self"] []) {f_Catalog_words : Addr} {fd_Catalog_words : FuncData} (G_Catalog_words : FnOk P w K mg base CX0 1 f_Catalog_words fd_Catalog_words ["self"] (spM K cm m_Catalog_words)) (o_Catalog_words : Own K (cm "Catalog") "words" f_Catalog_words) (b_Catalog_words : Binds K fd_Catalog_words ["self"] []) {f__law_told : Addr} {fd__law_told : FuncData} (G__law_told : FnOk P w K mg base CX0 15 f__law_told fd__law_told ["_law_catalog", "_law_word"] (spM K cm m__law_told)) (g__law_told : mg "_law_told" = some (.ref f__law_told)) (k__law_told : PySem.W.keepIn K (.ref f__law_told) = true) (b__law_told : Binds K fd__law_told ["_law_catalog", "_law_word"] []) {f__law_opened : Addr} {fd__law_opened : FuncData} (G__law_opened : FnOk P w K mg base CX0 12 f__law_opened fd__law_opened ["_law_lists", "_law_word", "_law_number"] (spM K cm m__law_opened)) (g__law_opened : mg "_law_opened" = some (.ref f__law_opened)) (k__law_opened : PySem.W.keepIn K (.ref f__law_opened) = true) (b__law_opened : Binds K fd__law_opened ["_law_lists", "_law_word", "_law_number"] []) {f_Catalog___getitem__ : Addr} {fd_Catalog___getitem__ : FuncData} (G_Catalog___getitem__ : FnOk P w K mg base CX0 2 f_Catalog___getitem__ fd_Catalog___getitem__ ["self", "at"] (spM K cm m_Catalog___getitem__)) (o_Catalog___getitem__ : Own K (cm "Catalog") "__getitem__" f_Catalog___getitem__) (b_Catalog___getitem__ : Binds K fd_Catalog___getitem__ ["self", "at"] []) {f_PartsList___eq__ : Addr} {fd_PartsList___eq__ : FuncData} (G_PartsList___eq__ : FnOk P w K mg base CX0 1 f_PartsList___eq__ fd_PartsList___eq__ ["self", "other"] (spM K cm m_PartsList___eq__)) (o_PartsList___eq__ : Own K (cm "PartsList") "__eq__" f_PartsList___eq__) (b_PartsList___eq__ : Binds K fd_PartsList___eq__ ["self", "other"] []) :
    FnOk P w K mg base CX0 16 f fd ["_law_script"] (spM K cm m_law) :=
  efn F sc_law fun cdv A outer s H E hr => (rss_cons (rs_asg (vs := [1]) (re_lst (ra_cons (re_str) (ra_cons (re_str) (ra_cons (re_str) (ra_cons (re_str) ra_nil))))) (rg_name 1 sc_law.nd))
    (rss_cons (rs_for (vs := [2]) PassesOwn.never rfl (ri_rng1 z_range (re_callB (call_max2 rfl) wMax z_max (ra_cons (re_int) (ra_cons (re_callB (call_min2 rfl) wMin z_min (ra_cons (re_callB oLen wLen z_len (ra_cons (re_var 0) ra_nil)) (ra_cons (re_int) ra_nil))) ra_nil)))) (rg_name 2 sc_law.nd) (rss_cons (rs_asg (vs := [3]) (re_call G__law_pool (hr.mono (by decide)) g__law_pool k__law_pool b__law_pool (ra_cons (re_var 0) (ra_cons (re_var 2) ra_nil))) (rg_name 3 sc_law.nd))
    (rss_cons (rs_asg (vs := [4]) (re_dnew) (rg_name 4 sc_law.nd))
    (rss_cons (rs_for (vs := [5, 6]) PassesOwn.never rfl (ri_enum z_enumerate (re_var 1)) (rg_tup rfl (rgs_cons (rg_name 5 sc_law.nd) (rgs_cons (rg_name 6 sc_law.nd) rgs_nil))) (rss_cons (rs_asg (vs := [7]) (re_lst ra_nil) (rg_name 7 sc_law.nd))
    (rss_cons (rs_for (vs := [8]) PassesOwn.never rfl (ri_any (re_sl (re_lst (ra_cons (re_str) (ra_cons (re_str) (ra_cons (re_str) ra_nil)))) ro_no (ro_so (re_op oAdd wAdd (re_int) (re_call G__law_draw (hr.mono (by decide)) g__law_draw k__law_draw b__law_draw (ra_cons (re_var 3) (ra_cons (re_int) ra_nil))))))) (rg_name 8 sc_law.nd) (rss_cons (rs_asg (vs := [9]) (re_op oAdd wAdd (re_int) (re_call G__law_draw (hr.mono (by decide)) g__law_draw k__law_draw b__law_draw (ra_cons (re_var 3) (ra_cons (re_int) ra_nil)))) (rg_name 9 sc_law.nd))
    (rss_cons (rs_asg (vs := [10, 11]) (re_tup (ra_cons (re_call G__law_pick (hr.mono (by decide)) g__law_pick k__law_pick b__law_pick (ra_cons (re_var 3) (ra_cons (re_op oAdd wAdd (re_lst (ra_cons (re_str) (ra_cons (re_str) ra_nil))) (re_sl (re_var 1) (ro_so (re_op oAdd wAdd (re_var 5) (re_int))) ro_no)) ra_nil))) (ra_cons (re_call G__law_pick (hr.mono (by decide)) g__law_pick k__law_pick b__law_pick (ra_cons (re_var 3) (ra_cons (re_lst (ra_cons (re_non) (ra_cons (re_int) (ra_cons (re_var 9) ra_nil)))) ra_nil))) ra_nil))) (rg_tup rfl (rgs_cons (rg_name 10 sc_law.nd) (rgs_cons (rg_name 11 sc_law.nd) rgs_nil))))
    (rss_one (rs_expr (re_append (re_var 7) (re_tup (ra_cons (re_var 8) (ra_cons (re_var 10) (ra_cons (re_var 9) (ra_cons (re_var 11) ra_nil)))))))))))
    (rss_one (rs_dput (hu_of hr) (re_var 4) (re_var 6) (re_var 7))))))
    (rss_cons (rs_asg (vs := [12]) (re_make (dvs := []) mk_Catalog G_Catalog___init__ (hr.mono (by decide)) k_Catalog.gl b_Catalog___init___0 .nil rels_nil (ra_cons (re_callTy (call_dictP rfl) wDict z_dict (ra_cons (re_lc [("_law_name", 6)] rfl sc_law.nd (ri_any (re_var 1)) (N0 := ["_law_script", "_law_names", "_law_k", "_law_pool_here", "_law_lists", "_law_at", "_law_name", "_law_rows", "_law_word", "_law_number", "_law_plain", "_law_share", "_law_catalog", "_law_deep", "_law_due", "_law_row"]) (sc0 := defScope s_law) (by decide +kernel) (fun _ _ _ _ _ => (rg_name 6 sc_law.nd)) (fun _ _ _ _ _ => (re_tup (ra_cons (re_var 6) (ra_cons (re_make (dvs := []) mk_PartsList G_PartsList___init__ (hr.mono (by decide)) k_PartsList.gl b_PartsList___init___0 .nil rels_nil (ra_cons (re_dsub (hu_of hr) (re_var 4) (re_var 6)) ra_nil)) ra_nil))))) ra_nil)) ra_nil)) (rg_name 12 sc_law.nd))
    (rss_cons (rs_if (rw_t (rt_or (rt_cmp (op_neD hr.units) wNe (re_meth0 k_Catalog.cl o_Catalog_words.meth G_Catalog_words (hr.mono (by decide)) b_Catalog_words .nil rels_nil (re_var 12)) (re_var 1)) (rt_or (rt_cmp (op_neD hr.units) wNe (re_callB (cr_lenO G_Catalog___len__ (hr.mono (by decide)) b_Catalog___len__ o_Catalog___len__.at_ o_Catalog___len__.fn) wLenO z_len (ra_cons (re_var 12) ra_nil)) (re_int)) (rt_or (rt_cmp (op_ownIn G_Catalog___contains__ (hr.mono (by decide)) b_Catalog___contains__ o_Catalog___contains__.at_ o_Catalog___contains__.fn) wOwnIn (re_str) (re_var 12)) (rt_or1 (rt_cmp (op_ownIn G_Catalog___contains__ (hr.mono (by decide)) b_Catalog___contains__ o_Catalog___contains__.at_ o_Catalog___contains__.fn) wOwnIn (re_int) (re_var 12))))))) (rss_one (rs_ret (re_bl))) rss_nil)
    (rss_cons (rs_asg (vs := [13]) (re_dnew) (rg_name 13 sc_law.nd))
    (rss_cons (rs_for (vs := [5]) PassesOwn.never rfl (ri_rng1 z_range (re_int)) (rg_name 5 sc_law.nd) (rss_cons (rs_asg (vs := [10]) (re_if (rt_cmp oLt wCmp (re_var 5) (re_int)) (re_ix (re_str) (re_op oAdd wAdd (re_var 5) (re_int))) (re_str)) (rg_name 10 sc_law.nd))
    (rss_one (rs_dput (hu_of hr) (re_var 13) (re_ix (re_str) (re_var 5)) (re_make (dvs := []) mk_PartsList G_PartsList___init__ (hr.mono (by decide)) k_PartsList.gl b_PartsList___init___0 .nil rels_nil (ra_cons (re_lc [("_law_word", 8)] rfl sc_law.nd (ri_any (re_str)) (N0 := ["_law_script", "_law_names", "_law_k", "_law_pool_here", "_law_lists", "_law_at", "_law_name", "_law_rows", "_law_word", "_law_number", "_law_plain", "_law_share", "_law_catalog", "_law_deep", "_law_due", "_law_row"]) (sc0 := defScope s_law) (by decide +kernel) (fun _ _ _ _ _ => (rg_name 8 sc_law.nd)) (fun _ _ _ _ _ => (re_tup (ra_cons (re_var 8) (ra_cons (re_var 10) (ra_cons (re_int) (ra_cons (re_non) ra_nil))))))) ra_nil))))))
    (rss_cons (rs_if (rw_t (rt_or (rt_cmp (op_neD hr.units) wNe (re_call G__law_told (hr.mono (by decide)) g__law_told k__law_told b__law_told (ra_cons (re_make (dvs := []) mk_Catalog G_Catalog___init__ (hr.mono (by decide)) k_Catalog.gl b_Catalog___init___0 .nil rels_nil (ra_cons (re_var 13) ra_nil)) (ra_cons (re_str) ra_nil))) (re_int)) (rt_or1 (rt_cmp (op_eqD hr.units) wEq (re_call G__law_told (hr.mono (by decide)) g__law_told k__law_told b__law_told (ra_cons (re_make (dvs := []) mk_Catalog G_Catalog___init__ (hr.mono (by decide)) k_Catalog.gl b_Catalog___init___0 .nil rels_nil (ra_cons (re_var 13) ra_nil)) (ra_cons (re_str) ra_nil))) (re_int))))) (rss_one (rs_ret (re_bl))) rss_nil)
    (rss_one (rs_for (vs := [6]) PassesOwn.never rfl (ri_any (re_var 1)) (rg_name 6 sc_law.nd) (rss_cons (rs_asg (vs := [7]) (re_call G__law_opened (hr.mono (by decide)) g__law_opened k__law_opened b__law_opened (ra_cons (re_var 4) (ra_cons (re_var 6) (ra_cons (re_int) ra_nil)))) (rg_name 7 sc_law.nd))
    (rss_cons (rs_setLc [("_law_at", 5), ("_law_row", 15)] rfl sc_law.nd (ri_enum z_enumerate (re_sl (re_var 7) ro_no (ro_so (re_int)))) (N0 := ["_law_script", "_law_names", "_law_k", "_law_pool_here", "_law_lists", "_law_at", "_law_name", "_law_rows", "_law_word", "_law_number", "_law_plain", "_law_share", "_law_catalog", "_law_deep", "_law_due", "_law_row"]) (sc0 := defScope s_law) (by decide +kernel) (fun _ _ _ _ _ => (rg_tup rfl (rgs_cons (rg_name 5 sc_law.nd) (rgs_cons (rg_name 15 sc_law.nd) rgs_nil)))) (fun _ _ _ _ _ => (re_tup (ra_cons (re_ix (re_str) (re_var 5)) (ra_cons (re_ix (re_var 15) (re_int)) (ra_cons (re_ix (re_var 15) (re_int)) (ra_cons (re_ix (re_var 15) (re_int)) ra_nil)))))))
    (rss_cons (rs_asg (vs := [14]) (re_if (rt_cmp oGt wCmp (re_callB oLen wLen z_len (ra_cons (re_var 7) ra_nil)) (re_int)) (re_int) (re_var 14)) (rg_name 14 sc_law.nd))
    (rss_one (rs_if (rw_t (rt_or (rt_cmp (op_neD hr.units) wNe (re_call G__law_told (hr.mono (by decide)) g__law_told k__law_told b__law_told (ra_cons (re_var 12) (ra_cons (re_var 6) ra_nil))) (re_var 14)) (rt_or (rt_cmp (op_ownNe (tys := allTys) G_PartsList___eq__ (hr.mono (by decide)) b_PartsList___eq__ o_PartsList___eq__.at_ o_PartsList___eq__.fn k_PartsList.ne k_PartsList.ob k_PartsList.nf) wOwnNe (re_ixO G_Catalog___getitem__ (hr.mono (by decide)) b_Catalog___getitem__ o_Catalog___getitem__.at_ o_Catalog___getitem__.fi o_Catalog___getitem__.fn (re_var 12) (re_var 6)) (re_make (dvs := []) mk_PartsList G_PartsList___init__ (hr.mono (by decide)) k_PartsList.gl b_PartsList___init___0 .nil rels_nil (ra_cons (re_dsub (hu_of hr) (re_var 4) (re_var 6)) ra_nil))) (rt_or1 (rt_cmp (op_ownNotIn G_Catalog___contains__ (hr.mono (by decide)) b_Catalog___contains__ o_Catalog___contains__.at_ o_Catalog___contains__.fn) wOwnIn (re_var 6) (re_var 12)))))) (rss_one (rs_ret (re_bl))) rss_nil))))))))))))))))
    (rss_one (rs_ret (re_bl)))))
abbrev s_TooMany___init__ : Stmt := inCls (topS 8) 0
theorem sc_TooMany___init__ : FnScope ["self", "limit"] ["self", "limit"] (defScope s_TooMany___init__) := ⟨rfl, rfl, rfl, by decide +kernel, rfl, by decide +kernel, by decide +kernel⟩
abbrev s_BadPlace___init__ : Stmt := inCls (topS 3) 0
theorem sc_BadPlace___init__ : FnScope ["self", "index"] ["self", "index"] (defScope s_BadPlace___init__) := ⟨rfl, rfl, rfl, by decide +kernel, rfl, by decide +kernel, by decide +kernel⟩
theorem mw : m_is_word = cIsWord := rfl
theorem mi : m_is_integer = cIsInteger := rfl
abbrev Pl := Str × Str × Int × Option Int
def sW : Option Int → W
  | none => .non
  | some k => .int k
def rowW (p : Pl) : W := .tup [.str p.1, .str p.2.1, .int p.2.2.1, sW p.2.2.2]
structure GoodP (p : Pl) : Prop where
  w : isw p.1 = true
  pl : isw p.2.1 = true
  n1 : 1 ≤ p.2.2.1
  n2 : p.2.2.1 ≤ 999
  sh : ∀ k, p.2.2.2 = some k → 0 ≤ k ∧ k ≤ p.2.2.1
theorem isw_lim {x : Str} (h : isw x = true) : x.length ≤ lim := by
  unfold isw at h
  rw [Bool.and_eq_true, Bool.and_eq_true] at h
  have := of_decide_eq_true h.1.2
  unfold lim
  omega
/-- the answer is so, and the heap has only grown -/
def Gv (v : W) (h : Hw) : W → Hw → Prop := fun r h' => r = v ∧ h <+: h'
theorem is_word_ok {x : Str} {h : Hw} {b : Bool} (hb : isw x = b) (hl : x.length ≤ lim) : Ok (m_is_word [.str x]) h (Gv (.bl b) h) := by
  rw [mw]
  exact word_ok hl fun g => ⟨by rw [hb], List.prefix_append _ _⟩
theorem is_place_ok {p : Pl} {h : Hw} (g : GoodP p) : Ok (m_is_place [rowW p]) h (Gv (.bl true) h) := by
  obtain ⟨a, b, n, s⟩ := p
  unfold m_is_place rowW
  walk_at "okF"
  refine ⟨"tuple", true, rfl, by decide +kernel, ?_⟩
  walk_at "ok"
  refine eq_int ?_
  refine ⟨false, by rfl, ?_⟩
  walk_at "ok"
  refine ok_gTu rfl ?_
  walk_at "ok"
  refine (is_word_ok g.w (isw_lim g.w)).imp fun r h1 q => ?_
  obtain ⟨rfl, p1⟩ := q
  walk_at "ok"
  refine (is_word_ok g.pl (isw_lim g.pl)).imp fun r h2 q => ?_
  obtain ⟨rfl, p2⟩ := q
  walk_at "ok"
  rw [mi]
  refine int_ok ?_
  rw [decide_eq_true ⟨g.n1, g.n2⟩]
  walk_at "ok"
  cases s with
  | none =>
    refine ok_isNN ?_
    walk_at "ok"
    exact ⟨rfl, p1.trans p2⟩
  | some k =>
    refine ok_isN (fun z => by cases z) ?_
    refine ⟨false, rfl, fun z => (by cases z), fun _ => ?_⟩
    walk_at "ok"
    refine int_ok ?_
    rw [decide_eq_true (g.sh k rfl)]
    exact ⟨rfl, p1.trans p2⟩
/-- v is a list or a tuple of xs -/
def Sq (h : Hw) (v : W) (xs : List W) : Prop := (∃ L, v = .ref L ∧ h[L]? = some (.lst xs)) ∨ v = .tup xs
theorem Sq.mono {h h' : Hw} {v : W} {xs : List W} (s : Sq h v xs) (p : h <+: h') : Sq h' v xs := by
  rcases s with ⟨L, rfl, e⟩ | rfl
  · exact .inl ⟨L, rfl, Pre.get p e⟩
  · exact .inr rfl
theorem Sq.ty {h : Hw} {v : W} {xs : List W} (s : Sq h v xs) : ∃ n k l, tyName h v = some n ∧ kitB n "list" = some k ∧ kitB n "tuple" = some l ∧ (k || l) = true := by
  rcases s with ⟨L, rfl, e⟩ | rfl
  · exact ⟨"list", true, false, by unfold tyName; simp only [e], by decide +kernel, by decide +kernel, rfl⟩
  · exact ⟨"tuple", false, true, rfl, by decide +kernel, by decide +kernel, rfl⟩
theorem Sq.len {h : Hw} {v : W} {xs : List W} {P : W → Hw → Prop} (s : Sq h v xs) (p : P (.int xs.length) h) : Ok (bLen [v]) h P := by
  rcases s with ⟨L, rfl, e⟩ | rfl
  · exact ok_lenL e p
  · exact ok_lenT p
theorem ok_enuSq {a : ME} {sw : SW} {h h0 : Hw} {PI : Src × Nat → Hw → Prop} (o : Ok (a sw) h fun x h1 => ∃ xs, Sq h0 x xs ∧ h0 <+: h1 ∧ ∀ src : Src, (∀ i h2, h0 <+: h2 → src.item i h2 = some (xs[i]?.map fun x => .tup [.int i, x])) → PI (src, xs.length) h1) : Ok (iEnu a sw) h PI := by
  refine ok_bnd (o.imp fun x h1 o => ?_)
  obtain ⟨xs, s, p0, k⟩ := o
  rcases s with ⟨L, rfl, e⟩ | rfl
  · refine ⟨(.enu L, xs.length), h1, by simp only [Pre.get p0 e], k _ fun i h2 p => ?_⟩
    unfold Src.item
    simp only [Pre.get p e]
  · exact ⟨(.enuT xs, xs.length), h1, rfl, k _ fun i h2 p => rfl⟩
theorem ok_anySq {a : ME} {sw : SW} {h h0 : Hw} {PI : Src × Nat → Hw → Prop} (o : Ok (a sw) h fun x h1 => ∃ xs, Sq h0 x xs ∧ h0 <+: h1 ∧ ∀ src : Src, (∀ i h2, h0 <+: h2 → src.item i h2 = some xs[i]?) → PI (src, xs.length) h1) : Ok (iAny a sw) h PI := by
  refine ok_bnd (o.imp fun x h1 o => ?_)
  obtain ⟨xs, s, p0, k⟩ := o
  rcases s with ⟨L, rfl, e⟩ | rfl
  · refine ⟨(.lst L, xs.length), h1, by simp only [Pre.get p0 e], k _ fun i h2 p => ?_⟩
    unfold Src.item
    simp only [Pre.get p e]
  · exact ⟨(.tup xs, xs.length), h1, rfl, k _ fun i h2 p => rfl⟩
theorem check_places_ok {ps : List Pl} {v : W} {h : Hw} (sq : Sq h v (ps.map rowW)) (ne : ps ≠ []) (lt : ps.length ≤ 12) (g : ∀ p ∈ ps, GoodP p) (nd : (ps.map (·.1)).Nodup) : Ok (m_check_places [v]) h (Gv .non h) := by
  obtain ⟨n, k, l, e1, e2, e3, e4⟩ := sq.ty
  have hl : 0 < ps.length := List.length_pos_iff.mpr ne
  unfold m_check_places
  walk_at "okF"
  refine ok_isi2 ?_
  walk_at "ok"
  refine ⟨n, k, l, e1, e2, e3, ?_⟩
  rw [e4]
  walk_at "ok"
  refine sq.len ?_
  walk_at "ok"
  refine eq_int ?_
  rw [decide_eq_false (by rw [List.length_map]; omega)]
  refine ⟨false, by rfl, ?_⟩
  walk_at "ok"
  refine ok_set0 ?_
  walk_at "ok"
  refine ok_enuSq (h0 := h) ?_
  walk_at "ok"
  refine ⟨_, sq, List.prefix_append _ _, fun src hsrc => ?_⟩
  refine ok_sFor (fun i sw hc => (∃ a b, sw = [some v, some (.ref h.length), a, b]) ∧ h <+: hc ∧ hc[h.length]? = some (.st ((ps.take i).map (·.1)).reverse)) (n := ps.length) _ (by rw [List.length_map]; exact Nat.le_refl _) ⟨⟨_, _, rfl⟩, List.prefix_append _ _, by simp⟩ (fun i sw hc hi q => ?_) (fun sw hc q => ?_)
  · obtain ⟨⟨a, b, rfl⟩, pre, est⟩ := q
    have hmem : ps[i] ∈ ps := List.getElem_mem hi
    refine ⟨.tup [.int i, rowW ps[i]], by rw [hsrc i hc pre, List.getElem?_map, List.getElem?_eq_getElem hi]; rfl, ?_⟩
    refine ok_gTu rfl ?_
    walk_at "ok"
    refine (is_place_ok (g _ hmem)).imp fun r h1 q => ?_
    obtain ⟨rfl, p1⟩ := q
    have est1 := Pre.get p1 est
    have hnot : (((ps.take i).map (·.1)).reverse).contains ps[i].1 = false := by
      rw [List.contains_eq_mem, decide_eq_false]
      intro hm
      rw [List.mem_reverse, List.mem_map] at hm
      obtain ⟨p, hp, e⟩ := hm
      obtain ⟨j, hj, ej⟩ := List.mem_take_iff_getElem.mp hp
      have hj' : j < ps.length := by omega
      have : j = i := (List.getElem?_inj (l := ps.map (·.1)) (by rw [List.length_map]; exact hj') nd).mp (by rw [List.getElem?_map, List.getElem?_map, List.getElem?_eq_getElem hj', List.getElem?_eq_getElem hi, Option.map_some, Option.map_some, ej, e])
      omega
    walk_at "ok"
    refine ok_ixT atI_0 ?_
    walk_at "ok"
    refine ok_inS est1 ?_
    rw [hnot]
    walk_at "ok"
    refine okBF rfl ?_
    walk_at "ok"
    refine ok_sAdd ?_
    walk_at "ok"
    refine ⟨h.length, _, rfl, est1, ?_⟩
    walk_at "ok"
    refine ok_ixT atI_0 ?_
    refine ⟨_, _, rfl, est1, by simp; omega, ?_⟩
    refine ⟨⟨_, _, rfl⟩, Pre.set (pre.trans p1) (Nat.le_refl _) _, ?_⟩
    rw [get_set est1, List.take_add_one, List.getElem?_eq_getElem hi, List.map_append, List.reverse_append]
    rfl
  · obtain ⟨⟨a, b, rfl⟩, pre, est⟩ := q
    refine ⟨by rw [hsrc ps.length hc pre, List.getElem?_map, List.getElem?_eq_none (Nat.le_refl _)]; rfl, ?_⟩
    walk_at "ok"
    refine (sq.mono pre).len ?_
    walk_at "ok"
    rw [decide_eq_false (by rw [List.length_map]; omega)]
    walk_at "ok"
    exact ⟨rfl, pre⟩

/-! ### lists of parts -/
def plF (ps : List Pl) : O := .ins "PartsList" [("_places", .tup (ps.map rowW))]
def IsP (h : Hw) (w : W) (ps : List Pl) : Prop := ∃ p, w = .ref p ∧ h[p]? = some (plF ps)
theorem IsP.mono {h h' : Hw} {w : W} {ps : List Pl} (s : IsP h w ps) (p : h <+: h') : IsP h' w ps := by
  obtain ⟨q, rfl, e⟩ := s
  exact ⟨q, rfl, Pre.get p e⟩
/-- right places -/
structure GoodL (ps : List Pl) : Prop where
  ne : ps ≠ []
  lt : ps.length ≤ 12
  g : ∀ p ∈ ps, GoodP p
  nd : (ps.map (·.1)).Nodup
theorem init_ok {ps : List Pl} {v : W} {h : Hw} (sq : Sq h v (ps.map rowW)) (gl : GoodL ps) : Ok (m_PartsList___init__ [.ref h.length, v]) (h ++ [.ins "PartsList" []]) fun u h2 => u = .non ∧ ∃ g, h2 = h ++ plF ps :: g := by
  unfold m_PartsList___init__
  walk_at "okF"
  refine (check_places_ok (sq.mono (List.prefix_append _ _)) gl.ne gl.lt gl.g gl.nd).imp fun r h1 q => ?_
  obtain ⟨rfl, p1⟩ := q
  walk_at "ok"
  refine ok_sFld ?_
  walk_at "ok"
  have p2 : h <+: h1 := (List.prefix_append _ _).trans p1
  have lh : h.length < h1.length := by
    have := p1.length_le
    rw [List.length_append] at this
    have e1 : [O.ins "PartsList" []].length = 1 := rfl
    omega
  have ei : h1[h.length]? = some (.ins "PartsList" []) := Pre.get p1 (by simp)
  refine ok_mLc (fun i acc h' => acc = (ps.take i).map rowW ∧ h' = h1 ++ [.lst acc]) h1.length (ok_anySq (h0 := h) ?_)
  walk_at "ok"
  refine ⟨_, sq, p2, fun src hsrc => ⟨rfl, ⟨rfl, rfl⟩, fun i acc h' hi q hD => ?_, fun acc h' q hD => ?_⟩⟩
  · obtain ⟨qa, qh⟩ := q
    have hi' : i < ps.length := by simpa using hi
    refine ⟨rowW ps[i], by rw [hsrc i h' (by rw [qh]; exact p2.trans (List.prefix_append _ _)), List.getElem?_map, List.getElem?_eq_getElem hi']; rfl, ?_⟩
    change Ok (gTu _ _ _ [some (W.ref h.length), some v, none, none, none, none]) _ _
    refine ok_gTu rfl ?_
    walk_at "ok"
    refine ok_rtn (okT ?_)
    walk_at "ok"
    refine ⟨hD, by rw [qa, List.length_map, List.length_take]; have := gl.lt; unfold lim; omega, by rw [qa, List.take_add_one, List.getElem?_eq_getElem hi', List.map_append]; rfl, ?_⟩
    rw [qh, List.set_append_right _ _ (Nat.le_refl _), Nat.sub_self]
    rfl
  · obtain ⟨qa, qh⟩ := q
    have e := hsrc ps.length h' (by rw [qh]; exact p2.trans (List.prefix_append _ _))
    refine ⟨by show src.item (ps.map rowW).length h' = _; rw [List.length_map, e, List.getElem?_map, List.getElem?_eq_none (Nat.le_refl _)]; rfl, ?_⟩
    have qa' : acc = ps.map rowW := by
      have : (ps.map rowW).length = ps.length := List.length_map ..
      rw [qa]
      show ((ps.take (ps.map rowW).length).map rowW) = _
      rw [this, List.take_length]
    subst qa'
    walk_at "ok"
    refine ok_tup1 (xs := ps.map rowW) (by unfold items; simp only [hD]) ?_
    walk_at "ok"
    have ei2 : h'[h.length]? = some (.ins "PartsList" []) := by rw [qh]; exact get_app ei
    refine ⟨h.length, [], rfl, ei2, by simp, rfl, ?_⟩
    obtain ⟨g, rfl⟩ := p1
    rw [qh, List.append_assoc, List.append_assoc, List.set_append_right _ _ (Nat.le_refl _), Nat.sub_self]
    exact ⟨_, rfl⟩
/-- PartsList(v) -/
theorem make_ok {ps : List Pl} {sw : SW} {mr : MA} {h : Hw} {P : W → Hw → Prop} (gl : GoodL ps) (o : Ok (mr sw) h fun ws h1 => ∃ v, ws = [v] ∧ Sq h1 v (ps.map rowW) ∧ ∀ h2, h1 <+: h2 → h2[h1.length]? = some (plF ps) → P (.ref h1.length) h2) : Ok (mMake "PartsList" m_PartsList___init__ [] mr sw) h P := by
  refine ok_make (o.imp fun ws h1 o => ?_)
  obtain ⟨v, rfl, sq, k⟩ := o
  refine (init_ok sq gl).imp fun u h2 q => ?_
  obtain ⟨rfl, g, rfl⟩ := q
  exact ⟨rfl, k _ (List.prefix_append _ _) (by simp)⟩
def wds (ps : List Pl) : List Str := ps.map (·.1)
theorem isP_ins {h : Hw} {w : W} {ps : List Pl} (s : IsP h w ps) : insB h w "PartsList" = true := by
  obtain ⟨p, rfl, e⟩ := s
  unfold insB
  simp only [e, plF]
  decide +kernel
theorem isi_t {a : ME} {sw : SW} {h : Hw} {P : W → Hw → Prop} (o : Ok (a sw) h fun y h1 => (∃ ps, IsP h1 y ps) ∧ P (.bl true) h1) : Ok (mIsiC [("PartsList", true)] allTys a sw) h P :=
  ok_isiT (q := ("PartsList", true)) (o.imp fun y h1 q => by
    obtain ⟨⟨ps, s⟩, p⟩ := q
    refine ⟨?_, p⟩
    simp only [List.find?_cons, isP_ins s])
def NoP (h : Hw) (w : W) : Prop := insB h w "PartsList" = false ∧ tyIn h w allTys = true
theorem isi_f {a : ME} {sw : SW} {h : Hw} {P : W → Hw → Prop} (o : Ok (a sw) h fun y h1 => NoP h1 y ∧ P (.bl false) h1) : Ok (mIsiC [("PartsList", true)] allTys a sw) h P :=
  ok_isiF (o.imp fun y h1 q => by
    obtain ⟨s, p⟩ := q
    exact ⟨by simp only [List.find?_cons, s.1, List.find?_nil], s.2, p⟩)
theorem noP_lst {h : Hw} {L : Nat} {xs : List W} (e : h[L]? = some (.lst xs)) : NoP h (.ref L) := by
  refine ⟨by unfold insB; simp only [e], ?_⟩
  unfold tyIn tyName
  simp only [e]
  decide
theorem noP_non {h : Hw} : NoP h .non := ⟨rfl, by show allTys.contains "NoneType" = true; decide⟩
theorem noP_int {h : Hw} {i : Int} : NoP h (.int i) := ⟨rfl, by show allTys.contains "int" = true; decide⟩
theorem noP_str {h : Hw} {x : Str} : NoP h (.str x) := ⟨rfl, by show allTys.contains "str" = true; decide⟩
theorem insP {h : Hw} {p : Nat} {qs : List Pl} (e : h[p]? = some (plF qs)) : insB h (.ref p) "PartsList" = true := isP_ins ⟨p, rfl, e⟩
theorem places_fld {h : Hw} {p : Nat} {ps : List Pl} (e : h[p]? = some (plF ps)) : fldOf h (.ref p) "PartsList" "_places" = some (.tup (ps.map rowW)) := by
  unfold fldOf
  simp only [e, plF]
  rfl
theorem pl_lk {w : W} {m : Str} (hm : (m == (Str.ofString "_places")) = false) : ([(Str.ofString "_places", w)] : List (Str × W)).lookup m = none := by
  unfold List.lookup
  rw [hm]
  rfl
/-! ### rows as data -/
def shD : Option Int → PyData
  | none => .none
  | some k => .int k
def rowD (p : Pl) : PyData := .tuple [.str p.1, .str p.2.1, .int p.2.2.1, shD p.2.2.2]
theorem toD_row (h : Hw) (p : Pl) : toD h 7 (rowW p) = some (rowD p) := by
  obtain ⟨a, b, n, s⟩ := p
  cases s <;> rfl
theorem toD_row8 (h : Hw) (p : Pl) : toD h 8 (rowW p) = some (rowD p) := by
  obtain ⟨a, b, n, s⟩ := p
  cases s <;> rfl
theorem mapO_rows (h : Hw) : ∀ ps : List Pl, mapO (toD h 7) (ps.map rowW) = some (ps.map rowD)
  | [] => rfl
  | p :: r => by
    rw [List.map_cons]
    unfold mapO
    rw [mapO_rows h r, toD_row]
    rfl
theorem toD_rowsL {h : Hw} {L : Nat} {ps : List Pl} (e : h[L]? = some (.lst (ps.map rowW))) : toD h 8 (.ref L) = some (.list (ps.map rowD)) := by
  show (match h[L]? with
    | some (.lst xs) => (mapO (toD h 7) xs).map PyData.list
    | _ => none) = _
  rw [e]
  simp only [mapO_rows]
  rfl
theorem toD_rowsT {h : Hw} {ps : List Pl} : toD h 8 (.tup (ps.map rowW)) = some (.tuple (ps.map rowD)) := by
  show (mapO (toD h 7) (ps.map rowW)).map PyData.tuple = _
  rw [mapO_rows]
  rfl
def OkW (p : Pl) : Prop := isw p.1 = true ∧ isw p.2.1 = true
theorem GoodP.w2 {p : Pl} (g : GoodP p) : OkW p := ⟨g.w, g.pl⟩
theorem lay_row {p : Pl} (g : OkW p) : PyData.canLay0 (rowD p) = true ∧ PyData.depth (rowD p) = 1 := by
  obtain ⟨a, b, n, s⟩ := p
  have ha := isw_ok g.1
  have hb := isw_ok g.2
  cases s <;> simp [rowD, shD, PyData.canLay0, PyData.canLayAll0, PyData.depth, PyData.depthAll] <;> exact ⟨ha, hb⟩
theorem lay_rows : ∀ {ps : List Pl}, (∀ p ∈ ps, OkW p) → PyData.canLayAll0 (ps.map rowD) = true ∧ PyData.depthAll (ps.map rowD) ≤ 1
  | [], _ => ⟨rfl, Nat.zero_le _⟩
  | p :: r, g => by
    obtain ⟨a, b⟩ := lay_rows (ps := r) fun q hq => g q (List.mem_cons_of_mem _ hq)
    obtain ⟨c, d⟩ := lay_row (g p (List.mem_cons_self ..))
    rw [List.map_cons]
    refine ⟨?_, ?_⟩
    · unfold PyData.canLayAll0
      rw [a, c]
      rfl
    · unfold PyData.depthAll
      rw [d]
      exact Nat.max_le.mpr ⟨Nat.le_refl _, b⟩
theorem shp {d : PyData} (c : PyData.canLay0 d = true) (l : PyData.depth d ≤ 64) : SeqAt.shaped d = true := by
  unfold SeqAt.shaped
  rw [c, decide_eq_true l]
  rfl
theorem lay_list {ps : List Pl} (g : ∀ p ∈ ps, OkW p) : PyData.canLay0 (.list (ps.map rowD)) = true ∧ PyData.depth (.list (ps.map rowD)) ≤ 64 := by
  obtain ⟨a, b⟩ := lay_rows g
  exact ⟨by unfold PyData.canLay0; exact a, by unfold PyData.depth; omega⟩
theorem lay_tup {ps : List Pl} (g : ∀ p ∈ ps, OkW p) : PyData.canLay0 (.tuple (ps.map rowD)) = true ∧ PyData.depth (.tuple (ps.map rowD)) ≤ 64 := by
  obtain ⟨a, b⟩ := lay_rows g
  exact ⟨by unfold PyData.canLay0; exact a, by unfold PyData.depth; omega⟩
theorem eq_data {neg : Bool} {h : Hw} {x y : W} {d : PyData} {P : W → Hw → Prop} (e1 : toD h 8 x = some d) (e2 : toD h 8 y = some d) (c : PyData.canLay0 d = true ∧ PyData.depth d ≤ 64) (k : P (.bl (neg != true)) h) : Ok (fEq neg x y) h P :=
  ok_eq e1 e2 (by rw [shp c.1 c.2]; rfl) (by rw [PySem.SeqAt.eqv_refl d c.1]; exact k)
theorem eq_rowsL {neg : Bool} {h : Hw} {p q : Nat} {ps : List Pl} {P : W → Hw → Prop} (g : ∀ p ∈ ps, OkW p) (e1 : h[p]? = some (.lst (ps.map rowW))) (e2 : h[q]? = some (.lst (ps.map rowW))) (k : P (.bl (neg != true)) h) : Ok (fEq neg (.ref p) (.ref q)) h P :=
  eq_data (toD_rowsL e1) (toD_rowsL e2) (lay_list g) k
theorem eq_str {neg : Bool} {h : Hw} {a b : Str} {P : W → Hw → Prop} (ha : PyData.strOk a = true) (hb : PyData.strOk b = true) (k : P (.bl (neg != decide (a = b))) h) : Ok (fEq neg (.str a) (.str b)) h P :=
  ok_eq rfl rfl (by rw [shp (d := .str a) (by unfold PyData.canLay0; exact ha) (by unfold PyData.depth; omega), shp (d := .str b) (by unfold PyData.canLay0; exact hb) (by unfold PyData.depth; omega)]; rfl) (by
    have e : PyData.eqv (.str a) (.str b) = decide (a = b) := by
      unfold PyData.eqv
      by_cases z : a = b
      · subst z; simp
      · rw [decide_eq_false z]; simpa using z
    rw [e]
    exact k)
/-- is_integer says no -/
def NoInt (w : W) (lo hi : Int) : Prop := ∀ h, Ok (m_is_integer [w, .int lo, .int hi]) h fun r h' => r = .bl false ∧ h' = h
theorem noInt_int {i lo hi : Int} (n : ¬ (lo ≤ i ∧ i ≤ hi)) : NoInt (.int i) lo hi := fun h => by
  rw [mi]
  refine int_ok ?_
  rw [decide_eq_false n]
  exact ⟨rfl, rfl⟩
theorem noInt_bl {b : Bool} {lo hi : Int} : NoInt (.bl b) lo hi := fun h => by
  unfold m_is_integer
  walk_at "okF"
  refine ⟨"bool", true, rfl, by decide +kernel, ?_⟩
  walk_at "ok"
  refine ⟨"bool", true, rfl, by decide +kernel, ?_⟩
  walk_at "ok"
  exact ⟨rfl, rfl⟩
theorem noInt_ty {w : W} {n : String} {lo hi : Int} (ty : ∀ h, tyName h w = some n) (k : kitB n "int" = some false) : NoInt w lo hi := fun h => by
  unfold m_is_integer
  walk_at "okF"
  refine ⟨n, false, ty h, k, ?_⟩
  walk_at "ok"
  exact ⟨rfl, rfl⟩
def rowT (k : Int) (p : Pl) : Pl := (p.1, p.2.1, p.2.2.1 * k, p.2.2.2.map (· * k))
structure MulOk (k : Int) (p : Pl) : Prop where
  n : mulOk p.2.2.1 k = true
  s : ∀ s, p.2.2.2 = some s → mulOk s k = true
theorem times_ok {k : Int} {s : Option Int} {h : Hw} (m : ∀ x, s = some x → mulOk x k = true) : Ok (m_times_share [sW s, .int k]) h fun r h' => r = sW (s.map (· * k)) ∧ h' = h := by
  unfold m_times_share
  cases s with
  | none =>
    walk_at "okF"
    refine ok_isNN ?_
    walk_at "ok"
    exact ⟨rfl, rfl⟩
  | some x =>
    walk_at "okF"
    refine ok_isN (fun z => by cases z) ?_
    walk_at "ok"
    refine ok_mulI (m x rfl) ?_
    exact ⟨rfl, rfl⟩
/-! ### the methods -/
section
variable {h : Hw} {p : Nat} {ps : List Pl}
theorem places_ok (e : h[p]? = some (plF ps)) : Ok (m_PartsList_places [.ref p]) h fun r h' => r = .ref h.length ∧ h' = h ++ [.lst (ps.map rowW)] := by
  unfold m_PartsList_places
  walk_at "okF"
  refine ok_fld ?_
  walk_at "ok"
  refine ⟨_, places_fld e, ?_⟩
  walk_at "ok"
  exact ok_list1T ⟨rfl, rfl⟩
theorem self_eq {q : Nat} (g : ∀ p ∈ ps, OkW p) (e : h[p]? = some (plF ps)) (e2 : h[q]? = some (plF ps)) : Ok (m_PartsList___eq__ [.ref p, .ref q]) h fun r h' => r = .bl true ∧ h' = h := by
  unfold m_PartsList___eq__
  walk_at "okF"
  refine isi_t ?_
  walk_at "ok"
  refine ⟨⟨ps, q, rfl, e2⟩, true, rfl, fun _ => ?_, fun z => by cases z⟩
  walk_at "ok"
  refine ok_fld ?_
  walk_at "ok"
  refine ⟨_, places_fld e, ?_⟩
  refine ok_fld ?_
  walk_at "ok"
  refine ⟨_, places_fld e2, ?_⟩
  exact eq_data toD_rowsT toD_rowsT (lay_tup g) ⟨rfl, rfl⟩
theorem not_eq {q : Nat} {a b : Pl} {r s : List Pl} (g : ∀ p ∈ a :: r, OkW p) (g2 : ∀ p ∈ b :: s, OkW p) (ne : a.1 ≠ b.1) (e : h[p]? = some (plF (a :: r))) (e2 : h[q]? = some (plF (b :: s))) : Ok (m_PartsList___eq__ [.ref p, .ref q]) h fun r h' => r = .bl false ∧ h' = h := by
  unfold m_PartsList___eq__
  walk_at "okF"
  refine isi_t ?_
  walk_at "ok"
  refine ⟨⟨_, q, rfl, e2⟩, true, rfl, fun _ => ?_, fun z => by cases z⟩
  walk_at "ok"
  refine ok_fld ?_
  walk_at "ok"
  refine ⟨_, places_fld e, ?_⟩
  refine ok_fld ?_
  walk_at "ok"
  refine ⟨_, places_fld e2, ?_⟩
  refine ok_eq toD_rowsT toD_rowsT (by rw [shp (lay_tup g).1 (lay_tup g).2, shp (lay_tup g2).1 (lay_tup g2).2]; rfl) ?_
  have ev : PyData.eqv (.tuple ((a :: r).map rowD)) (.tuple ((b :: s).map rowD)) = false := by
    rw [List.map_cons, List.map_cons]
    unfold PyData.eqv PyData.eqvAll
    have : PyData.eqv (rowD a) (rowD b) = false := by
      unfold rowD PyData.eqv PyData.eqvAll
      have : PyData.eqv (.str a.1) (.str b.1) = false := by
        unfold PyData.eqv
        simpa using ne
      rw [this]
      rfl
    rw [this]
    rfl
  rw [ev]
  exact ⟨rfl, rfl⟩
theorem eq_other {w : W} (n : NoP h w) : Ok (m_PartsList___eq__ [.ref p, w]) h fun r h' => r = .bl false ∧ h' = h := by
  unfold m_PartsList___eq__
  walk_at "okF"
  refine isi_f ?_
  walk_at "ok"
  refine ⟨n, ?_⟩
  walk_at "ok"
  exact ⟨rfl, rfl⟩
end
theorem item_lst {h : Hw} {g i : Nat} {xs : List W} (e : h[g]? = some (.lst xs)) : (Src.lst g).item i h = some xs[i]? := by
  unfold Src.item
  simp only [e]
/-! ### lists within lists, plainly -/
abbrev Bk := List (Str × List Pl)
def keyIn (B : Bk) (x : Str) : Bool := (B.lookup x).isSome
def rowsOf (B : Bk) (x : Str) : List Pl := (B.lookup x).getD []
abbrev Tr := Str × Int × Option Int
def trW (t : Tr) : W := .tup [.str t.1, .int t.2.1, sW t.2.2]
mutual
def opn (B : Bk) : Nat → Str → Int → List Tr
  | 0, _, _ => []
  | n + 1, x, k => opnL B n k (rowsOf B x)
def opnL (B : Bk) : Nat → Int → List Pl → List Tr
  | _, _, [] => []
  | n, k, p :: r => (if keyIn B p.2.1 then opn B n p.2.1 (k * p.2.2.1) else [(p.2.1, k * p.2.2.1, p.2.2.2.map (· * k))]) ++ opnL B n k r
end
def one1 (B : Bk) (n : Nat) (k : Int) (p : Pl) : List Tr := if keyIn B p.2.1 then opn B n p.2.1 (k * p.2.2.1) else [(p.2.1, k * p.2.2.1, p.2.2.2.map (· * k))]
theorem opnL_snoc {B : Bk} {n : Nat} {k : Int} (ps : List Pl) (p : Pl) : opnL B n k (ps ++ [p]) = opnL B n k ps ++ one1 B n k p := by
  induction ps with
  | nil => simp [opnL, one1]
  | cons q r ih => rw [List.cons_append, opnL, opnL, ih, List.append_assoc]
theorem opnL_le {B : Bk} {n : Nat} {k : Int} {ps qs : List Pl} : (opnL B n k ps).length ≤ (opnL B n k (ps ++ qs)).length := by
  induction ps with
  | nil => simp [opnL]
  | cons q r ih =>
    rw [List.cons_append, opnL, opnL, List.length_append, List.length_append]
    omega
theorem one_le {B : Bk} {n : Nat} {k : Int} {ps : List Pl} {i : Nat} (hi : i < ps.length) : (opnL B n k (ps.take i)).length + (one1 B n k ps[i]).length ≤ (opnL B n k ps).length := by
  have e : ps = ps.take (i + 1) ++ ps.drop (i + 1) := (List.take_append_drop _ _).symm
  have := opnL_le (B := B) (n := n) (k := k) (ps := ps.take (i + 1)) (qs := ps.drop (i + 1))
  rw [← e, List.take_add_one, List.getElem?_eq_getElem hi, Option.toList_some, opnL_snoc, List.length_append] at this
  exact this
/-- the lists lie so deep within each other at most -/
def fits (B : Bk) : Nat → Str → Prop
  | 0, _ => False
  | n + 1, x => keyIn B x = true ∧ ∀ p ∈ rowsOf B x, keyIn B p.2.1 = true → fits B n p.2.1
def GoodB (B : Bk) : Prop := ∀ x ps, B.lookup x = some ps → ∀ p ∈ ps, GoodP p
theorem rows_good {B : Bk} {x : Str} (g : GoodB B) : ∀ p ∈ rowsOf B x, GoodP p := by
  unfold rowsOf
  cases e : B.lookup x with
  | none => intro p hp; cases hp
  | some ps => exact g x ps e
/-- the catalog's dict -/
structure PD (h : Hw) (D : Nat) (B : Bk) (kvs : List (Key × W)) : Prop where
  d : h[D]? = some (.dK kvs)
  dom : ∀ x, (valW kvs (.inr x)).isSome = keyIn B x
  val : ∀ x, keyIn B x = true → ∃ q, valW kvs (.inr x) = some (.ref q) ∧ h[q]? = some (plF (rowsOf B x))
theorem PD.pre {h h' : Hw} {D : Nat} {B : Bk} {kvs : List (Key × W)} (t : PD h D B kvs) (p : h <+: h') : PD h' D B kvs :=
  ⟨Pre.get p t.d, t.dom, fun x e => let ⟨q, a, b⟩ := t.val x e; ⟨q, a, Pre.get p b⟩⟩
theorem PD.of {h : Hw} {D : Nat} {B : Bk} {kvs : List (Key × W)} (t : PD h D B kvs) : dOf h (.ref D) = some kvs := by
  show (match h[D]? with
    | some (.dK kvs) => some kvs
    | some (.dF kvs) => some kvs
    | _ => none) = _
  rw [t.d]
abbrev swP (D : Nat) (x : Str) (k : Int) (L : Nat) (y4 y5 y6 y7 : Option W) : SW := [some (.ref D), some (.str x), some (.int k), some (.ref L), y4, y5, y6, y7]
theorem put_in_ok {B : Bk} (gb : GoodB B) : ∀ (n : Nat) {h : Hw} {D : Nat} {kvs : List (Key × W)} {x : Str} {k : Int}, PD h D B kvs → fits B n x → (opn B n x k).length ≤ 1000 →
    Ok (mN_put_in n [.ref D, .str x, .int k]) h fun r h' => ∃ L, r = .ref L ∧ h.length ≤ L ∧ h <+: h' ∧ h'[L]? = some (.lst ((opn B n x k).map trW))
  | 0, _, _, _, _, _, _, f, _ => f.elim
  | n + 1, h, D, kvs, x, k, pd, f, few => by
    obtain ⟨kx, fd⟩ := f
    obtain ⟨q, vq, eq⟩ := pd.val x kx
    show Ok (mS_put_in (mN_put_in n) [.ref D, .str x, .int k]) h _
    unfold mS_put_in
    refine ok_mFn' (s0 := [some (.ref D), some (.str x), some (.int k), none, none, none, none, none]) rfl rfl ?_
    refine ok_sSeq (ok_sAsg (ok_lst (ok_aNil ⟨by decide, ok_gNm ?_⟩)))
    change Ok _ (h ++ [O.lst []]) _
    refine ok_sSeq (ok_sForI (ok_iAnyL ?_))
    have p1 : h <+: h ++ [O.lst []] := List.prefix_append _ _
    have pd1 := pd.pre p1
    refine ok_meth (ok_bin (ok_var rfl (ok_var rfl (ok_dget pd1.of rfl vq ⟨⟨q, _, rfl, Pre.get p1 eq, ?_⟩, ok_aNil ?_⟩))))
    · exact pl_lk (by decide +kernel)
    refine (places_ok (Pre.get p1 eq)).imp fun r h2 z => ?_
    obtain ⟨rfl, rfl⟩ := z
    generalize hP : rowsOf B x = ps at eq
    have few' : (opnL B n k ps).length ≤ 1000 := by
      rw [← hP]
      rw [opn] at few
      exact few
    have eO : opn B (n + 1) x k = opnL B n k ps := by rw [← hP, opn]
    have gp : ∀ p ∈ ps, GoodP p := by rw [← hP]; exact rows_good gb
    have fd' : ∀ p ∈ ps, keyIn B p.2.1 = true → fits B n p.2.1 := by rw [← hP]; exact fd
    refine ⟨(h ++ [O.lst []]).length, ps.map rowW, rfl, by simp, ?_⟩
    rw [List.length_append, List.length_cons, List.length_nil]
    have e0 : (h ++ [O.lst []] ++ [O.lst (ps.map rowW)])[h.length]? = some (.lst []) := by simp
    have e1 : (h ++ [O.lst []] ++ [O.lst (ps.map rowW)])[h.length + 1]? = some (.lst (ps.map rowW)) := by simp
    have pz : h <+: h ++ [O.lst []] ++ [O.lst (ps.map rowW)] := p1.trans (List.prefix_append _ _)
    generalize h ++ [O.lst []] ++ [O.lst (ps.map rowW)] = hz at e0 e1 pz ⊢
    refine ok_sFor (fun i sw hc => (∃ y4 y5 y6 y7, sw = swP D x k h.length y4 y5 y6 y7) ∧ h <+: hc ∧ hc[h.length]? = some (.lst ((opnL B n k (ps.take i)).map trW)) ∧ hc[h.length + 1]? = some (.lst (ps.map rowW))) (n := ps.length) _ (by rw [List.length_map]; exact Nat.le_refl _)
      ⟨⟨_, _, _, _, rfl⟩, pz, by simpa [opnL] using e0, e1⟩ (fun i sw hc hi y => ?_) (fun sw hc y => ?_)
    · obtain ⟨⟨y4, y5, y6, y7, rfl⟩, pc, ec, er⟩ := y
      have gpi := gp _ (List.getElem_mem hi)
      refine ⟨rowW ps[i], by rw [item_lst er, List.getElem?_map, List.getElem?_eq_getElem hi]; rfl, ?_⟩
      refine ok_gTu rfl ?_
      refine ok_gsCons (ok_gNm (ok_gsCons (ok_gNm (ok_gsCons (ok_gNm (ok_gsCons (ok_gNm (ok_gsNil ?_))))))))
      change Ok _ hc _
      have lt1 := (List.getElem?_eq_some_iff.mp er).1
      have tl := one_le (B := B) (n := n) (k := k) hi
      have stp : opnL B n k (ps.take (i + 1)) = opnL B n k (ps.take i) ++ one1 B n k ps[i] := by rw [List.take_add_one, List.getElem?_eq_getElem hi, Option.toList_some, opnL_snoc]
      have mk : mulOk k ps[i].2.2.1 = true := mulOk_r (by have := gpi.n1; omega) (by have := gpi.n2; omega)
      refine ok_sIf (ok_tVal (ok_bin (ok_var rfl (ok_var rfl (ok_din (pd.pre pc).of rfl ⟨_, rfl, ?_⟩)))))
      have dm := pd.dom ps[i].2.1
      cases hk : keyIn B ps[i].2.1 with
      | true =>
        rw [hk] at dm
        have e1' : one1 B n k ps[i] = opn B n ps[i].2.1 (k * ps[i].2.2.1) := by unfold one1; rw [hk]; rfl
        rw [e1'] at tl stp
        rw [dm]
        refine okT ?_
        refine ok_sExp (ok_ext (ok_var rfl ⟨h.length, _, rfl, ec, ?_⟩))
        refine ok_call (ok_aCons (ok_var rfl (ok_aCons (ok_var rfl (ok_aCons (ok_bin (ok_var rfl (ok_var rfl (ok_mulI mk (ok_aNil ?_))))))))))
        refine (put_in_ok gb n (pd.pre pc) (fd' _ (List.getElem_mem hi) hk) (by omega)).imp fun r h2 z => ?_
        obtain ⟨L, rfl, lL, p2, eL⟩ := z
        refine ⟨L, _, _, rfl, Pre.get p2 ec, eL, by rw [List.length_map, List.length_map]; unfold lim; omega, ?_⟩
        refine ⟨⟨_, _, _, _, rfl⟩, Pre.set (pc.trans p2) (Nat.le_refl _) _, ?_, ?_⟩
        · rw [get_set (Pre.get p2 ec), stp, List.map_append]
        · rw [get_set_ne (by omega)]
          exact Pre.get p2 er
      | false =>
        rw [hk] at dm
        have e1' : one1 B n k ps[i] = [(ps[i].2.1, k * ps[i].2.2.1, ps[i].2.2.2.map (· * k))] := by unfold one1; rw [hk]; rfl
        rw [e1'] at tl stp
        rw [List.length_singleton] at tl
        rw [dm]
        refine okF ?_
        refine ok_sExp (ok_app (ok_var rfl ⟨h.length, _, rfl, ec, ?_⟩))
        refine ok_tup (ok_aCons (ok_var rfl (ok_aCons (ok_bin (ok_var rfl (ok_var rfl (ok_mulI mk ?_)))))))
        refine ok_aCons (ok_call (ok_aCons (ok_var rfl (ok_aCons (ok_var rfl (ok_aNil ?_))))))
        refine (times_ok (k := k) (s := ps[i].2.2.2) (fun z hz => mulOk_l (by have := gpi.sh z hz; have := gpi.n2; omega) (by have := gpi.sh z hz; have := gpi.n2; omega))).imp fun r h2 z => ?_
        obtain ⟨rfl, rfl⟩ := z
        refine ok_aNil ⟨Nat.le_of_ble_eq_true rfl, ?_⟩
        refine ⟨_, ec, by rw [List.length_map]; unfold lim; omega, ?_⟩
        refine ⟨⟨_, _, _, _, rfl⟩, Pre.set pc (Nat.le_refl _) _, ?_, ?_⟩
        · rw [get_set ec, stp, List.map_append]
          rfl
        · rw [get_set_ne (by omega)]
          exact er
    · obtain ⟨⟨y4, y5, y6, y7, rfl⟩, pc, ec, er⟩ := y
      refine ⟨by rw [item_lst er, List.getElem?_eq_none (by rw [List.length_map]; exact Nat.le_refl _)], ?_⟩
      refine ok_sRet (ok_var rfl ?_)
      refine ⟨_, rfl, Nat.le_refl _, pc, ?_⟩
      rw [ec, eO, List.take_length]
mutual
def cnt (B : Bk) : Nat → Str → Nat
  | 0, _ => 0
  | n + 1, x => cntL B n (rowsOf B x)
def cntL (B : Bk) : Nat → List Pl → Nat
  | _, [] => 0
  | n, p :: r => (if keyIn B p.2.1 then cnt B n p.2.1 else 1) + cntL B n r
end
def cnt1 (B : Bk) (n : Nat) (p : Pl) : Nat := if keyIn B p.2.1 then cnt B n p.2.1 else 1
theorem cntL_snoc {B : Bk} {n : Nat} (ps : List Pl) (p : Pl) : cntL B n (ps ++ [p]) = cntL B n ps + cnt1 B n p := by
  induction ps with
  | nil => simp [cntL, cnt1]
  | cons q r ih => rw [List.cons_append, cntL, cntL, ih, Nat.add_assoc]
theorem opnL_len {B : Bk} {n : Nat} (ih : ∀ x k, (opn B n x k).length = cnt B n x) (k : Int) (ps : List Pl) : (opnL B n k ps).length = cntL B n ps := by
  induction ps with
  | nil => simp [opnL, cntL]
  | cons p r hr =>
    rw [opnL, cntL, List.length_append, hr]
    split
    · rw [ih]
    · rfl
theorem opn_len {B : Bk} : ∀ (n : Nat) (x : Str) (k : Int), (opn B n x k).length = cnt B n x
  | 0, x, k => by simp [opn, cnt]
  | n + 1, x, k => by
    rw [opn, cnt]
    exact opnL_len (fun x k => opn_len n x k) k _
theorem cntL_eq {B : Bk} {n m : Nat} (ps : List Pl) (h : ∀ p ∈ ps, keyIn B p.2.1 = true → cnt B n p.2.1 = cnt B m p.2.1) : cntL B n ps = cntL B m ps := by
  induction ps with
  | nil => simp [cntL]
  | cons p r ih =>
    rw [cntL, cntL, ih fun q hq => h q (List.mem_cons_of_mem _ hq)]
    split
    · rename_i hk
      rw [h p List.mem_cons_self hk]
    · rfl
theorem cnt_eq {B : Bk} : ∀ {n m : Nat} {x : Str}, fits B n x → fits B m x → cnt B n x = cnt B m x
  | 0, _, _, f, _ => f.elim
  | _ + 1, 0, _, _, f => f.elim
  | n + 1, m + 1, x, f, g => by
    rw [cnt, cnt]
    exact cntL_eq _ fun p hp hk => cnt_eq (f.2 p hp hk) (g.2 p hp hk)
/-- no list lies within itself -/
def nor (B : Bk) : Nat → List Str → Str → Prop
  | 0, _, _ => False
  | n + 1, ws, x => ∀ p ∈ rowsOf B x, p.2.1 ∉ ws ∧ (keyIn B p.2.1 = true → nor B n (ws ++ [p.2.1]) p.2.1)
/-! ### what is counted already -/
abbrev Cs := List (Str × Int)
def kvW (cs : Cs) : List (Key × W) := cs.map fun q => (Sum.inr q.1, W.int q.2)
theorem val_kv (cs : Cs) (x : Str) : valW (kvW cs) (.inr x) = (cs.lookup x).map W.int := by
  unfold valW kvW
  induction cs with
  | nil => rfl
  | cons q r ih =>
    rw [List.map_cons, List.find?_cons, List.lookup_cons]
    by_cases e : q.1 = x
    · have e1 : decide ((Sum.inr q.1 : Key) = Sum.inr x) = true := decide_eq_true (by rw [e])
      have e2 : (x == q.1) = true := by rw [e]; exact beq_self_eq_true x
      simp only [e1, e2]
      rfl
    · have e1 : decide ((Sum.inr q.1 : Key) = Sum.inr x) = false := decide_eq_false (fun z => e (by injection z))
      have e2 : (x == q.1) = false := beq_eq_false_iff_ne.mpr fun z => e z.symm
      simp only [e1, e2]
      exact ih
def putL (cs : Cs) (x : Str) (v : Int) : Cs := if (cs.any fun q => decide (q.1 = x)) = true then cs.map (fun q => if q.1 = x then (q.1, v) else q) else cs ++ [(x, v)]
theorem put_kv (cs : Cs) (x : Str) (v : Int) : putKW (kvW cs) (.inr x) (.int v) = kvW (putL cs x v) := by
  unfold putKW putL
  have e : ((kvW cs).any fun kv => decide (kv.1 = Sum.inr x)) = cs.any fun q => decide (q.1 = x) := by
    unfold kvW
    rw [List.any_map]
    congr 1
    funext q
    by_cases h : q.1 = x
    · simp [h]
    · simp [h]
  rw [e]
  split
  · unfold kvW
    rw [List.map_map, List.map_map]
    apply List.map_congr_left
    intro q _
    by_cases h : q.1 = x
    · simp [h]
    · simp [h]
  · unfold kvW
    rw [List.map_append]
    rfl
theorem putL_keys {cs : Cs} {x : Str} {v : Int} : (∀ y, y ∈ (putL cs x v).map (·.1) → y ∈ cs.map (·.1) ∨ y = x) ∧ ((cs.map (·.1)).Nodup → ((putL cs x v).map (·.1)).Nodup) := by
  unfold putL
  split
  · have e : (cs.map (fun q => if q.1 = x then (q.1, v) else q)).map (·.1) = cs.map (·.1) := by
      rw [List.map_map]
      apply List.map_congr_left
      intro q _
      by_cases h : q.1 = x <;> simp [h]
    rw [e]
    exact ⟨fun y h => .inl h, id⟩
  · rename_i hn
    rw [List.map_append]
    refine ⟨fun y h => ?_, fun nd => ?_⟩
    · rcases List.mem_append.mp h with h | h
      · exact .inl h
      · exact .inr (by simpa using h)
    · refine List.nodup_append.mpr ⟨nd, by simp, fun a ha b hb e => ?_⟩
      have hb' : b = x := by simpa using hb
      obtain ⟨q, hq, e2⟩ := List.mem_map.mp ha
      exact hn (List.any_eq_true.mpr ⟨q, hq, decide_eq_true (by rw [e2, e, hb'])⟩)
theorem putL_look {cs : Cs} {x : Str} {v : Int} (y : Str) : (putL cs x v).lookup y = if y = x then some v else cs.lookup y := by
  unfold putL
  split
  · rename_i ha
    induction cs with
    | nil => cases ha
    | cons q r ih =>
      rw [List.map_cons]
      by_cases hq : q.1 = x
      · rw [if_pos hq, List.lookup_cons, List.lookup_cons]
        by_cases hy : y = x
        · have : (y == q.1) = true := by rw [hq, hy]; exact beq_self_eq_true x
          rw [if_pos hy]
          simp only [this]
        · have : (y == q.1) = false := beq_eq_false_iff_ne.mpr (by rw [hq]; exact hy)
          rw [if_neg hy]
          simp only [this]
          by_cases hr : (r.any fun q => decide (q.1 = x)) = true
          · rw [ih hr, if_neg hy]
          · congr 1
            have : r.map (fun q => if q.1 = x then (q.1, v) else q) = r := by
              conv => rhs; rw [← List.map_id r]
              apply List.map_congr_left
              intro z hz
              have : ¬ z.1 = x := fun e => hr (List.any_eq_true.mpr ⟨z, hz, decide_eq_true e⟩)
              rw [if_neg this]
              rfl
            rw [this]
      · rw [if_neg hq, List.lookup_cons, List.lookup_cons]
        have ha' : (r.any fun q => decide (q.1 = x)) = true := by
          rw [List.any_cons, decide_eq_false hq, Bool.false_or] at ha
          exact ha
        rw [ih ha']
        by_cases hy : (y == q.1) = true
        · have : y ≠ x := fun z => hq (by rw [← z]; exact (beq_iff_eq.mp hy).symm)
          simp only [hy, if_neg this]
        · simp only [Bool.not_eq_true] at hy
          simp only [hy]
  · rename_i hn
    rw [List.lookup_append]
    by_cases hy : y = x
    · have hl : cs.lookup y = none := by
        cases e : cs.lookup y with
        | none => rfl
        | some i =>
          exfalso
          apply hn
          have : ∃ q ∈ cs, q.1 = y := by
            clear hn
            induction cs with
            | nil => cases e
            | cons q r ih =>
              rw [List.lookup_cons] at e
              split at e
              · rename_i z
                exact ⟨q, List.mem_cons_self, (beq_iff_eq.mp z).symm⟩
              · obtain ⟨q', h1, h2⟩ := ih e
                exact ⟨q', List.mem_cons_of_mem _ h1, h2⟩
          obtain ⟨q, h1, h2⟩ := this
          exact List.any_eq_true.mpr ⟨q, h1, decide_eq_true (by rw [h2, hy])⟩
      rw [hl, if_pos hy, hy]
      simp
    · rw [if_neg hy]
      have : (y == x) = false := beq_eq_false_iff_ne.mpr hy
      cases cs.lookup y with
      | none => simp [List.lookup, this]
      | some i => rfl
def Kb (n : Nat) (h h' : Hw) : Prop := ∀ j o, j ≠ n → h[j]? = some o → h'[j]? = some o
theorem Kb.refl {n : Nat} {h : Hw} : Kb n h h := fun _ _ _ e => e
theorem Kb.trans {n : Nat} {h h1 h2 : Hw} (a : Kb n h h1) (b : Kb n h1 h2) : Kb n h h2 := fun j o hj e => b j o hj (a j o hj e)
theorem Kb.of {n : Nat} {h h' : Hw} (p : h <+: h') : Kb n h h' := fun _ _ _ e => Pre.get p e
theorem Kb.set {n : Nat} {h : Hw} (o : O) : Kb n h (h.set n o) := fun j o' hj e => by rw [get_set_ne (Ne.symm hj)]; exact e
/-- what the counts' dict holds -/
structure CD (h : Hw) (C : Nat) (B : Bk) (cs : Cs) : Prop where
  d : h[C]? = some (.dK (kvW cs))
  val : ∀ y i, cs.lookup y = some i → ∃ n, fits B n y ∧ i = (cnt B n y : Nat)
  nd : (cs.map (·.1)).Nodup
  sub : ∀ y ∈ cs.map (·.1), y ∈ B.map (·.1)
theorem CD.pre {h h' : Hw} {C : Nat} {B : Bk} {cs : Cs} (t : CD h C B cs) (p : h <+: h') : CD h' C B cs := ⟨Pre.get p t.d, t.val, t.nd, t.sub⟩
theorem nodup_le {α : Type} [DecidableEq α] : ∀ {l m : List α}, l.Nodup → (∀ x ∈ l, x ∈ m) → l.length ≤ m.length
  | [], _, _, _ => Nat.zero_le _
  | a :: r, m, nd, h => by
    have ha := h a List.mem_cons_self
    have nd' := List.nodup_cons.mp nd
    have := nodup_le (l := r) (m := m.erase a) nd'.2 fun x hx => (List.mem_erase_of_ne (fun z : x = a => nd'.1 (by rw [← z]; exact hx))).mpr (h x (List.mem_cons_of_mem _ hx))
    rw [List.length_erase_of_mem ha] at this
    have := List.length_pos_of_mem ha
    simp only [List.length_cons]
    omega
theorem CD.few {h : Hw} {C : Nat} {B : Bk} {cs : Cs} (t : CD h C B cs) : cs.length ≤ B.length := by
  have := nodup_le t.nd t.sub
  simpa using this
theorem PD.kb {h h' : Hw} {D C : Nat} {B : Bk} {kvs : List (Key × W)} {cs : Cs} (t : PD h D B kvs) (c : CD h C B cs) (ne : D ≠ C) (k : Kb C h h') : PD h' D B kvs :=
  ⟨k _ _ ne t.d, t.dom, fun x e => let ⟨q, a, b⟩ := t.val x e; ⟨q, a, k _ _ (fun z => by rw [z, c.d] at b; cases b) b⟩⟩
theorem key_mem {B : Bk} {x : Str} (h : keyIn B x = true) : x ∈ B.map (·.1) := by
  unfold keyIn at h
  induction B with
  | nil => cases h
  | cons q r ih =>
    rw [List.lookup_cons] at h
    split at h
    · rename_i z
      rw [beq_iff_eq.mp z]
      exact List.mem_cons_self
    · exact List.mem_cons_of_mem _ (ih h)
abbrev swC (D : Nat) (x : Str) (ws : List Str) (C : Nat) (t : Int) (y5 y6 : Option W) : SW := [some (.ref D), some (.str x), some (.tup (ws.map W.str)), some (.ref C), some (.int t), y5, y6]
theorem dOf_c {h : Hw} {C : Nat} {B : Bk} {cs : Cs} (t : CD h C B cs) : dOf h (.ref C) = some (kvW cs) := by
  show (match h[C]? with
    | some (.dK kvs) => some kvs
    | some (.dF kvs) => some kvs
    | _ => none) = _
  rw [t.d]
theorem dMut_c {h : Hw} {C : Nat} {B : Bk} {cs : Cs} (t : CD h C B cs) : dMut h (.ref C) = some (C, kvW cs) := by
  show (match h[C]? with
    | some (.dK kvs) => some (C, kvs)
    | _ => none) = _
  rw [t.d]
theorem aug_ok {i : Nat} {f : W → W → M W} {ma : ME} {sw : SW} {h : Hw} {x : W} {PF : Fl → Hw → Prop} (e : sw[i]? = some (some x)) (o : Ok (ma sw) h fun y h1 => Ok (f x y) h1 fun z h2 => PF (.nx (sw.set i (some z))) h2) : Ok (sAug i f ma sw) h PF := by
  unfold sAug
  exact ok_bnd (ok_var e (ok_bnd (o.imp fun y h1 o => ok_bnd (o.imp fun z h2 p => ok_rtn p))))
theorem addI_ok {i j : Int} {h : Hw} {P : W → Hw → Prop} (p : P (.int (i + j)) h) : Ok (fAddI (.int i) (.int j)) h P := ok_rtn p
theorem count_ok {B : Bk} (gb : GoodB B) (fw : B.length ≤ 100) : ∀ (n : Nat) {h : Hw} {D C : Nat} {kvs : List (Key × W)} {x : Str} {ws : List Str} {cs : Cs}, PD h D B kvs → D ≠ C → fits B n x → nor B n ws x → ws.length + n ≤ 100 → CD h C B cs →
    Ok (mN_count_places n [.ref D, .str x, .tup (ws.map W.str), .ref C]) h fun r h' => r = .int (cnt B n x : Nat) ∧ Kb C h h' ∧ h.length ≤ h'.length ∧ ∃ cs', CD h' C B cs'
  | 0, _, _, _, _, _, _, _, _, _, f, _, _, _ => f.elim
  | n + 1, h, D, C, kvs, x, ws, cs, pd, ne, f, nr, lw, cd => by
    obtain ⟨kx, fd⟩ := f
    obtain ⟨q, vq, eq⟩ := pd.val x kx
    show Ok (mS_count_places (mN_count_places n) [.ref D, .str x, .tup (ws.map W.str), .ref C]) h _
    unfold mS_count_places
    refine ok_mFn' (s0 := [some (.ref D), some (.str x), some (.tup (ws.map W.str)), some (.ref C), none, none, none]) rfl rfl ?_
    refine ok_sSeq (ok_sAsg (ok_c (ok_gNm ?_)))
    change Ok _ h _
    refine ok_sSeq (ok_sForI (ok_iAnyL ?_))
    refine ok_meth (ok_bin (ok_var rfl (ok_var rfl (ok_dget pd.of rfl vq ⟨⟨q, _, rfl, eq, ?_⟩, ok_aNil ?_⟩))))
    · exact pl_lk (by decide +kernel)
    refine (places_ok eq).imp fun r h2 z => ?_
    obtain ⟨rfl, rfl⟩ := z
    have nr' : ∀ p ∈ rowsOf B x, p.2.1 ∉ ws ∧ (keyIn B p.2.1 = true → nor B n (ws ++ [p.2.1]) p.2.1) := nr
    have eC : cnt B (n + 1) x = cntL B n (rowsOf B x) := by rw [cnt]
    rw [eC]
    generalize rowsOf B x = ps at eq fd nr' ⊢
    refine ⟨h.length, ps.map rowW, rfl, by simp, ?_⟩
    have ltC := (List.getElem?_eq_some_iff.mp cd.d).1
    have e1 : (h ++ [O.lst (ps.map rowW)])[h.length]? = some (.lst (ps.map rowW)) := by simp
    have pz : h <+: h ++ [O.lst (ps.map rowW)] := List.prefix_append _ _
    have lz : h.length < (h ++ [O.lst (ps.map rowW)]).length := by simp
    generalize h ++ [O.lst (ps.map rowW)] = hz at e1 pz lz ⊢
    refine ok_sFor (fun i sw hc => (∃ y5 y6, sw = swC D x ws C (cntL B n (ps.take i) : Nat) y5 y6) ∧ Kb C h hc ∧ h.length < hc.length ∧ hc[h.length]? = some (.lst (ps.map rowW)) ∧ ∃ cs', CD hc C B cs') (n := ps.length) _ (by rw [List.length_map]; exact Nat.le_refl _)
      ⟨⟨none, none, by simp [cntL]⟩, Kb.of pz, lz, e1, cs, cd.pre pz⟩ (fun i sw hc hi y => ?_) (fun sw hc y => ?_)
    · obtain ⟨⟨y5, y6, rfl⟩, kb, lh, er, cs1, cd1⟩ := y
      have pd1 := pd.kb cd ne kb
      have hm := List.getElem_mem hi
      obtain ⟨nw, nk⟩ := nr' _ hm
      refine ⟨rowW ps[i], by rw [item_lst er, List.getElem?_map, List.getElem?_eq_getElem hi]; rfl, ?_⟩
      refine ok_gTu rfl ?_
      refine ok_gsCons (ok_gNm (ok_gsCons (ok_gNm (ok_gsCons (ok_gNm (ok_gsCons (ok_gNm (ok_gsNil ?_))))))))
      change Ok _ hc _
      have stp : cntL B n (ps.take (i + 1)) = cntL B n (ps.take i) + cnt1 B n ps[i] := by rw [List.take_add_one, List.getElem?_eq_getElem hi, Option.toList_some, cntL_snoc]
      refine ok_sSeq (ok_sIf (ok_tVal (ok_bin (ok_var rfl (ok_var rfl (ok_inT ⟨_, rfl, ?_⟩))))))
      rw [decide_eq_false nw]
      refine okF (ok_sNil ?_)
      change Ok _ hc _
      refine ok_sIf (ok_tVal (ok_bin (ok_var rfl (ok_var rfl (ok_din pd1.of rfl ⟨_, rfl, ?_⟩)))))
      have dm := pd.dom ps[i].2.1
      cases hk : keyIn B ps[i].2.1 with
      | false =>
        rw [hk] at dm
        rw [dm]
        refine okT (aug_ok rfl (ok_c (addI_ok ?_)))
        have e' : cnt1 B n ps[i] = 1 := by unfold cnt1; rw [hk]; rfl
        rw [stp, e']
        exact ⟨⟨_, _, rfl⟩, kb, lh, er, cs1, cd1⟩
      | true =>
        rw [hk] at dm
        rw [dm]
        refine okF ?_
        have e' : cnt1 B n ps[i] = cnt B n ps[i].2.1 := by unfold cnt1; rw [hk]; rfl
        have fp := fd _ hm hk
        have last : ∀ hd cs2 y5, Kb C h hd → h.length < hd.length → hd[h.length]? = some (.lst (ps.map rowW)) → CD hd C B cs2 → cs2.lookup ps[i].2.1 = some ((cnt B n ps[i].2.1 : Nat) : Int) →
            Ok (sAug 4 fAddI (mBin fDget (mVar 3) (mVar 6)) (swC D x ws C (cntL B n (ps.take i) : Nat) y5 (some (.str ps[i].2.1)))) hd fun f h2 => match f with
              | .nx s => (∃ y5 y6, s = swC D x ws C (cntL B n (ps.take (i + 1)) : Nat) y5 y6) ∧ Kb C h h2 ∧ h.length < h2.length ∧ h2[h.length]? = some (.lst (ps.map rowW)) ∧ ∃ cs', CD h2 C B cs'
              | _ => False := fun hd cs2 y5 k2 l2 e2 c2 lk => by
          refine aug_ok rfl (ok_bin (ok_var rfl (ok_var rfl (ok_dget (dOf_c c2) rfl (w := .int (cnt B n ps[i].2.1 : Nat)) (by rw [val_kv, lk]; rfl) (addI_ok ?_)))))
          rw [stp, e']
          exact ⟨⟨_, _, rfl⟩, k2, l2, e2, cs2, c2⟩
        refine ok_sSeq (ok_sIf (ok_tVal (ok_bin (ok_var rfl (ok_var rfl (ok_din (dOf_c cd1) rfl ⟨_, rfl, ?_⟩))))))
        cases hl : cs1.lookup ps[i].2.1 with
        | some v =>
          rw [val_kv, hl]
          refine okF (ok_sNil ?_)
          change Ok _ hc _
          obtain ⟨m, fm, rfl⟩ := cd1.val _ _ hl
          rw [cnt_eq fm fp] at hl
          refine (last hc cs1 _ kb lh er cd1 hl).imp fun f h2 z => ?_
          cases f with
          | nx s => exact z
          | _ => exact z.elim
        | none =>
          rw [val_kv, hl]
          refine okT ?_
          refine ok_dput (ok_call (ok_aCons (ok_var rfl (ok_aCons (ok_var rfl (ok_aCons ?_))))))
          refine ok_tup (ok_aStar (ok_var rfl ⟨_, rfl, ok_aCons (ok_var rfl (ok_aNil ⟨?_, ok_aCons (ok_var rfl (ok_aNil ?_))⟩))⟩))
          · rw [List.length_append, List.length_map]
            unfold lim
            simp
            omega
          rw [show ws.map W.str ++ [W.str ps[i].2.1] = (ws ++ [ps[i].2.1]).map W.str by simp]
          refine (count_ok gb fw n pd1 ne fp (nk hk) (by rw [List.length_append, List.length_singleton]; omega) cd1).imp fun r h2 z => ?_
          obtain ⟨rfl, k2, l2, cs2, c2⟩ := z
          refine ok_var rfl (ok_var rfl ⟨C, _, _, dMut_c c2, rfl, ?_, ?_⟩)
          · have := c2.few
            unfold kvW
            rw [List.length_map]
            unfold lim
            omega
          change Ok _ _ _
          rw [put_kv]
          have ltC2 := (List.getElem?_eq_some_iff.mp c2.d).1
          have c3 : CD (h2.set C (.dK (kvW (putL cs2 ps[i].2.1 ((cnt B n ps[i].2.1 : Nat) : Int))))) C B (putL cs2 ps[i].2.1 ((cnt B n ps[i].2.1 : Nat) : Int)) := by
            refine ⟨get_set c2.d, fun y j hy => ?_, putL_keys.2 c2.nd, fun y hy => ?_⟩
            · rw [putL_look] at hy
              split at hy
              · rename_i z
                cases hy
                exact ⟨n, by rw [z]; exact fp, by rw [z]⟩
              · exact c2.val y j hy
            · rcases putL_keys.1 y hy with z | z
              · exact c2.sub y z
              · rw [z]
                exact key_mem hk
          refine (last _ _ _ (kb.trans (k2.trans (Kb.set _))) (by rw [List.length_set]; omega) (by rw [get_set_ne (by omega)]; exact k2 _ _ (by omega) er) c3 (by rw [putL_look, if_pos rfl])).imp fun f h3 z => ?_
          cases f with
          | nx s => exact z
          | _ => exact z.elim
    · obtain ⟨⟨y5, y6, rfl⟩, kb, lh, er, cs1, cd1⟩ := y
      refine ⟨by rw [item_lst er, List.getElem?_eq_none (by rw [List.length_map]; exact Nat.le_refl _)], ?_⟩
      refine ok_sRet (ok_var rfl ?_)
      rw [List.take_length]
      exact ⟨rfl, kb, Nat.le_of_lt lh, cs1, cd1⟩
/-- the law's own dict of rows -/
structure LD (h : Hw) (D : Nat) (B : Bk) (kvs : List (Key × W)) : Prop where
  d : h[D]? = some (.dK kvs)
  dom : ∀ x, (valW kvs (.inr x)).isSome = keyIn B x
  val : ∀ x, keyIn B x = true → ∃ q, valW kvs (.inr x) = some (.ref q) ∧ h[q]? = some (.lst ((rowsOf B x).map rowW))
theorem LD.pre {h h' : Hw} {D : Nat} {B : Bk} {kvs : List (Key × W)} (t : LD h D B kvs) (p : h <+: h') : LD h' D B kvs :=
  ⟨Pre.get p t.d, t.dom, fun x e => let ⟨q, a, b⟩ := t.val x e; ⟨q, a, Pre.get p b⟩⟩
theorem LD.of {h : Hw} {D : Nat} {B : Bk} {kvs : List (Key × W)} (t : LD h D B kvs) : dOf h (.ref D) = some kvs := by
  show (match h[D]? with
    | some (.dK kvs) => some kvs
    | some (.dF kvs) => some kvs
    | _ => none) = _
  rw [t.d]
theorem law_opened_ok {B : Bk} (gb : GoodB B) : ∀ (n : Nat) {h : Hw} {D : Nat} {kvs : List (Key × W)} {x : Str} {k : Int}, LD h D B kvs → fits B n x → (opn B n x k).length ≤ 1000 →
    Ok (mN__law_opened n [.ref D, .str x, .int k]) h fun r h' => ∃ L, r = .ref L ∧ h.length ≤ L ∧ h <+: h' ∧ h'[L]? = some (.lst ((opn B n x k).map trW))
  | 0, _, _, _, _, _, _, f, _ => f.elim
  | n + 1, h, D, kvs, x, k, pd, f, few => by
    obtain ⟨kx, fd⟩ := f
    obtain ⟨q, vq, eq⟩ := pd.val x kx
    show Ok (mS__law_opened (mN__law_opened n) [.ref D, .str x, .int k]) h _
    unfold mS__law_opened
    refine ok_mFn' (s0 := [some (.ref D), some (.str x), some (.int k), none, none, none, none, none]) rfl rfl ?_
    refine ok_sSeq (ok_sAsg (ok_lst (ok_aNil ⟨by decide, ok_gNm ?_⟩)))
    change Ok _ (h ++ [O.lst []]) _
    refine ok_sSeq (ok_sForI (ok_iAnyL ?_))
    have pz : h <+: h ++ [O.lst []] := List.prefix_append _ _
    have pd1 := pd.pre pz
    refine ok_bin (ok_var rfl (ok_var rfl (ok_dget pd1.of rfl vq ?_)))
    have ltq := (List.getElem?_eq_some_iff.mp eq).1
    generalize hP : rowsOf B x = ps at eq
    have few' : (opnL B n k ps).length ≤ 1000 := by
      rw [← hP]
      rw [opn] at few
      exact few
    have eO : opn B (n + 1) x k = opnL B n k ps := by rw [← hP, opn]
    have gp : ∀ p ∈ ps, GoodP p := by rw [← hP]; exact rows_good gb
    have fd' : ∀ p ∈ ps, keyIn B p.2.1 = true → fits B n p.2.1 := by rw [← hP]; exact fd
    refine ⟨q, ps.map rowW, rfl, Pre.get pz eq, ?_⟩
    have e0 : (h ++ [O.lst []])[h.length]? = some (.lst []) := by simp
    generalize h ++ [O.lst []] = hz at e0 pz ⊢
    refine ok_sFor (fun i sw hc => ∃ Lc y4 y5 y6 y7, sw = swP D x k Lc y4 y5 y6 y7 ∧ h.length ≤ Lc ∧ h <+: hc ∧ hc[Lc]? = some (.lst ((opnL B n k (ps.take i)).map trW))) (n := ps.length) _ (by rw [List.length_map]; exact Nat.le_refl _)
      ⟨_, _, _, _, _, rfl, Nat.le_refl _, pz, by simpa [opnL] using e0⟩ (fun i sw hc hi y => ?_) (fun sw hc y => ?_)
    · obtain ⟨Lc, y4, y5, y6, y7, rfl, lL, pc, ec⟩ := y
      have er := Pre.get pc eq
      have gpi := gp _ (List.getElem_mem hi)
      refine ⟨rowW ps[i], by rw [item_lst er, List.getElem?_map, List.getElem?_eq_getElem hi]; rfl, ?_⟩
      refine ok_gTu rfl ?_
      refine ok_gsCons (ok_gNm (ok_gsCons (ok_gNm (ok_gsCons (ok_gNm (ok_gsCons (ok_gNm (ok_gsNil ?_))))))))
      change Ok _ hc _
      have tl := one_le (B := B) (n := n) (k := k) hi
      have stp : opnL B n k (ps.take (i + 1)) = opnL B n k (ps.take i) ++ one1 B n k ps[i] := by rw [List.take_add_one, List.getElem?_eq_getElem hi, Option.toList_some, opnL_snoc]
      have mk : mulOk k ps[i].2.2.1 = true := mulOk_r (by have := gpi.n1; omega) (by have := gpi.n2; omega)
      refine ok_sIf (ok_tVal (ok_bin (ok_var rfl (ok_var rfl (ok_din (pd.pre pc).of rfl ⟨_, rfl, ?_⟩)))))
      have dm := pd.dom ps[i].2.1
      cases hk : keyIn B ps[i].2.1 with
      | true =>
        rw [hk] at dm
        have e1' : one1 B n k ps[i] = opn B n ps[i].2.1 (k * ps[i].2.2.1) := by unfold one1; rw [hk]; rfl
        rw [e1'] at tl stp
        rw [dm]
        refine okT ?_
        refine ok_sAsg (ok_bin (ok_var rfl ?_))
        refine ok_call (ok_aCons (ok_var rfl (ok_aCons (ok_var rfl (ok_aCons (ok_bin (ok_var rfl (ok_var rfl (ok_mulI mk (ok_aNil ?_))))))))))
        refine (law_opened_ok gb n (pd.pre pc) (fd' _ (List.getElem_mem hi) hk) (by omega)).imp fun r h2 z => ?_
        obtain ⟨L, rfl, lL2, p2, eL⟩ := z
        refine ok_addL (Pre.get p2 ec) eL (by rw [List.length_map, List.length_map]; unfold lim; omega) (ok_gNm ?_)
        refine ⟨h2.length, _, _, _, _, rfl, Pre.len (pc.trans p2), Pre.app (pc.trans p2) _, ?_⟩
        rw [stp, List.map_append]
        simp
      | false =>
        rw [hk] at dm
        have e1' : one1 B n k ps[i] = [(ps[i].2.1, k * ps[i].2.2.1, ps[i].2.2.2.map (· * k))] := by unfold one1; rw [hk]; rfl
        rw [e1'] at tl stp
        rw [List.length_singleton] at tl
        rw [dm]
        refine okF ?_
        refine ok_sExp (ok_app (ok_var rfl ⟨Lc, _, rfl, ec, ?_⟩))
        refine ok_tup (ok_aCons (ok_var rfl (ok_aCons (ok_bin (ok_var rfl (ok_var rfl (ok_mulI mk (ok_aCons ?_))))))))
        have fin : ∀ w : W, w = sW (ps[i].2.2.2.map (· * k)) → ([W.str ps[i].2.1, .int (k * ps[i].2.2.1), w] : List W).length ≤ lim ∧ ∃ xs, hc[Lc]? = some (.lst xs) ∧ xs.length < lim ∧ ∃ Lc' y4 y5 y6 y7, swP D x k Lc (some (.str ps[i].1)) (some (.str ps[i].2.1)) (some (.int ps[i].2.2.1)) (some (sW ps[i].2.2.2)) = swP D x k Lc' y4 y5 y6 y7 ∧ h.length ≤ Lc' ∧ h <+: hc.set Lc (.lst (xs ++ [.tup [W.str ps[i].2.1, .int (k * ps[i].2.2.1), w]])) ∧ (hc.set Lc (.lst (xs ++ [.tup [W.str ps[i].2.1, .int (k * ps[i].2.2.1), w]])))[Lc']? = some (.lst ((opnL B n k (ps.take (i + 1))).map trW)) := fun w hw => by
          subst hw
          refine ⟨Nat.le_of_ble_eq_true rfl, _, ec, by rw [List.length_map]; unfold lim; omega, Lc, _, _, _, _, rfl, lL, Pre.set pc lL _, ?_⟩
          rw [get_set ec, stp, List.map_append]
          rfl
        cases hs : ps[i].2.2.2 with
        | none =>
          refine ok_mIf (ok_tVal (ok_bin (ok_var rfl (ok_c ?_))))
          rw [hs] at fin
          refine ok_isNN ⟨_, rfl, okT (ok_c (ok_aNil ?_))⟩
          exact fin .non rfl
        | some s =>
          refine ok_mIf (ok_tVal (ok_bin (ok_var rfl (ok_c ?_))))
          rw [hs] at fin
          refine ok_isN (fun z => by cases z) ⟨_, rfl, okF (ok_bin (ok_var rfl (ok_var rfl (ok_mulI ?_ (ok_aNil ?_)))))⟩
          · have := gpi.sh s hs
            have := gpi.n2
            exact mulOk_r (by omega) (by omega)
          exact fin (.int (k * s)) (by show _ = W.int (s * k); rw [Int.mul_comm])
    · obtain ⟨Lc, y4, y5, y6, y7, rfl, lL, pc, ec⟩ := y
      refine ⟨by rw [item_lst (Pre.get pc eq), List.getElem?_eq_none (by rw [List.length_map]; exact Nat.le_refl _)], ?_⟩
      refine ok_sRet (ok_var rfl ?_)
      refine ⟨_, rfl, lL, pc, ?_⟩
      rw [ec, eO, List.take_length]
theorem pre_get' {h h' : Hw} (k : ∀ (j : Nat) (o : O), h[j]? = some o → h'[j]? = some o) : h <+: h' :=
  List.prefix_iff_getElem?.mpr fun i hi => k i _ (List.getElem?_eq_getElem hi)
theorem item_dit {h : Hw} {g i : Nat} {kvs : List (Key × W)} (e : h[g]? = some (.dF kvs)) : (Src.dit g).item i h = some (kvs[i]?.map fun kv => W.tup [kW kv.1, kv.2]) := by
  unfold Src.item
  simp only [e]
theorem item_dky {h : Hw} {g i : Nat} {kvs : List (Key × W)} (e : h[g]? = some (.dF kvs)) : (Src.dky g).item i h = some (kvs[i]?.map fun kv => kW kv.1) := by
  unfold Src.item
  simp only [e]
abbrev Es := List (Str × Nat)
def rfW (es : Es) : List (Key × W) := es.map fun e => (Sum.inr e.1, W.ref e.2)
def catF (D : Nat) : O := .ins "Catalog" [("_lists", .ref D)]
theorem rf_val {es : Es} (nd : (es.map (·.1)).Nodup) {e : Str × Nat} (he : e ∈ es) : valW (rfW es) (.inr e.1) = some (.ref e.2) := by
  unfold valW rfW
  induction es with
  | nil => cases he
  | cons q r ih =>
    rw [List.map_cons, List.find?_cons]
    rw [List.map_cons, List.nodup_cons] at nd
    rcases List.mem_cons.mp he with rfl | he
    · simp
    · have : q.1 ≠ e.1 := fun z => nd.1 (z ▸ List.mem_map_of_mem he)
      have e1 : decide ((Sum.inr q.1 : Key) = Sum.inr e.1) = false := decide_eq_false (fun z => this (by injection z))
      simp only [e1]
      exact ih nd.2 he
theorem rf_snoc {es : Es} {i : Nat} (hi : i < es.length) (nd : (es.map (·.1)).Nodup) : putKW (rfW (es.take i)) (.inr es[i].1) (.ref es[i].2) = rfW (es.take (i + 1)) := by
  unfold putKW
  rw [if_neg]
  · rw [List.take_add_one, List.getElem?_eq_getElem hi]
    unfold rfW
    rw [List.map_append]
    rfl
  · intro z
    obtain ⟨q, hq, e⟩ := List.any_eq_true.mp z
    unfold rfW at hq
    obtain ⟨r, hr, rfl⟩ := List.mem_map.mp hq
    have e' : r.1 = es[i].1 := by
      have := of_decide_eq_true e
      injection this
    obtain ⟨j, hj, e2⟩ := List.mem_iff_getElem.mp hr
    have hj2 : j < i := by
      rw [List.length_take] at hj
      omega
    rw [List.getElem_take] at e2
    subst e2
    have := (List.nodup_iff_pairwise_ne.mp nd)
    have q := (List.pairwise_iff_getElem.mp this) j i (by simp; omega) (by simpa using hi) hj2
    simp at q
    exact q e'
theorem cat_init {h : Hw} {g : Nat} {es : Es} (hg : h[g]? = some (.dK (rfW es))) (hl : ∀ e ∈ es, isw e.1 = true ∧ ∃ ps, h[e.2]? = some (plF ps)) (nd : (es.map (·.1)).Nodup) (few : es.length ≤ 40) :
    Ok (m_Catalog___init__ [.ref h.length, .ref g]) (h ++ [.ins "Catalog" []]) fun u h2 => u = .non ∧ h <+: h2 ∧ ∃ D, h2[h.length]? = some (catF D) ∧ h2[D]? = some (.dK (rfW es)) := by
  have ltg := (List.getElem?_eq_some_iff.mp hg).1
  have eI : (h ++ [O.ins "Catalog" []])[h.length]? = some (.ins "Catalog" []) := by simp
  have p0 : h <+: h ++ [O.ins "Catalog" []] := List.prefix_append _ _
  generalize h ++ [O.ins "Catalog" []] = h0 at eI p0 ⊢
  have eg0 := Pre.get p0 hg
  have ng : ∀ e ∈ es, e.2 ≠ g := fun e he z => by
    obtain ⟨_, ps, q⟩ := hl e he
    rw [z, hg] at q
    cases q
  have len : (rfW es).length = es.length := by simp [rfW]
  unfold m_Catalog___init__
  refine ok_mFn' (s0 := [some (.ref h.length), some (.ref g), none, none]) rfl rfl ?_
  refine ok_sSeq (ok_sIf (ok_tNot (ok_tTru (ok_isi (ok_var rfl ⟨"dict", true, by show (match h0[g]? with | some (.lst _) => some "list" | some (.dK _) => some "dict" | some (.dF _) => some "dict" | _ => none) = _; rw [eg0], rfl, ok_tru_bl (okNT (ok_sNil ?_))⟩)))))
  refine ok_sSeq (ok_lockS (p := g) (kvs := rfW es) rfl eg0 ?_)
  refine ok_sForI (ok_iDit (ok_var rfl ⟨g, rfW es, rfl, get_set eg0, ?_⟩))
  refine ok_sFor (fun i sw h' => (∃ a b, sw = [some (.ref h.length), some (.ref g), a, b]) ∧ h0.set g (.dF (rfW es)) <+: h') (n := (rfW es).length) _ (Nat.le_refl _) ⟨⟨none, none, rfl⟩, List.prefix_refl _⟩ (fun i sw h' hi q => ?_) (fun sw h' q => ?_)
  · obtain ⟨⟨a, b, rfl⟩, pc⟩ := q
    have hi' : i < es.length := by rw [← len]; exact hi
    have hm := List.getElem_mem hi'
    obtain ⟨wi, ps, ep⟩ := hl _ hm
    refine ⟨.tup [.str es[i].1, .ref es[i].2], ?_, ?_⟩
    · rw [item_dit (Pre.get pc (get_set eg0))]
      unfold rfW
      rw [List.getElem?_map, List.getElem?_eq_getElem hi']
      rfl
    refine ok_gTu rfl (ok_gsCons (ok_gNm (ok_gsCons (ok_gNm (ok_gsNil ?_)))))
    change Ok _ h' _
    refine ok_sSeq (ok_sIf (ok_tNot (ok_tTru (ok_call (ok_aCons (ok_var rfl (ok_aNil ?_)))))))
    refine (is_word_ok wi (isw_lim wi)).imp fun r h2 z => ?_
    obtain ⟨rfl, p2⟩ := z
    refine ok_tru_bl (okNT (ok_sNil ?_))
    change Ok _ h2 _
    have ep' : h2[es[i].2]? = some (plF ps) := Pre.get (pc.trans p2) (by rw [get_set_ne (Ne.symm (ng _ hm))]; exact Pre.get p0 ep)
    refine ok_sIf (ok_tNot (ok_tTru (isi_t (ok_var rfl ⟨⟨ps, es[i].2, rfl, ep'⟩, ok_tru_bl (okNT (ok_sNil ?_))⟩))))
    exact ⟨⟨_, _, rfl⟩, pc.trans p2⟩
  · obtain ⟨⟨a, b, rfl⟩, pc⟩ := q
    refine ⟨by rw [item_dit (Pre.get pc (get_set eg0)), List.getElem?_eq_none (Nat.le_refl _)]; rfl, rfW es, Pre.get pc (get_set eg0), ?_⟩
    have p1 : h0 <+: h'.set g (.dK (rfW es)) := pre_get' fun j o ej => by
      by_cases hj : j = g
      · subst hj
        rw [get_set (Pre.get pc (get_set eg0))]
        rw [eg0] at ej
        exact ej
      · rw [get_set_ne (Ne.symm hj)]
        exact Pre.get pc (by rw [get_set_ne (Ne.symm hj)]; exact ej)
    generalize h'.set g (.dK (rfW es)) = h1 at p1
    have eg1 := Pre.get p1 eg0
    change Ok _ h1 _
    have eM : dMut h1 (.ref g) = some (g, rfW es) := by
      show (match h1[g]? with
        | some (.dK kvs) => some (g, kvs)
        | _ => none) = _
      rw [eg1]
    refine ok_sSeq (ok_sIf (ok_tVal (ok_bin (ok_call (ok_aCons (ok_var rfl (ok_aNil (ok_lenD eM (ok_c (ok_cmpI ⟨_, rfl, ?_⟩))))))))))
    rw [len, show decide ((es.length : Int) > 40) = false from decide_eq_false (by omega)]
    refine okF (ok_sNil ?_)
    change Ok _ h1 _
    refine ok_sFld ?_
    refine ok_lockE (p := g) (kvs := rfW es) rfl eg1 ?_
    have ltg1 : g < h1.length := (List.getElem?_eq_some_iff.mp eg1).1
    have lset : (h1.set g (.dF (rfW es))).length = h1.length := List.length_set ..
    refine ok_mDc (fun i acc h' => acc = rfW (es.take i) ∧ h' = h1.set g (.dF (rfW es)) ++ [.dK acc]) h1.length ?_
    have hG : ∀ acc : List (Key × W), (h1.set g (O.dF (rfW es)) ++ [O.dK acc])[g]? = some (O.dF (rfW es)) := fun acc => get_app (get_set eg1)
    refine ok_iDky (ok_var rfl ⟨g, rfW es, rfl, get_set eg1, by rw [lset], ⟨rfl, rfl⟩, fun i acc h' hi q hd => ?_, fun acc h' q hd => ?_⟩)
    · obtain ⟨rfl, rfl⟩ := q
      have hi' : i < es.length := by rw [← len]; exact hi
      refine ⟨.str es[i].1, by rw [item_dky (hG _)]; unfold rfW; rw [List.getElem?_map, List.getElem?_eq_getElem hi']; rfl, ?_⟩
      refine ok_gNm ?_
      refine ok_rtn (okT ?_)
      refine ok_var rfl (ok_bin (ok_var rfl (ok_var rfl (ok_dget (kvs := rfW es) (by show (match (h1.set g (O.dF (rfW es)) ++ [O.dK (rfW (es.take i))])[g]? with | some (.dK kvs) => some kvs | some (.dF kvs) => some kvs | _ => none) = _; rw [hG]) rfl (rf_val nd (List.getElem_mem hi')) ?_))))
      refine ⟨Sum.inr es[i].1, rfl, hd, by unfold rfW; rw [List.length_map, List.length_take]; unfold lim; omega, rf_snoc hi' nd, ?_⟩
      rw [rf_snoc hi' nd, List.set_append_right _ _ (by rw [lset]; exact Nat.le_refl _), lset, Nat.sub_self]
      rfl
    · obtain ⟨rfl, rfl⟩ := q
      refine ⟨by rw [item_dky (hG _), List.getElem?_eq_none (Nat.le_refl _)]; rfl, rfW es, hG _, ?_⟩
      have back2 : (h1.set g (O.dF (rfW es)) ++ [O.dK (rfW (es.take (rfW es).length))]).set g (O.dK (rfW es)) = h1 ++ [O.dK (rfW es)] := by
        rw [List.set_append_left _ _ (by rw [lset]; exact ltg1), List.set_set, len, List.take_length]
        congr 1
        exact List.ext_getElem? fun j => by
          by_cases hj : g = j
          · subst hj
            rw [get_set eg1]
            exact eg1.symm
          · rw [List.getElem?_set_ne hj]
      rw [back2]
      have eI1 := Pre.get p1 eI
      refine ok_var rfl ⟨h.length, [], rfl, get_app eI1, by decide, ?_⟩
      have ltI : h.length < h1.length := (List.getElem?_eq_some_iff.mp eI1).1
      refine ⟨rfl, pre_get' fun j o ej => ?_, h1.length, ?_, ?_⟩
      · have ltj : j < h.length := (List.getElem?_eq_some_iff.mp ej).1
        rw [get_set_ne (by omega)]
        exact get_app (Pre.get p1 (Pre.get p0 ej))
      · rw [get_set (get_app eI1)]
        rfl
      · rw [get_set_ne (by omega)]
        simp
theorem is_word_ty {h : Hw} {w : W} {n : String} (ty : tyName h w = some n) (k : kitB n "str" = some false) : Ok (m_is_word [w]) h fun r h' => r = .bl false ∧ h' = h := by
  unfold m_is_word
  walk_at "okF"
  refine ⟨n, false, ty, k, ?_⟩
  walk_at "ok"
  exact ⟨rfl, rfl⟩

/-- Catalog(v) -/
theorem cat_make {es : Es} {sw : SW} {mr : MA} {h : Hw} {P : W → Hw → Prop} (nd : (es.map (·.1)).Nodup) (few : es.length ≤ 40) (o : Ok (mr sw) h fun ws h1 => ∃ g, ws = [.ref g] ∧ h1[g]? = some (.dK (rfW es)) ∧ (∀ e ∈ es, isw e.1 = true ∧ ∃ ps, h1[e.2]? = some (plF ps)) ∧
    ∀ h2 D, h1 <+: h2 → h2[h1.length]? = some (catF D) → h2[D]? = some (.dK (rfW es)) → P (.ref h1.length) h2) : Ok (mMake "Catalog" m_Catalog___init__ [] mr sw) h P := by
  refine ok_make (o.imp fun ws h1 o => ?_)
  obtain ⟨g, rfl, eg, hl, k⟩ := o
  refine (cat_init eg hl nd few).imp fun u h2 q => ?_
  obtain ⟨rfl, p, D, e1, e2⟩ := q
  exact ⟨rfl, k h2 D p e1 e2⟩
/-- the catalog at c -/
structure IsC (h : Hw) (c D : Nat) (es : Es) : Prop where
  c : h[c]? = some (catF D)
  d : h[D]? = some (.dK (rfW es))
theorem IsC.pre {h h' : Hw} {c D : Nat} {es : Es} (t : IsC h c D es) (p : h <+: h') : IsC h' c D es := ⟨Pre.get p t.c, Pre.get p t.d⟩
theorem IsC.ins {h : Hw} {c D : Nat} {es : Es} (t : IsC h c D es) : insB h (.ref c) "Catalog" = true := by
  unfold insB
  dsimp only
  rw [t.c]
  unfold catF
  exact decide_eq_true rfl
theorem IsC.fld {h : Hw} {c D : Nat} {es : Es} (t : IsC h c D es) : fldOf h (.ref c) "Catalog" "_lists" = some (.ref D) := by
  unfold fldOf
  dsimp only
  rw [t.c]
  unfold catF
  dsimp only
  rw [if_pos rfl]
  simp
theorem IsC.dOf {h : Hw} {c D : Nat} {es : Es} (t : IsC h c D es) : dOf h (.ref D) = some (rfW es) := by
  show (match h[D]? with
    | some (.dK kvs) => some kvs
    | some (.dF kvs) => some kvs
    | _ => none) = _
  rw [t.d]
theorem cat_lk {w : W} {m : Str} (hm : (m == (Str.ofString "_lists")) = false) : ([(Str.ofString "_lists", w)] : List (Str × W)).lookup m = none := by
  rw [List.lookup_cons, hm]
  rfl
section
variable {h : Hw} {c D : Nat} {es : Es}
theorem cat_fld {P : W → Hw → Prop} {sw : SW} {i : Nat} (t : IsC h c D es) (e : sw[i]? = some (some (.ref c))) (p : P (.ref D) h) : Ok (mFld "Catalog" "_lists" (mVar i) sw) h P := ok_fld (ok_var e ⟨_, t.fld, p⟩)
theorem cat_in {x : Str} (t : IsC h c D es) (hl : x.length ≤ lim) : Ok (m_Catalog___contains__ [.ref c, .str x]) h fun r h' => r = .bl (isw x && (valW (rfW es) (.inr x)).isSome) ∧ h <+: h' := by
  unfold m_Catalog___contains__
  refine ok_mFn' (s0 := [some (.ref c), some (.str x)]) rfl rfl (ok_sRet (ok_mAnd (ok_call (ok_aCons (ok_var rfl (ok_aNil ?_))))))
  refine (is_word_ok (b := isw x) rfl hl).imp fun r h2 z => ?_
  obtain ⟨rfl, p⟩ := z
  refine ⟨_, rfl, fun hx => ?_, fun hx => ?_⟩
  · refine ok_bin (ok_var rfl (cat_fld (t.pre p) rfl (ok_din (t.pre p).dOf rfl ?_)))
    rw [hx]
    exact ⟨by simp, p⟩
  · rw [hx]
    exact ⟨rfl, p⟩
theorem cat_in_int {i : Int} (t : IsC h c D es) : Ok (m_Catalog___contains__ [.ref c, .int i]) h fun r h' => r = .bl false ∧ h <+: h' := by
  unfold m_Catalog___contains__
  refine ok_mFn' (s0 := [some (.ref c), some (.int i)]) rfl rfl (ok_sRet (ok_mAnd (ok_call (ok_aCons (ok_var rfl (ok_aNil ?_))))))
  refine (is_word_ty (n := "int") rfl (by decide +kernel)).imp fun r h2 z => ?_
  obtain ⟨rfl, rfl⟩ := z
  exact ⟨_, rfl, fun z => (by cases z), fun _ => ⟨rfl, List.prefix_refl _⟩⟩
theorem cat_len (t : IsC h c D es) : Ok (m_Catalog___len__ [.ref c]) h fun r h' => r = .int es.length ∧ h' = h := by
  unfold m_Catalog___len__
  refine ok_mFn' (s0 := [some (.ref c)]) rfl rfl (ok_sRet (ok_call (ok_aCons (cat_fld t rfl (ok_aNil (ok_lenD (p := D) (kvs := rfW es) (by
    show (match h[D]? with
      | some (.dK kvs) => some (D, kvs)
      | _ => none) = _
    rw [t.d]) ?_))))))
  exact ⟨by simp [rfW], rfl⟩
theorem keys_txt : ∀ es : Es, mapO txtK ((rfW es).map Prod.fst) = some (es.map (·.1))
  | [] => rfl
  | e :: r => by
    unfold rfW
    rw [List.map_cons, List.map_cons]
    unfold mapO
    have := keys_txt r
    unfold rfW at this
    rw [this]
    rfl
theorem cat_words (t : IsC h c D es) (few : es.length < 31) : Ok (m_Catalog_words [.ref c]) h fun r h' => r = .ref h.length ∧ h' = h ++ [.lst ((sortS (dedK (es.map (·.1)))).map W.str)] := by
  unfold m_Catalog_words
  refine ok_mFn' (s0 := [some (.ref c)]) rfl rfl (ok_sRet (ok_call (ok_aCons (cat_fld t rfl (ok_aNil (ok_sortSetD t.dOf (keys_txt es) (by rw [List.length_map]; exact few) ?_))))))
  exact ⟨rfl, rfl⟩
theorem cat_get {x : Str} {q : Nat} (t : IsC h c D es) (hx : isw x = true) (hv : valW (rfW es) (.inr x) = some (.ref q)) : Ok (m_Catalog___getitem__ [.ref c, .str x]) h fun r h' => r = .ref q ∧ h <+: h' := by
  unfold m_Catalog___getitem__
  refine ok_mFn' (s0 := [some (.ref c), some (.str x)]) rfl rfl (ok_sSeq (ok_sIf (ok_tOr (ok_tNot (ok_tTru (ok_call (ok_aCons (ok_var rfl (ok_aNil ?_)))))))))
  refine (is_word_ok hx (isw_lim hx)).imp fun r h2 z => ?_
  obtain ⟨rfl, p⟩ := z
  refine ok_tru_bl (okNT (ok_tVal (ok_bin (ok_var rfl (cat_fld (t.pre p) rfl (ok_din (t.pre p).dOf rfl ⟨_, rfl, ?_⟩))))))
  rw [hv]
  refine okF (ok_sNil ?_)
  change Ok _ h2 _
  exact ok_sRet (ok_bin (cat_fld (t.pre p) rfl (ok_var rfl (ok_dget (t.pre p).dOf rfl hv ⟨rfl, p⟩))))
end
theorem ok_mLcN {mi : MI} {g : MG} {t : MT} {e : ME} {vs : List Nat} {sw : SW} {h : Hw} {P : W → Hw → Prop} (Inv : Nat → List W → Hw → Prop) (D n : Nat)
    (o : Ok (mi sw) h fun src h1 => n ≤ src.2 ∧ D = h1.length ∧ Inv 0 [] (h1 ++ [.lst []]) ∧
      (∀ i acc h, i < n → Inv i acc h → h[D]? = some (.lst acc) → ∃ x, src.1.item i h = some (some x) ∧ Ok (g x (wipeW sw vs)) h fun s h2 => Ok (t s) h2 fun b h3 => (b = true → Ok (e s) h3 fun y h4 => h4[D]? = some (.lst acc) ∧ acc.length < lim ∧ Inv (i + 1) (acc ++ [y]) (h4.set D (.lst (acc ++ [y])))) ∧ (b = false → h3[D]? = some (.lst acc) ∧ Inv (i + 1) acc h3)) ∧
      (∀ acc h, Inv n acc h → h[D]? = some (.lst acc) → src.1.item n h = some none ∧ P (.ref D) h)) : Ok (mLc mi g t e vs sw) h P := by
  refine ok_bnd (o.imp fun src h1 o => ?_)
  obtain ⟨hnn, eD, h0, hs, he⟩ := o
  have go : ∀ (k i : Nat) (acc : List W) (h : Hw), i + k = n → Inv i acc h → h[D]? = some (.lst acc) → ∀ m, n < i + m → Ok (lcGo src.1 g t e vs (.ref D) sw i m) h fun _ h' => P (.ref D) h' := by
    intro k
    induction k with
    | zero =>
      intro i acc h ei p hD m hm
      have ei' : i = n := by omega
      subst ei'
      cases m with
      | zero => omega
      | succ m =>
        obtain ⟨e1, q⟩ := he acc h p hD
        exact ⟨(), h, by unfold lcGo; simp only [e1], q⟩
    | succ k ih =>
      intro i acc h ei p hD m hm
      cases m with
      | zero => omega
      | succ m =>
        obtain ⟨x, e1, o⟩ := hs i acc h (by omega) p hD
        have o' : Ok (bnd (g x (wipeW sw vs)) fun s => bnd (t s) fun b => if b = true then bnd (e s) (fun y => bnd (app (.ref D) y) fun _ => lcGo src.1 g t e vs (.ref D) sw (i + 1) m) else lcGo src.1 g t e vs (.ref D) sw (i + 1) m) h fun _ h' => P (.ref D) h' := ok_bnd (o.imp fun s h2 o => ok_bnd (o.imp fun b h3 o => by
          cases b with
          | false =>
            rw [if_neg Bool.false_ne_true]
            obtain ⟨a1, a2⟩ := o.2 rfl
            exact ih (i + 1) acc h3 (by omega) a2 a1 m (by omega)
          | true =>
            rw [if_pos rfl]
            refine ok_bnd ((o.1 rfl).imp fun y h4 o => ?_)
            obtain ⟨a1, a2, a3⟩ := o
            refine ok_bnd ⟨(), h4.set D (.lst (acc ++ [y])), ?_, ?_⟩
            · show (match h4[D]? with
                | some (.lst acc) => if acc.length < lim then EL.R.ok () (h4.set D (.lst (acc ++ [y]))) else EL.R.no
                | _ => EL.R.no) = _
              rw [a1]
              simp only [if_pos a2]
            · refine ih (i + 1) (acc ++ [y]) _ (by omega) a3 ?_ m (by omega)
              rw [List.getElem?_set, if_pos rfl, if_pos (List.getElem?_eq_some_iff.mp a1).1]))
        obtain ⟨u, h2, e2, q⟩ := o'
        exact ⟨u, h2, by unfold lcGo; simp only [e1]; exact e2, q⟩
  subst eD
  refine ok_bnd ⟨.ref h1.length, h1 ++ [.lst []], rfl, ok_bnd ((go n 0 [] _ (by omega) h0 (by simp) (src.2 + 1) (by omega)).imp fun _ _ q => ok_rtn q)⟩

theorem frX_ok {a whole : ME} {sw : SW} {h : Hw} {P Q : W → Hw → Prop} (o : Ok (a sw) h Q) (k : Ok (whole sw) h P) : Ok (frX a whole sw) h P := by
  obtain ⟨x, h1, e, _⟩ := o
  obtain ⟨w, h2, e2, p⟩ := k
  exact ⟨w, h2, by unfold frX noX; rw [e, e2], p⟩
theorem frX_ex {a whole : ME} {sw : SW} {h h' : Hw} {c : Str} {v : W} (e : a sw h = .ex c v h') : frX a whole sw h = .ex c v h' := by
  unfold frX
  rw [e]
theorem Kb.pre {n : Nat} {h h' : Hw} (k : Kb n h h') (hn : h.length ≤ n) : h <+: h' := pre_get' fun j o e => k j o (by have := (List.getElem?_eq_some_iff.mp e).1; omega) e
/-! ### the rows of an opened list -/
def abc : Str := Str.ofString "abcdefghijklmnopqrstuvwxyz"
def letter (i : Nat) : Str := ⟨#[97 + i]⟩
theorem abc_at : ∀ i, i < 26 → abc.cps[i]? = some (97 + i) := by decide +kernel
theorem abc_size : abc.cps.size = 26 := by decide +kernel
theorem letter_w : ∀ i, i < 26 → isw (letter i) = true := by decide +kernel
def zrow (i : Nat) (t : Tr) : Pl := (letter i, t.1, t.2.1, t.2.2)
def zrows (i : Nat) : List Tr → List Pl
  | [] => []
  | t :: r => zrow i t :: zrows (i + 1) r
theorem zrows_len : ∀ (ts : List Tr) (i : Nat), (zrows i ts).length = ts.length
  | [], _ => rfl
  | _ :: r, i => by rw [zrows, List.length_cons, List.length_cons, zrows_len r]
theorem zrows_get : ∀ (ts : List Tr) (i j : Nat), (zrows i ts)[j]? = ts[j]?.map (zrow (i + j))
  | [], i, j => by simp [zrows]
  | t :: r, i, 0 => by simp [zrows]
  | t :: r, i, j + 1 => by
    rw [zrows, List.getElem?_cons_succ, List.getElem?_cons_succ, zrows_get r]
    rw [show i + 1 + j = i + (j + 1) by omega]
theorem zrows_snoc {ts : List Tr} {i : Nat} (hi : i < ts.length) : (zrows 0 ts).take (i + 1) = (zrows 0 ts).take i ++ [zrow i ts[i]] := by
  rw [List.take_add_one, zrows_get, List.getElem?_eq_getElem hi]
  simp
/-- a row of an opened list that may be a place -/
structure GoodT (t : Tr) : Prop where
  pl : isw t.1 = true
  n1 : 1 ≤ t.2.1
  n2 : t.2.1 ≤ 999
  sh : ∀ k, t.2.2 = some k → 0 ≤ k ∧ k ≤ t.2.1
theorem zrows_good {ts : List Tr} (ne : ts ≠ []) (lt : ts.length ≤ 12) (g : ∀ t ∈ ts, GoodT t) : GoodL (zrows 0 ts) := by
  refine ⟨fun z => ?_, by rw [zrows_len]; exact lt, fun p hp => ?_, ?_⟩
  · cases ts with
    | nil => exact ne rfl
    | cons t r => cases z
  · obtain ⟨j, hj, e⟩ := List.mem_iff_getElem.mp hp
    have e2 := zrows_get ts 0 j
    rw [List.getElem?_eq_getElem hj, e] at e2
    rw [zrows_len] at hj
    rw [List.getElem?_eq_getElem hj] at e2
    have e3 : p = zrow (0 + j) ts[j] := Option.some.inj e2
    obtain ⟨a, b, c, d⟩ := g _ (List.getElem_mem hj)
    rw [e3]
    exact ⟨letter_w _ (by omega), a, b, c, d⟩
  · rw [List.nodup_iff_pairwise_ne, List.pairwise_iff_getElem]
    intro a b ha hb hab z
    rw [List.length_map, zrows_len] at ha hb
    have ga : ∀ c (hc : c < ts.length), ((zrows 0 ts).map (·.1))[c]? = some (letter c) := fun c hc => by
      rw [List.getElem?_map, zrows_get, List.getElem?_eq_getElem hc, Nat.zero_add]
      rfl
    have e1 := ga a ha
    have e2 := ga b hb
    rw [List.getElem?_eq_getElem (by rw [List.length_map, zrows_len]; exact ha)] at e1
    rw [List.getElem?_eq_getElem (by rw [List.length_map, zrows_len]; exact hb)] at e2
    have e3 : letter a = letter b := by
      rw [← Option.some.inj e1, ← Option.some.inj e2]
      exact z
    unfold letter at e3
    simp at e3
    omega
/-! ### opened -/
structure CB (h : Hw) (c D : Nat) (es : Es) (B : Bk) : Prop where
  c : IsC h c D es
  d : PD h D B (rfW es)
  few : B.length ≤ 80
  g : GoodB B
theorem CB.pre {h h' : Hw} {c D : Nat} {es : Es} {B : Bk} (t : CB h c D es B) (p : h <+: h') : CB h' c D es B := ⟨t.c.pre p, t.d.pre p, t.few, t.g⟩
theorem opened_ok {h : Hw} {c D : Nat} {es : Es} {B : Bk} {n : Nat} {x : Str} (t : CB h c D es B) (hn : n = 12) (f : fits B n x) (nr : nor B n [x] x) (hx : isw x = true) (ne : opn B n x 1 ≠ []) (gt : cnt B n x ≤ 12 → ∀ r ∈ opn B n x 1, GoodT r) :
    Out (m_Catalog_opened [.ref c, .str x]) h (fun r h' => cnt B n x ≤ 12 ∧ h <+: h' ∧ ∃ p, r = .ref p ∧ h'[p]? = some (plF (zrows 0 (opn B n x 1)))) (fun e v h' => 12 < cnt B n x ∧ h <+: h' ∧ e = "TooMany" ∧ v = .int 12) := by
  subst hn
  have kx : keyIn B x = true := f.1
  unfold m_Catalog_opened
  refine out_mFn' (s0 := [some (.ref c), some (.str x), none, none, none]) rfl rfl ?_
  refine out_sSeq (out_ok (ok_noX (ok_sIf (ok_tVal (ok_bin (ok_var rfl (ok_var rfl (ok_ownIn t.c.ins ?_))))))))
  refine (cat_in t.c (isw_lim hx)).imp fun r h1 z => ?_
  obtain ⟨rfl, p1⟩ := z
  rw [hx, t.d.dom, kx]
  refine ⟨_, rfl, _, rfl, okF (ok_sNil ?_)⟩
  have t1 := t.pre p1
  change Out _ h1 _ _
  refine out_sSeq (out_sIf (out_ok (ok_noX (ok_tVal (ok_bin (ok_call (ok_aCons (cat_fld t1.c rfl (ok_aCons (ok_var rfl (ok_aCons ?_)))))))))))
  refine ok_tup (ok_aCons (ok_var rfl (ok_aNil ⟨Nat.le_of_ble_eq_true rfl, ok_aCons (ok_dnew (ok_aNil ?_))⟩)))
  have pz : h1 <+: h1 ++ [O.dK []] := List.prefix_append _ _
  have cd : CD (h1 ++ [O.dK []]) h1.length B [] := ⟨by simp [kvW], (fun y i z => nomatch z), List.nodup_nil, (fun y z => nomatch z)⟩
  have nD : D ≠ h1.length := Nat.ne_of_lt (List.getElem?_eq_some_iff.mp t1.c.d).1
  refine (count_ok t.g (by have := t.few; omega) 12 (cs := []) (ws := [x]) ((t1.pre pz).d) nD f nr (Nat.le_of_ble_eq_true rfl) cd).imp fun r h2 z => ?_
  obtain ⟨rfl, kb, l2, _⟩ := z
  have p2 : h1 <+: h2 := pre_get' fun j o e => by
    have lt := (List.getElem?_eq_some_iff.mp e).1
    exact kb j o (by omega) (get_app e)
  refine ok_c (ok_cmpI ⟨_, rfl, ?_⟩)
  have t2 := t1.pre p2
  by_cases hc : 12 < cnt B 12 x
  · rw [show decide ((cnt B 12 x : Int) > 12) = true from decide_eq_true (by omega)]
    refine ⟨fun _ => out_raise (ok_noX (ok_aCons (ok_c (ok_aNil ⟨_, rfl, hc, p1.trans p2, rfl, rfl⟩)))), fun z => (by cases z)⟩
  · have hc' : cnt B 12 x ≤ 12 := by omega
    rw [show decide ((cnt B 12 x : Int) > 12) = false from decide_eq_false (by omega)]
    refine ⟨fun z => (by cases z), fun _ => out_ok (ok_sNil ?_)⟩
    change Out _ h2 _ _
    refine out_ok (ok_sSeq (ok_noX (ok_sAsg (ok_call (ok_aCons (cat_fld t2.c rfl (ok_aCons (ok_var rfl (ok_aCons (ok_c (ok_aNil ?_)))))))))))
    have len := opn_len (B := B) 12 x 1
    refine (put_in_ok t.g 12 t2.d f (by omega)).imp fun r h3 z => ?_
    obtain ⟨L, rfl, lL, p3, eL⟩ := z
    refine ok_gNm ?_
    change Ok _ h3 _
    generalize hts : opn B 12 x 1 = ts at eL len ne gt ⊢
    have lt : ts.length ≤ 12 := by omega
    have gl := zrows_good ne lt (gt hc')
    refine ok_noX (ok_sRet (make_ok gl (ok_aCons ?_)))
    refine ok_mLcN (fun i acc h' => acc = ((zrows 0 ts).take i).map rowW ∧ h' = h3 ++ [.lst acc]) h3.length ts.length ?_
    refine ok_bnd (ok_c (ok_bnd (ok_var rfl ⟨(.zSL abc L, abc.cps.size), h3, ?_, ?_⟩)))
    · show (match h3[L]? with
        | some (.lst ys) => EL.R.ok (Src.zSL abc L, abc.cps.size) h3
        | _ => EL.R.no) = _
      rw [eL]
    refine ⟨by show ts.length ≤ abc.cps.size; rw [abc_size]; omega, rfl, ⟨by simp, by simp⟩, fun i acc h' hi q hd => ?_, fun acc h' q hd => ?_⟩
    · obtain ⟨rfl, rfl⟩ := q
      refine ⟨.tup [.str (letter i), trW ts[i]], ?_, ?_⟩
      · show (match (h3 ++ [O.lst _])[L]? with
          | some (.lst ys) => some (match abc.cps[i]?, ys[i]? with
            | some c, some y => some (W.tup [.str ⟨#[c]⟩, y])
            | _, _ => none)
          | _ => none) = _
        rw [get_app eL, abc_at i (by omega)]
        simp only [List.getElem?_map, List.getElem?_eq_getElem hi, Option.map_some]
        rfl
      refine ok_gTu rfl (ok_gsCons (ok_gNm (ok_gsCons (ok_gNm (ok_gsNil ?_)))))
      refine ok_rtn (okT ?_)
      refine ok_tup (ok_aCons (ok_var rfl (ok_aStar (ok_var rfl ⟨[.str ts[i].1, .int ts[i].2.1, sW ts[i].2.2], rfl, ok_aNil ⟨Nat.le_of_ble_eq_true rfl, ?_⟩⟩))))
      refine ⟨hd, by rw [List.length_map, List.length_take, zrows_len]; unfold lim; omega, ?_, ?_⟩
      · rw [zrows_snoc hi, List.map_append]
        rfl
      · rw [List.set_append_right _ _ (Nat.le_refl _), Nat.sub_self]
        rfl
    · obtain ⟨rfl, rfl⟩ := q
      refine ⟨?_, ?_⟩
      · show (match (h3 ++ [O.lst _])[L]? with
          | some (.lst ys) => some (match abc.cps[ts.length]?, ys[ts.length]? with
            | some c, some y => some (W.tup [.str ⟨#[c]⟩, y])
            | _, _ => none)
          | _ => none) = _
        rw [get_app eL, abc_at ts.length (by omega)]
        simp only [List.getElem?_map, List.getElem?_eq_none (Nat.le_refl _), Option.map_none]
      refine ok_aNil ⟨_, rfl, .inl ⟨h3.length, rfl, ?_⟩, fun h4 p4 e4 => ?_⟩
      · rw [hd, List.take_of_length_le (by rw [zrows_len]; exact Nat.le_refl _)]
      · exact ⟨hc', p1.trans (p2.trans (p3.trans ((List.prefix_append _ _).trans p4))), _, rfl, e4⟩
def tO : ME := mMeth "Catalog" "opened" m_Catalog_opened [] (noX (mVar 0)) (noX (aCons (mVar 1) aNil))
def tP : ME := frX tO (mMeth "PartsList" "places" m_PartsList_places [] tO aNil)
theorem told_eq : m__law_told = mFn 2 4 (sTryY (sRet (frX tP (mLc (iAny tP) (gNm 3) tYs (mVar 3) [3]))) [("TooMany", ["BadPlace"], (fun v => rtn v)), ("BadPlace", ["TooMany"], (fun _ => rtn (.str "great")))]) := rfl
theorem tO_out {sw : SW} {h : Hw} {c D : Nat} {es : Es} {x : Str} {P : W → Hw → Prop} {PX : Str → W → Hw → Prop} (e0 : sw[0]? = some (some (.ref c))) (e1 : sw[1]? = some (some (.str x))) (t : IsC h c D es) (o : Out (m_Catalog_opened [.ref c, .str x]) h P PX) : Out (tO sw) h P PX := by
  unfold tO mMeth
  refine out_bnd (out_ok (ok_noX (ok_var e0 ?_)))
  refine out_bnd (out_ok ⟨(), h, ?_, ?_⟩)
  · unfold isIns
    dsimp only
    rw [t.c]
    unfold catF
    dsimp only
    rw [if_pos ⟨rfl, by rw [cat_lk (by decide +kernel)]; rfl⟩]
  refine out_bnd (out_ok (ok_noX (ok_aCons (ok_var e1 (ok_aNil ?_)))))
  exact o
theorem told_ok {h : Hw} {c D : Nat} {es : Es} {B : Bk} {x : Str} (t : CB h c D es B) (f : fits B 12 x) (nr : nor B 12 [x] x) (hx : isw x = true) (ne : opn B 12 x 1 ≠ []) (gt : cnt B 12 x ≤ 12 → ∀ r ∈ opn B 12 x 1, GoodT r) :
    Ok (m__law_told [.ref c, .str x]) h fun r h' => h <+: h' ∧ (12 < cnt B 12 x → r = .int 12) ∧ (cnt B 12 x ≤ 12 → ∃ L, r = .ref L ∧ h'[L]? = some (.lst ((zrows 0 (opn B 12 x 1)).map rowW))) := by
  rw [told_eq]
  refine ok_mFn' (s0 := [some (.ref c), some (.str x), none, none]) rfl rfl ?_
  have o : Out (tO [some (.ref c), some (.str x), none, none]) h _ _ := tO_out rfl rfl t.c (opened_ok t rfl f nr hx ne gt)
  refine ok_sTryY ?_
  rcases o with ⟨a, h1, e1, hc, p1, p, rfl, ep⟩ | ⟨ce, v, h1, e1, hc, p1, rfl, rfl⟩
  · have len := opn_len (B := B) 12 x 1
    have o1 : Ok (tO [some (.ref c), some (.str x), none, none]) h fun r h' => r = .ref p ∧ h' = h1 := ⟨_, _, e1, rfl, rfl⟩
    have o2 : Ok (tP [some (.ref c), some (.str x), none, none]) h fun r h' => r = .ref h1.length ∧ h' = h1 ++ [.lst ((zrows 0 (opn B 12 x 1)).map rowW)] := by
      refine frX_ok o1 (ok_meth (o1.imp fun r h' z => ?_))
      obtain ⟨rfl, rfl⟩ := z
      refine ⟨⟨p, _, rfl, ep, pl_lk (by decide +kernel)⟩, ok_aNil ?_⟩
      exact places_ok ep
    refine out_ok (ok_sRet (frX_ok o2 ?_))
    have lp : (zrows 0 (opn B 12 x 1)).length ≤ 12 := by rw [zrows_len, len]; exact hc
    generalize zrows 0 (opn B 12 x 1) = ps at o2 ep lp ⊢
    generalize hZ : h1 ++ [O.lst (ps.map rowW)] = hz at o2
    have ez : hz[h1.length]? = some (.lst (ps.map rowW)) := by rw [← hZ]; simp
    refine ok_mLc (fun i acc h' => acc = (ps.take i).map rowW ∧ h' = hz ++ [.lst acc]) hz.length (ok_iAnyL (o2.imp fun r h' z => ?_))
    obtain ⟨rfl, rfl⟩ := z
    refine ⟨h1.length, ps.map rowW, rfl, ez, rfl, ⟨by simp, by simp⟩, fun i acc h' hi q hd => ?_, fun acc h' q hd => ?_⟩
    · obtain ⟨rfl, rfl⟩ := q
      have hi' : i < ps.length := by simpa using hi
      refine ⟨rowW ps[i], by rw [item_lst (get_app ez), List.getElem?_map, List.getElem?_eq_getElem hi']; rfl, ok_gNm (ok_rtn (okT (ok_var rfl ?_)))⟩
      refine ⟨hd, by rw [List.length_map, List.length_take]; unfold lim; omega, ?_, ?_⟩
      · rw [List.take_add_one, List.getElem?_eq_getElem hi', List.map_append]
        rfl
      · rw [List.set_append_right _ _ (Nat.le_refl _), Nat.sub_self]
        rfl
    · obtain ⟨rfl, rfl⟩ := q
      have e' : (ps.take (ps.map rowW).length) = ps := by rw [List.length_map, List.take_length]
      refine ⟨by rw [item_lst (get_app ez), List.getElem?_eq_none (Nat.le_refl _)], ?_⟩
      dsimp only at hd ⊢
      rw [e'] at hd ⊢
      refine ⟨p1.trans ?_, fun z => by omega, fun _ => ⟨_, rfl, hd⟩⟩
      rw [← hZ, List.append_assoc]
      exact List.prefix_append _ _
  · refine .inr ⟨Str.ofString "TooMany", .int 12, h1, ?_, ?_⟩
    · have eP : tP [some (W.ref c), some (W.str x), none, none] h = .ex (Str.ofString "TooMany") (.int 12) h1 := frX_ex e1
      have eF : frX tP (mLc (iAny tP) (gNm 3) tYs (mVar 3) [3]) [some (W.ref c), some (W.str x), none, none] h = .ex (Str.ofString "TooMany") (.int 12) h1 := frX_ex eP
      unfold sRet bnd
      rw [eF]
    · exact ok_goH (ok_rtn ⟨p1, fun _ => rfl, fun z => by omega⟩)
theorem draw_eq : m__law_draw = cDraw := rfl
theorem pool_eq : m__law_pool = cPool := rfl
def PoolAt (n : Nat) (h : Hw) : Prop := ∃ a b : Int, 0 ≤ a ∧ 0 ≤ b ∧ h[n]? = some (pl a b)
theorem PoolAt.pre {n : Nat} {h h' : Hw} (p : PoolAt n h) (q : h <+: h') : PoolAt n h' :=
  let ⟨a, b, a0, b0, e⟩ := p
  ⟨a, b, a0, b0, Pre.get q e⟩
theorem PoolAt.lt {n : Nat} {h : Hw} (p : PoolAt n h) : n < h.length := let ⟨_, _, _, _, e⟩ := p; (List.getElem?_eq_some_iff.mp e).1
theorem PoolAt.set {n D : Nat} {h : Hw} {o : O} (p : PoolAt n h) (hD : D ≠ n) : PoolAt n (h.set D o) :=
  let ⟨a, b, a0, b0, e⟩ := p
  ⟨a, b, a0, b0, by rw [get_set_ne hD]; exact e⟩
theorem draw {n : Nat} {h : Hw} {m : Int} (p : PoolAt n h) (hm : 0 < m) (hl : m.natAbs.log2 < 9000) : Ok (m__law_draw [.ref n, .int m]) h fun r h' => ∃ v, r = .int v ∧ 0 ≤ v ∧ v < m ∧ PoolAt n h' ∧ Kb n h h' ∧ h'.length = h.length := by
  obtain ⟨a, b, a0, b0, e⟩ := p
  rw [draw_eq]
  refine draw_ok e a0 b0 hm hl fun r a' b' r0 r1 a0' b0' => ⟨r, rfl, r0, r1, ⟨a', b', a0', b0', get_set e⟩, fun j o hj eo => ?_, by rw [List.length_set]⟩
  rw [get_set_ne (Ne.symm hj)]
  exact eo
theorem log_small {k : Nat} (hk : k ≤ 1000) : ((k : Int)).natAbs.log2 < 9000 := by
  have : ((k : Int)).natAbs = k := rfl
  rw [this]
  have := Nat.log2_le_self k
  omega
theorem pick {n L : Nat} {h : Hw} {xs : List W} (p : PoolAt n h) (e : h[L]? = some (.lst xs)) (hL : L ≠ n) (ne : xs ≠ []) (few : xs.length ≤ 1000) : Ok (m__law_pick [.ref n, .ref L]) h fun r h' => r ∈ xs ∧ PoolAt n h' ∧ Kb n h h' ∧ h'.length = h.length := by
  have hl : 0 < xs.length := List.length_pos_iff.mpr ne
  unfold m__law_pick
  walk_at "okF"
  refine ok_lenL e ?_
  walk_at "ok"
  refine (draw p (by omega) (log_small few)).imp fun r h1 q => ?_
  obtain ⟨v, rfl, v0, v1, pa, kb, le⟩ := q
  obtain ⟨j, rfl⟩ := Int.eq_ofNat_of_zero_le v0
  have hj : j < xs.length := by omega
  refine ok_ixL (kb L _ hL e) (w := xs[j]) (by rw [atI_nat (List.getElem?_eq_getElem hj)]) ?_
  exact ⟨List.getElem_mem hj, pa, kb, le⟩

def names : List Str := ["la", "lb", "lc", "ld"]
def words3 : List Str := ["x", "y", "z"]
def rowsLoop : MS := (sForI (iAny (mSl (mLst (aCons (mC (.str "x")) (aCons (mC (.str "y")) (aCons (mC (.str "z")) aNil)))) oNo (oSo (mBin fAdd (mC (.int 1)) (mCall m__law_draw (aCons (mVar 3) (aCons (mC (.int 3)) aNil))))))) (gNm 8) (sSeq (sAsg (gNm 9) (mBin fAdd (mC (.int 1)) (mCall m__law_draw (aCons (mVar 3) (aCons (mC (.int 4)) aNil)))))
    (sSeq (sAsg (gTu 2 (gsCons (gNm 10) (gsCons (gNm 11) gsNil))) (mTup (aCons (mCall m__law_pick (aCons (mVar 3) (aCons (mBin fAdd (mLst (aCons (mC (.str "p")) (aCons (mC (.str "q")) aNil))) (mSl (mVar 1) (oSo (mBin fAdd (mVar 5) (mC (.int 1)))) oNo)) aNil))) (aCons (mCall m__law_pick (aCons (mVar 3) (aCons (mLst (aCons (mC .non) (aCons (mC (.int 0)) (aCons (mVar 9) aNil)))) aNil))) aNil))))
    (sExp (mApp (mVar 7) (mTup (aCons (mVar 8) (aCons (mVar 10) (aCons (mVar 9) (aCons (mVar 11) aNil))))))))))
def bookLoop : MS := (sForI (iEnu (mVar 1)) (gTu 2 (gsCons (gNm 5) (gsCons (gNm 6) gsNil))) (sSeq (sAsg (gNm 7) (mLst aNil))
    (sSeq rowsLoop
    (sDput (mVar 4) (mVar 6) (mVar 7)))))
abbrev sL (s0 k : Option W) (N n D : Nat) (i : Int) (nm : Option W) (R : Nat) (y8 y9 y10 y11 y12 y13 y14 y15 : Option W) : SW :=
  [s0, some (.ref N), k, some (.ref n), some (.ref D), some (.int i), nm, some (.ref R), y8, y9, y10, y11, y12, y13, y14, y15]
/-- rows as the law draws them -/
structure DR (i : Nat) (ps : List Pl) : Prop where
  ne : ps ≠ []
  few : ps.length ≤ 3
  w : ps.map (·.1) = words3.take ps.length
  g : ∀ p ∈ ps, GoodP p ∧ p.2.2.1 ≤ 4 ∧ (p.2.1 = "p" ∨ p.2.1 = "q" ∨ p.2.1 ∈ names.drop (i + 1))
def Kb2 (n R : Nat) (h h' : Hw) : Prop := ∀ j o, j ≠ n → j ≠ R → h[j]? = some o → h'[j]? = some o
theorem rows_ok {s0 k nm y8 y9 y10 y11 y12 y13 y14 y15 : Option W} {N n D R i : Nat} {h : Hw} (p : PoolAt n h) (eN : h[N]? = some (.lst (names.map W.str))) (nN : N ≠ n) (eR : h[R]? = some (.lst [])) (nR : R ≠ n) (nNR : N ≠ R) (hi4 : i < 4) :
    Ok (rowsLoop (sL s0 k N n D (i : Int) nm R y8 y9 y10 y11 y12 y13 y14 y15)) h fun f h' => ∃ ps z8 z9 z10 z11, f = .nx (sL s0 k N n D (i : Int) nm R z8 z9 z10 z11 y12 y13 y14 y15) ∧ DR i ps ∧ h'[R]? = some (.lst (ps.map rowW)) ∧ PoolAt n h' ∧ Kb2 n R h h' ∧ h.length ≤ h'.length := by
  have ln := p.lt
  have lN := (List.getElem?_eq_some_iff.mp eN).1
  have lR := (List.getElem?_eq_some_iff.mp eR).1
  unfold rowsLoop
  refine ok_sForI (ok_iAnyL ?_)
  refine ok_sl (ok_lst (ok_aCons (ok_c (ok_aCons (ok_c (ok_aCons (ok_c (ok_aNil ⟨by decide +kernel, ?_⟩))))))))
  refine ok_oNo (ok_oSo (ok_bin (ok_c (ok_call (ok_aCons (ok_var rfl (ok_aCons (ok_c (ok_aNil ?_)))))))))
  refine (draw (p.pre (List.prefix_append _ _)) (by omega) (by decide +kernel)).imp fun r h1 q => ?_
  obtain ⟨v, rfl, v0, v1, p1, k1, l1⟩ := q
  obtain ⟨m, hm⟩ := Int.eq_ofNat_of_zero_le (show 0 ≤ 1 + v by omega)
  refine ok_addI ⟨_, rfl, ?_⟩
  rw [hm]
  have e3 : h1[h.length]? = some (.lst (words3.map W.str)) := k1 _ _ (by omega) (by simp [words3])
  refine ok_slL e3 ?_
  have ct : cutW (words3.map W.str) none (some (m : Int)) = (words3.take m).map W.str := by
    unfold cutW
    rw [HT.sIx_none, HT.sIx_nat, Nat.min_eq_left (by simp [words3]; omega), List.drop_zero, Nat.sub_zero, List.map_take]
  rw [ct]
  have l3 : (words3.take m).length = m := by rw [List.length_take]; simp [words3]; omega
  have kz : Kb n h (h1 ++ [O.lst ((words3.take m).map W.str)]) := fun j o hj e => get_app (k1 j o hj (get_app e))
  refine ⟨h1.length, (words3.take m).map W.str, rfl, by simp, ?_⟩
  have eS : (h1 ++ [O.lst ((words3.take m).map W.str)])[h1.length]? = some (.lst ((words3.take m).map W.str)) := by simp
  have pz := p1.pre (List.prefix_append h1 [O.lst ((words3.take m).map W.str)])
  have lz : h1.length < (h1 ++ [O.lst ((words3.take m).map W.str)]).length := by simp
  have lh1 : h.length < h1.length := by rw [l1]; simp
  generalize h1 ++ [O.lst ((words3.take m).map W.str)] = hz at kz eS pz lz ⊢
  refine ok_sFor (fun j sw hc => ∃ ps z8 z9 z10 z11, sw = sL s0 k N n D (i : Int) nm R z8 z9 z10 z11 y12 y13 y14 y15 ∧ ps.length = j ∧ ps.map (·.1) = words3.take j ∧ (∀ p ∈ ps, GoodP p ∧ p.2.2.1 ≤ 4 ∧ (p.2.1 = "p" ∨ p.2.1 = "q" ∨ p.2.1 ∈ names.drop (i + 1))) ∧ hc[R]? = some (.lst (ps.map rowW)) ∧ PoolAt n hc ∧ Kb2 n R hz hc ∧ h1.length < hc.length) (n := m) _ (by rw [List.length_map, l3]; exact Nat.le_refl _)
    ⟨[], _, _, _, _, rfl, rfl, rfl, (fun p z => nomatch z), kz _ _ nR eR, pz, fun _ _ _ _ e => e, lz⟩ (fun j sw hc hj q => ?_) (fun sw hc q => ?_)
  · obtain ⟨ps, z8, z9, z10, z11, rfl, lp, wp, gp, eD, pc, kc, lc⟩ := q
    have hj3 : j < words3.length := by simp [words3]; omega
    have eS' := kc _ _ (by omega) (by omega) eS
    refine ⟨.str words3[j], by rw [item_lst eS', List.getElem?_map, List.getElem?_take_of_lt hj, List.getElem?_eq_getElem hj3]; rfl, ok_gNm ?_⟩
    change Ok _ hc _
    refine ok_sSeq (ok_sAsg (ok_bin (ok_c (ok_call (ok_aCons (ok_var rfl (ok_aCons (ok_c (ok_aNil ?_)))))))))
    refine (draw pc (by omega) (by decide +kernel)).imp fun r h2 q => ?_
    obtain ⟨v, rfl, v0, v1, p2, k2, l2⟩ := q
    refine ok_addI (ok_gNm ?_)
    change Ok _ h2 _
    have eN2 := k2 _ _ nN (kc _ _ nN nNR (kz _ _ nN eN))
    refine ok_sSeq (ok_sAsg (ok_tup (ok_aCons (ok_call (ok_aCons (ok_var rfl (ok_aCons ?_)))))))
    refine ok_bin (ok_lst (ok_aCons (ok_c (ok_aCons (ok_c (ok_aNil ⟨by decide +kernel, ?_⟩))))))
    refine ok_sl (ok_var rfl (ok_oSo (ok_bin (ok_var rfl (ok_c (ok_addI ⟨_, rfl, ok_oNo ?_⟩))))))
    have eN3 : (h2 ++ [O.lst [W.str "p", W.str "q"]])[N]? = some (.lst (names.map W.str)) := get_app eN2
    refine ok_slL eN3 ?_
    have ctn : cutW (names.map W.str) (some ((i : Int) + 1)) none = (names.drop (i + 1)).map W.str := by
      unfold cutW
      have : ((i : Int) + 1) = ((i + 1 : Nat) : Int) := by omega
      rw [this, HT.sIx_nat, HT.sIx_none, Nat.min_eq_left (by simp [names]; omega), List.take_of_length_le (by rw [List.length_drop]; exact Nat.le_refl _), List.map_drop]
    rw [ctn]
    refine ok_addL (p := h2.length) (xs := [W.str "p", W.str "q"]) (ys := (names.drop (i + 1)).map W.str) (by simp) (by simp) (by rw [List.length_map, List.length_drop]; unfold lim; simp [names]; omega) (ok_aNil ?_)
    have kq : hz.length ≤ hz.length := Nat.le_refl _
    have l2' : h2.length = hc.length := l2
    generalize hg : h2 ++ [O.lst [W.str "p", W.str "q"]] ++ [O.lst ((names.drop (i + 1)).map W.str)] = h3
    have l3' : h3.length = h2.length + 2 := by rw [← hg]; simp
    have pre3 : h2 <+: h3 := by rw [← hg, List.append_assoc]; exact List.prefix_append _ _
    have e4 : (h3 ++ [O.lst ([W.str "p", W.str "q"] ++ (names.drop (i + 1)).map W.str)])[h3.length]? = some (.lst ([W.str "p", W.str "q"] ++ (names.drop (i + 1)).map W.str)) := by simp
    have ln2 := p2.lt
    have p3 := p2.pre (pre3.trans (List.prefix_append h3 [O.lst ([W.str "p", W.str "q"] ++ (names.drop (i + 1)).map W.str)]))
    refine (pick p3 e4 (by omega) (by simp) (by rw [List.length_append, List.length_map, List.length_drop]; simp [names]; omega)).imp fun r h4 q => ?_
    obtain ⟨hr, p4, k4, l4⟩ := q
    obtain ⟨pl, rfl, hpl⟩ : ∃ pl : Str, r = .str pl ∧ (pl = "p" ∨ pl = "q" ∨ pl ∈ names.drop (i + 1)) := by
      rcases List.mem_append.mp hr with hr | hr
      · simp only [List.mem_cons, List.not_mem_nil, or_false] at hr
        rcases hr with rfl | rfl
        · exact ⟨_, rfl, .inl rfl⟩
        · exact ⟨_, rfl, .inr (.inl rfl)⟩
      · obtain ⟨x, hx, rfl⟩ := List.mem_map.mp hr
        exact ⟨x, rfl, .inr (.inr hx)⟩
    have ln4 := p4.lt
    refine ok_aCons (ok_call (ok_aCons (ok_var rfl (ok_aCons (ok_lst (ok_aCons (ok_c (ok_aCons (ok_c (ok_aCons (ok_var rfl (ok_aNil ⟨Nat.le_of_ble_eq_true rfl, ok_aNil ?_⟩))))))))))))
    have e5 : (h4 ++ [O.lst [W.non, .int 0, .int (1 + v)]])[h4.length]? = some (.lst [W.non, .int 0, .int (1 + v)]) := by simp
    refine (pick (p4.pre (List.prefix_append _ _)) e5 (by omega) (by simp) (by simp)).imp fun r h5 q => ?_
    obtain ⟨hr5, p5, k5, l5⟩ := q
    obtain ⟨sh, rfl, hsh⟩ : ∃ sh : Option Int, r = sW sh ∧ ∀ k, sh = some k → 0 ≤ k ∧ k ≤ 1 + v := by
      simp only [List.mem_cons, List.not_mem_nil, or_false] at hr5
      rcases hr5 with rfl | rfl | rfl
      · exact ⟨none, rfl, fun k z => by cases z⟩
      · exact ⟨some 0, rfl, fun k z => by cases z; omega⟩
      · exact ⟨some (1 + v), rfl, fun k z => by cases z; omega⟩
    refine ok_aNil ⟨Nat.le_of_ble_eq_true rfl, ok_gTu rfl (ok_gsCons (ok_gNm (ok_gsCons (ok_gNm (ok_gsNil ?_)))))⟩
    change Ok _ h5 _
    have kk : Kb n hc h5 := k2.trans ((Kb.of (pre3.trans (List.prefix_append _ _))).trans (k4.trans ((Kb.of (List.prefix_append _ _)).trans k5)))
    have eD5 := kk _ _ nR eD
    have wi : isw words3[j] = true := (by decide +kernel : ∀ a (ha : a < words3.length), isw words3[a] = true) j hj3
    have wp' : isw pl = true := by
      rcases hpl with rfl | rfl | hpl
      · decide +kernel
      · decide +kernel
      · exact (by decide +kernel : ∀ x ∈ names, isw x = true) _ (List.mem_of_mem_drop hpl)
    have gP : GoodP (words3[j], pl, 1 + v, sh) := ⟨wi, wp', by show 1 ≤ 1 + v; omega, by show 1 + v ≤ 999; omega, hsh⟩
    refine ok_sExp (ok_app (ok_var rfl ⟨R, _, rfl, eD5, ?_⟩))
    refine ok_tup (ok_aCons (ok_var rfl (ok_aCons (ok_var rfl (ok_aCons (ok_var rfl (ok_aCons (ok_var rfl (ok_aNil ⟨Nat.le_of_ble_eq_true rfl, ?_⟩)))))))))
    refine ⟨_, eD5, by rw [List.length_map, lp]; unfold lim; omega, ?_⟩
    refine ⟨ps ++ [(words3[j], pl, 1 + v, sh)], _, _, _, _, rfl, by simp [lp], ?_, fun q hq => ?_, by rw [get_set eD5, List.map_append]; rfl, p5.set nR, fun a o ha hb e => ?_, ?_⟩
    · rw [List.map_append, wp, List.take_add_one, List.getElem?_eq_getElem hj3]
      rfl
    · rcases List.mem_append.mp hq with hq | hq
      · exact gp q hq
      · have : q = (words3[j], pl, 1 + v, sh) := by simpa using hq
        rw [this]
        exact ⟨gP, by show 1 + v ≤ 4; omega, hpl⟩
    · rw [get_set_ne (Ne.symm hb)]
      exact kk a o ha (kc a o ha hb e)
    · rw [List.length_set]
      have : h4.length = h3.length + 1 := by rw [l4]; simp
      have : h5.length = h4.length + 1 := by rw [l5]; simp
      omega
  · obtain ⟨ps, z8, z9, z10, z11, rfl, lp, wp, gp, eD, pc, kc, lc⟩ := q
    have eS' := kc _ _ (by omega) (by omega) eS
    refine ⟨by rw [item_lst eS', List.getElem?_eq_none (by rw [List.length_map, l3]; exact Nat.le_refl _)], ps, z8, z9, z10, z11, rfl, ⟨fun z => by rw [z] at lp; simp at lp; omega, by omega, by rw [lp]; exact wp, gp⟩, eD, pc, fun a o ha hb e => kc a o ha hb (kz a o ha e), by omega⟩
theorem rf_put {es : Es} {x : Str} {q : Nat} (hx : x ∉ es.map (·.1)) : putKW (rfW es) (.inr x) (.ref q) = rfW (es ++ [(x, q)]) := by
  unfold putKW
  rw [if_neg]
  · unfold rfW
    rw [List.map_append]
    rfl
  · intro z
    obtain ⟨r, hr, e⟩ := List.any_eq_true.mp z
    unfold rfW at hr
    obtain ⟨s, hs, rfl⟩ := List.mem_map.mp hr
    have e' : s.1 = x := by
      have := of_decide_eq_true e
      injection this
    exact hx (e' ▸ List.mem_map_of_mem hs)
/-- the drawn book: where the names' rows lie -/
structure Bo (i N n D : Nat) (es : Es) (Rs : List (List Pl)) (h : Hw) : Prop where
  nm : es.map (·.1) = names.take i
  lr : Rs.length = es.length
  rw : ∀ (j : Nat) (e : Str × Nat) (ps : List Pl), es[j]? = some e → Rs[j]? = some ps → h[e.2]? = some (.lst (ps.map rowW)) ∧ DR j ps ∧ e.2 ≠ n ∧ e.2 ≠ N ∧ e.2 ≠ D
  d : h[D]? = some (.dK (rfW es))
  eN : h[N]? = some (.lst (names.map W.str))
  pool : PoolAt n h
theorem item_enu {h : Hw} {g i : Nat} {xs : List W} (e : h[g]? = some (.lst xs)) : (Src.enu g).item i h = some (xs[i]?.map fun x => W.tup [.int i, x]) := by
  unfold Src.item
  simp only [e]
theorem book_ok {s0 k y5 y6 y7 y8 y9 y10 y11 y12 y13 y14 y15 : Option W} {N n D : Nat} {h : Hw} (b : Bo 0 N n D [] [] h) (nN : N ≠ n) (nD : D ≠ n) (nND : N ≠ D) :
    Ok (bookLoop [s0, some (.ref N), k, some (.ref n), some (.ref D), y5, y6, y7, y8, y9, y10, y11, y12, y13, y14, y15]) h fun f h' => ∃ z5 z6 z7 z8 z9 z10 z11 es Rs, f = .nx [s0, some (.ref N), k, some (.ref n), some (.ref D), z5, z6, z7, z8, z9, z10, z11, y12, y13, y14, y15] ∧ Bo 4 N n D es Rs h' := by
  unfold bookLoop
  refine ok_sForI ?_
  refine ok_bnd (ok_var rfl ⟨(.enu N, 4), h, ?_, ?_⟩)
  · show (match h[N]? with
      | some (.lst xs) => EL.R.ok (Src.enu N, xs.length) h
      | _ => EL.R.no) = _
    rw [b.eN]
    rfl
  refine ok_sFor (fun i sw hc => ∃ z5 z6 z7 z8 z9 z10 z11 es Rs, sw = [s0, some (.ref N), k, some (.ref n), some (.ref D), z5, z6, z7, z8, z9, z10, z11, y12, y13, y14, y15] ∧ Bo i N n D es Rs hc) (n := 4) _ (Nat.le_refl _) ⟨_, _, _, _, _, _, _, [], [], rfl, b⟩ (fun i sw hc hi q => ?_) (fun sw hc q => ?_)
  · obtain ⟨z5, z6, z7, z8, z9, z10, z11, es, Rs, rfl, bo⟩ := q
    have hn4 : i < names.length := hi
    have le : es.length = i := by
      have := congrArg List.length bo.nm
      rw [List.length_map, List.length_take] at this
      omega
    refine ⟨.tup [.int i, .str names[i]], by rw [item_enu bo.eN, List.getElem?_map, List.getElem?_eq_getElem hn4]; rfl, ?_⟩
    refine ok_gTu rfl (ok_gsCons (ok_gNm (ok_gsCons (ok_gNm (ok_gsNil ?_)))))
    change Ok _ hc _
    refine ok_sSeq (ok_sAsg (ok_lst (ok_aNil ⟨by decide, ok_gNm ?_⟩)))
    change Ok _ (hc ++ [O.lst []]) _
    have ln := bo.pool.lt
    have lN := (List.getElem?_eq_some_iff.mp bo.eN).1
    have lD := (List.getElem?_eq_some_iff.mp bo.d).1
    have p1 : hc <+: hc ++ [O.lst []] := List.prefix_append _ _
    refine ok_sSeq ((rows_ok (D := D) (i := i) (nm := some (.str names[i])) (bo.pool.pre p1) (Pre.get p1 bo.eN) nN (by simp : (hc ++ [O.lst []])[hc.length]? = some (.lst [])) (by omega) (by omega) hi).imp fun f h1 z => ?_)
    obtain ⟨ps, w8, w9, w10, w11, rfl, dr, eR, po, kb, ll⟩ := z
    change Ok _ h1 _
    have kc : ∀ j o, j ≠ n → hc[j]? = some o → h1[j]? = some o := fun j o hj e => kb j o hj (by have := (List.getElem?_eq_some_iff.mp e).1; omega) (Pre.get p1 e)
    have eD1 := kc _ _ nD bo.d
    refine ok_dput (ok_var rfl (ok_var rfl (ok_var rfl ⟨D, rfW es, Sum.inr names[i], ?_, rfl, by unfold rfW; rw [List.length_map, le]; unfold lim; omega, ?_⟩)))
    · show (match h1[D]? with
        | some (.dK kvs) => some (D, kvs)
        | _ => none) = _
      rw [eD1]
    have nin : names[i] ∉ es.map (·.1) := by
      rw [bo.nm]
      intro z
      obtain ⟨j, hj, e⟩ := List.mem_iff_getElem.mp z
      rw [List.length_take] at hj
      rw [List.getElem_take] at e
      have nd : names.Nodup := by decide +kernel
      have := (List.pairwise_iff_getElem.mp (List.nodup_iff_pairwise_ne.mp nd)) j i (by omega) hn4 (by omega)
      exact this e
    rw [rf_put nin]
    have lR : hc.length < h1.length := by
      simp at ll
      omega
    refine ⟨_, _, _, _, _, _, _, es ++ [(names[i], hc.length)], Rs ++ [ps], rfl, ?_⟩
    refine ⟨?_, by simp [bo.lr], fun j e qs he hq => ?_, get_set eD1, by rw [get_set_ne (Ne.symm nND)]; exact kc _ _ nN bo.eN, po.set nD⟩
    · rw [List.map_append, bo.nm, List.take_add_one, List.getElem?_eq_getElem hn4]
      rfl
    · by_cases hj : j < es.length
      · rw [List.getElem?_append_left hj] at he
        rw [List.getElem?_append_left (by rw [bo.lr]; exact hj)] at hq
        obtain ⟨a1, a2, a3, a4, a5⟩ := bo.rw j e qs he hq
        exact ⟨by rw [get_set_ne (Ne.symm a5)]; exact kc _ _ a3 a1, a2, a3, a4, a5⟩
      · have hj' : j = es.length := by
          have := (List.getElem?_eq_some_iff.mp he).1
          rw [List.length_append, List.length_singleton] at this
          omega
        subst hj'
        rw [List.getElem?_append_right (Nat.le_refl _), Nat.sub_self] at he
        rw [List.getElem?_append_right (by rw [bo.lr]; exact Nat.le_refl _), bo.lr, Nat.sub_self] at hq
        cases he
        cases hq
        refine ⟨by rw [get_set_ne (by omega)]; exact eR, by rw [le]; exact dr, ?_, ?_, ?_⟩
        · show hc.length ≠ n
          omega
        · show hc.length ≠ N
          omega
        · show hc.length ≠ D
          omega
  · obtain ⟨z5, z6, z7, z8, z9, z10, z11, es, Rs, rfl, bo⟩ := q
    refine ⟨by rw [item_enu bo.eN]; rfl, ?_⟩
    exact ⟨_, _, _, _, _, _, _, es, Rs, rfl, bo⟩
/-- what lies within x, in order -/
structure Lv (B : Bk) (r : Str → Nat) (n : Nat) (x : Str) : Prop where
  f : fits B n x
  ne : ∀ k, opn B n x k ≠ []
  nor : ∀ ws, (∀ w ∈ ws, r x ≤ r w) → nor B n ws x
theorem opnL_ne {B : Bk} {n : Nat} {k : Int} {ps : List Pl} (hp : ps ≠ []) (h : ∀ p ∈ ps, keyIn B p.2.1 = true → ∀ k, opn B n p.2.1 k ≠ []) : opnL B n k ps ≠ [] := by
  cases ps with
  | nil => exact absurd rfl hp
  | cons p r =>
    rw [opnL]
    intro z
    have z1 := (List.append_eq_nil_iff.mp z).1
    split at z1
    · rename_i hk
      exact h p List.mem_cons_self hk _ z1
    · cases z1
theorem lv_step {B : Bk} {r : Str → Nat} {n : Nat} {x : Str} (kx : keyIn B x = true) (ne : rowsOf B x ≠ []) (h : ∀ p ∈ rowsOf B x, r p.2.1 < r x ∧ (keyIn B p.2.1 = true → Lv B r n p.2.1)) : Lv B r (n + 1) x := by
  refine ⟨⟨kx, fun p hp hk => ((h p hp).2 hk).f⟩, fun k => ?_, fun ws hw => ?_⟩
  · rw [opn]
    exact opnL_ne ne fun p hp hk => ((h p hp).2 hk).ne
  · intro p hp
    obtain ⟨lt, nx⟩ := h p hp
    refine ⟨fun z => ?_, fun hk => (nx hk).nor _ fun w hw2 => ?_⟩
    · have := hw _ z
      omega
    · rcases List.mem_append.mp hw2 with z | z
      · have := hw _ z
        omega
      · have : w = p.2.1 := by simpa using z
        rw [this]
        exact Nat.le_refl _
/-- how many, and how great -/
structure Lm (B : Bk) (n : Nat) (x : Str) (c : Nat) (K : Int) : Prop where
  len : ∀ k, (opn B n x k).length ≤ c
  g : ∀ k, 1 ≤ k → k ≤ K → ∀ t ∈ opn B n x k, GoodT t
theorem opnL_len' {B : Bk} {n c : Nat} {k : Int} : ∀ {ps : List Pl}, 1 ≤ c → (∀ p ∈ ps, keyIn B p.2.1 = true → ∀ k, (opn B n p.2.1 k).length ≤ c) → (opnL B n k ps).length ≤ ps.length * c
  | [], _, _ => by simp [opnL]
  | p :: r, h1, h => by
    rw [opnL, List.length_append, List.length_cons, Nat.succ_mul]
    have ih := opnL_len' (B := B) (n := n) (k := k) (ps := r) h1 fun q hq => h q (List.mem_cons_of_mem _ hq)
    have : (if keyIn B p.2.1 = true then opn B n p.2.1 (k * p.2.2.1) else [(p.2.1, k * p.2.2.1, p.2.2.2.map (· * k))]).length ≤ c := by
      split
      · rename_i hk
        exact h p List.mem_cons_self hk _
      · exact h1
    omega
theorem opnL_mem {B : Bk} {n : Nat} {k : Int} {t : Tr} : ∀ {ps : List Pl}, t ∈ opnL B n k ps → ∃ p ∈ ps, t ∈ one1 B n k p
  | [], h => by simp [opnL] at h
  | p :: r, h => by
    rw [opnL] at h
    rcases List.mem_append.mp h with h | h
    · exact ⟨p, List.mem_cons_self, h⟩
    · obtain ⟨q, hq, z⟩ := opnL_mem h
      exact ⟨q, List.mem_cons_of_mem _ hq, z⟩
theorem lm_step {B : Bk} {n c : Nat} {x : Str} {K : Int} (hc : 1 ≤ c) (hK : 4 * K ≤ 999) (few : (rowsOf B x).length ≤ 3) (h : ∀ p ∈ rowsOf B x, GoodP p ∧ p.2.2.1 ≤ 4 ∧ (keyIn B p.2.1 = true → Lm B n p.2.1 c (4 * K))) : Lm B (n + 1) x (3 * c) K := by
  refine ⟨fun k => ?_, fun k k1 k2 t ht => ?_⟩
  · rw [opn]
    have := opnL_len' (B := B) (n := n) (k := k) (c := c) (ps := rowsOf B x) hc fun p hp hk => ((h p hp).2.2 hk).len
    have : (rowsOf B x).length * c ≤ 3 * c := Nat.mul_le_mul_right _ few
    omega
  · rw [opn] at ht
    obtain ⟨p, hp, z⟩ := opnL_mem ht
    obtain ⟨gp, n4, nx⟩ := h p hp
    have hn1 := gp.n1
    have b1 : 1 ≤ k * p.2.2.1 := by
      have := Int.mul_le_mul k1 hn1 (by omega) (by omega)
      omega
    have b2 : k * p.2.2.1 ≤ 4 * K := by
      have := Int.mul_le_mul k2 n4 (by omega) (by omega)
      omega
    unfold one1 at z
    split at z
    · rename_i hk
      exact (nx hk).g _ b1 b2 t z
    · have e : t = (p.2.1, k * p.2.2.1, p.2.2.2.map (· * k)) := by simpa using z
      rw [e]
      refine ⟨gp.pl, b1, by show k * p.2.2.1 ≤ 999; omega, fun s hs => ?_⟩
      cases hp2 : p.2.2.2 with
      | none => rw [hp2] at hs; cases hs
      | some v =>
        rw [hp2] at hs
        obtain ⟨v0, v1⟩ := gp.sh v hp2
        have e2 : s = v * k := by
          have := Option.some.inj hs
          exact this.symm
        rw [e2]
        refine ⟨Int.mul_nonneg v0 (by omega), ?_⟩
        show v * k ≤ k * p.2.2.1
        rw [Int.mul_comm v k]
        exact Int.mul_le_mul_of_nonneg_left v1 (by omega)
/-! ### the drawn book of four -/
def b4 (R0 R1 R2 R3 : List Pl) : Bk := [("la", R0), ("lb", R1), ("lc", R2), ("ld", R3)]
def rk4 (x : Str) : Nat := if x = "la" then 4 else if x = "lb" then 3 else if x = "lc" then 2 else if x = "ld" then 1 else 0
section
variable {R0 R1 R2 R3 : List Pl}
theorem b4_look (x : Str) : (b4 R0 R1 R2 R3).lookup x = if x = "la" then some R0 else if x = "lb" then some R1 else if x = "lc" then some R2 else if x = "ld" then some R3 else none := by
  by_cases h0 : x = "la"
  · subst h0; kernel_rfl
  by_cases h1 : x = "lb"
  · subst h1; kernel_rfl
  by_cases h2 : x = "lc"
  · subst h2; kernel_rfl
  by_cases h3 : x = "ld"
  · subst h3; kernel_rfl
  · unfold b4
    simp only [List.lookup_cons, List.lookup_nil]
    have e0 : (x == (Str.ofString "la")) = false := beq_eq_false_iff_ne.mpr h0
    have e1 : (x == (Str.ofString "lb")) = false := beq_eq_false_iff_ne.mpr h1
    have e2 : (x == (Str.ofString "lc")) = false := beq_eq_false_iff_ne.mpr h2
    have e3 : (x == (Str.ofString "ld")) = false := beq_eq_false_iff_ne.mpr h3
    simp only [e0, e1, e2, e3, h0, h1, h2, h3, if_false]
theorem b4_key (x : Str) : keyIn (b4 R0 R1 R2 R3) x = decide (x ∈ names) := by
  unfold keyIn
  rw [b4_look]
  by_cases h0 : x = "la"
  · subst h0; kernel_rfl
  by_cases h1 : x = "lb"
  · subst h1; kernel_rfl
  by_cases h2 : x = "lc"
  · subst h2; kernel_rfl
  by_cases h3 : x = "ld"
  · subst h3; kernel_rfl
  · rw [if_neg h0, if_neg h1, if_neg h2, if_neg h3]
    have : x ∉ names := by
      unfold names
      simp only [List.mem_cons, List.not_mem_nil, or_false, not_or]
      exact ⟨h0, h1, h2, h3⟩
    rw [decide_eq_false this]
    rfl
theorem pl_rank {i : Nat} {x : Str} (h : x = "p" ∨ x = "q" ∨ x ∈ names.drop (i + 1)) (hk : keyIn (b4 R0 R1 R2 R3) x = true) : x ∈ names.drop (i + 1) := by
  rcases h with h | h | h
  · rw [b4_key, h] at hk
    exact absurd hk (by decide +kernel)
  · rw [b4_key, h] at hk
    exact absurd hk (by decide +kernel)
  · exact h
theorem rk_drop {i : Nat} {x : Str} (hi : i < 4) (h : x = "p" ∨ x = "q" ∨ x ∈ names.drop (i + 1)) : rk4 x < 4 - i := by
  rcases h with rfl | rfl | h
  · have : rk4 "p" = 0 := by decide +kernel
    omega
  · have : rk4 "q" = 0 := by decide +kernel
    omega
  · exact (by decide +kernel : ∀ a, a < 4 → ∀ y ∈ names.drop (a + 1), rk4 y < 4 - a) i hi x h
theorem book_facts (d0 : DR 0 R0) (d1 : DR 1 R1) (d2 : DR 2 R2) (d3 : DR 3 R3) : GoodB (b4 R0 R1 R2 R3) ∧ ∀ x ∈ names, Lv (b4 R0 R1 R2 R3) rk4 12 x ∧ Lm (b4 R0 R1 R2 R3) 12 x 81 1 := by
  have r0 : rowsOf (b4 R0 R1 R2 R3) "la" = R0 := by kernel_rfl
  have r1 : rowsOf (b4 R0 R1 R2 R3) "lb" = R1 := by kernel_rfl
  have r2 : rowsOf (b4 R0 R1 R2 R3) "lc" = R2 := by kernel_rfl
  have r3 : rowsOf (b4 R0 R1 R2 R3) "ld" = R3 := by kernel_rfl
  have ky : ∀ x ∈ names, keyIn (b4 R0 R1 R2 R3) x = true := fun x hx => by rw [b4_key, decide_eq_true hx]
  have k0 : rk4 "la" = 4 := by decide +kernel
  have k1 : rk4 "lb" = 3 := by decide +kernel
  have k2 : rk4 "lc" = 2 := by decide +kernel
  have k3 : rk4 "ld" = 1 := by decide +kernel
  have m0 : (Str.ofString "la") ∈ names := by decide +kernel
  have m1 : (Str.ofString "lb") ∈ names := by decide +kernel
  have m2 : (Str.ofString "lc") ∈ names := by decide +kernel
  have m3 : (Str.ofString "ld") ∈ names := by decide +kernel
  have D1 : names.drop 1 = ([("lb" : Str), "lc", "ld"] : List Str) := by decide +kernel
  have D2 : names.drop 2 = ([("lc" : Str), "ld"] : List Str) := by decide +kernel
  have D3 : names.drop 3 = ([("ld" : Str)] : List Str) := by decide +kernel
  have D4 : names.drop 4 = [] := by decide +kernel
  have a3 : ∀ n, Lv (b4 R0 R1 R2 R3) rk4 (n + 1) "ld" ∧ Lm (b4 R0 R1 R2 R3) (n + 1) "ld" 3 64 := fun n => by
    have no : ∀ p ∈ R3, keyIn (b4 R0 R1 R2 R3) p.2.1 = true → False := fun p hp hk => by
      have := pl_rank (d3.g p hp).2.2 hk
      rw [D4] at this
      cases this
    refine ⟨lv_step (ky _ m3) (by rw [r3]; exact d3.ne) (by rw [r3, k3]; exact fun p hp => ⟨rk_drop (by decide) (d3.g p hp).2.2, fun hk => (no p hp hk).elim⟩), ?_⟩
    have := lm_step (B := b4 R0 R1 R2 R3) (n := n) (c := 1) (x := "ld") (K := 64) (by decide) (by decide) (by rw [r3]; exact d3.few) (by rw [r3]; exact fun p hp => ⟨(d3.g p hp).1, (d3.g p hp).2.1, fun hk => (no p hp hk).elim⟩)
    exact this
  have a2 : ∀ n, Lv (b4 R0 R1 R2 R3) rk4 (n + 2) "lc" ∧ Lm (b4 R0 R1 R2 R3) (n + 2) "lc" 9 16 := fun n => by
    have nx : ∀ p ∈ R2, keyIn (b4 R0 R1 R2 R3) p.2.1 = true → Lv (b4 R0 R1 R2 R3) rk4 (n + 1) p.2.1 ∧ Lm (b4 R0 R1 R2 R3) (n + 1) p.2.1 3 64 := fun p hp hk => by
      have := pl_rank (d2.g p hp).2.2 hk
      rw [D3] at this
      have e : p.2.1 = "ld" := by simpa using this
      rw [e]
      exact a3 n
    refine ⟨lv_step (ky _ m2) (by rw [r2]; exact d2.ne) (by rw [r2, k2]; exact fun p hp => ⟨rk_drop (by decide) (d2.g p hp).2.2, fun hk => (nx p hp hk).1⟩), ?_⟩
    exact lm_step (B := b4 R0 R1 R2 R3) (n := n + 1) (c := 3) (x := "lc") (K := 16) (by decide) (by decide) (by rw [r2]; exact d2.few) (by rw [r2]; exact fun p hp => ⟨(d2.g p hp).1, (d2.g p hp).2.1, fun hk => (nx p hp hk).2⟩)
  have lift : ∀ {n x c K c' K'}, Lm (b4 R0 R1 R2 R3) n x c K → c ≤ c' → K' ≤ K → Lm (b4 R0 R1 R2 R3) n x c' K' := fun l h1 h2 => ⟨fun k => Nat.le_trans (l.len k) h1, fun k q1 q2 => l.g k q1 (Int.le_trans q2 h2)⟩
  have a1 : ∀ n, Lv (b4 R0 R1 R2 R3) rk4 (n + 3) "lb" ∧ Lm (b4 R0 R1 R2 R3) (n + 3) "lb" 27 4 := fun n => by
    have nx : ∀ p ∈ R1, keyIn (b4 R0 R1 R2 R3) p.2.1 = true → Lv (b4 R0 R1 R2 R3) rk4 (n + 2) p.2.1 ∧ Lm (b4 R0 R1 R2 R3) (n + 2) p.2.1 9 16 := fun p hp hk => by
      have := pl_rank (d1.g p hp).2.2 hk
      rw [D2] at this
      simp only [List.mem_cons, List.not_mem_nil, or_false] at this
      rcases this with e | e
      · rw [e]
        exact a2 n
      · rw [e]
        exact ⟨(a3 (n + 1)).1, lift (a3 (n + 1)).2 (by decide) (by decide)⟩
    refine ⟨lv_step (ky _ m1) (by rw [r1]; exact d1.ne) (by rw [r1, k1]; exact fun p hp => ⟨rk_drop (by decide) (d1.g p hp).2.2, fun hk => (nx p hp hk).1⟩), ?_⟩
    exact lm_step (B := b4 R0 R1 R2 R3) (n := n + 2) (c := 9) (x := "lb") (K := 4) (by decide) (by decide) (by rw [r1]; exact d1.few) (by rw [r1]; exact fun p hp => ⟨(d1.g p hp).1, (d1.g p hp).2.1, fun hk => (nx p hp hk).2⟩)
  have a0 : ∀ n, Lv (b4 R0 R1 R2 R3) rk4 (n + 4) "la" ∧ Lm (b4 R0 R1 R2 R3) (n + 4) "la" 81 1 := fun n => by
    have nx : ∀ p ∈ R0, keyIn (b4 R0 R1 R2 R3) p.2.1 = true → Lv (b4 R0 R1 R2 R3) rk4 (n + 3) p.2.1 ∧ Lm (b4 R0 R1 R2 R3) (n + 3) p.2.1 27 4 := fun p hp hk => by
      have := pl_rank (d0.g p hp).2.2 hk
      rw [D1] at this
      simp only [List.mem_cons, List.not_mem_nil, or_false] at this
      rcases this with e | e | e
      · rw [e]
        exact a1 n
      · rw [e]
        exact ⟨(a2 (n + 1)).1, lift (a2 (n + 1)).2 (by decide) (by decide)⟩
      · rw [e]
        exact ⟨(a3 (n + 2)).1, lift (a3 (n + 2)).2 (by decide) (by decide)⟩
    refine ⟨lv_step (ky _ m0) (by rw [r0]; exact d0.ne) (by rw [r0, k0]; exact fun p hp => ⟨rk_drop (by decide) (d0.g p hp).2.2, fun hk => (nx p hp hk).1⟩), ?_⟩
    exact lm_step (B := b4 R0 R1 R2 R3) (n := n + 3) (c := 27) (x := "la") (K := 1) (by decide) (by decide) (by rw [r0]; exact d0.few) (by rw [r0]; exact fun p hp => ⟨(d0.g p hp).1, (d0.g p hp).2.1, fun hk => (nx p hp hk).2⟩)
  refine ⟨fun x ps hx p hp => ?_, fun x hx => ?_⟩
  · rw [b4_look] at hx
    split at hx
    · cases hx; exact (d0.g p hp).1
    split at hx
    · cases hx; exact (d1.g p hp).1
    split at hx
    · cases hx; exact (d2.g p hp).1
    split at hx
    · cases hx; exact (d3.g p hp).1
    · cases hx
  · unfold names at hx
    simp only [List.mem_cons, List.not_mem_nil, or_false] at hx
    rcases hx with rfl | rfl | rfl | rfl
    · exact a0 8
    · exact ⟨(a1 9).1, lift (a1 9).2 (by decide) (by decide)⟩
    · exact ⟨(a2 10).1, lift (a2 10).2 (by decide) (by decide)⟩
    · exact ⟨(a3 11).1, lift (a3 11).2 (by decide) (by decide)⟩
end
def mkCat : ME := (mMake "Catalog" m_Catalog___init__ [] (aCons (mCall bDict (aCons (mLc (iAny (mVar 1)) (gNm 6) tYs (mTup (aCons (mVar 6) (aCons (mMake "PartsList" m_PartsList___init__ [] (aCons (mBin fDget (mVar 4) (mVar 6)) aNil)) aNil))) [6]) aNil)) aNil))
def es4 (q0 q1 q2 q3 : Nat) : Es := [("la", q0), ("lb", q1), ("lc", q2), ("ld", q3)]
theorem merge_rf : ∀ (es acc : Es), ((acc ++ es).map (·.1)).Nodup → mergeKW (rfW acc) (rfW es) = rfW (acc ++ es)
  | [], acc, _ => by rw [List.append_nil]; rfl
  | e :: r, acc, nd => by
    have h1 : e.1 ∉ acc.map (·.1) := fun z => by
      rw [List.map_append, List.map_cons] at nd
      exact (List.nodup_append.mp nd).2.2 _ z _ List.mem_cons_self rfl
    show mergeKW (putKW (rfW acc) (.inr e.1) (.ref e.2)) (rfW r) = _
    rw [rf_put h1, merge_rf r (acc ++ [e]) (by rw [List.append_assoc]; exact nd), List.append_assoc]
    rfl
theorem pairs_rf : ∀ es : Es, mapO pairW (es.map fun e => W.tup [.str e.1, .ref e.2]) = some (rfW es)
  | [] => rfl
  | e :: r => by
    rw [List.map_cons]
    unfold mapO
    rw [pairs_rf r]
    rfl
theorem names_nd : names.Nodup := by decide +kernel
/-- the drawn book, laid open -/
theorem bo_open {N n D : Nat} {es : Es} {Rs : List (List Pl)} {h : Hw} (b : Bo 4 N n D es Rs h) : ∃ L0 L1 L2 L3 R0 R1 R2 R3, es = es4 L0 L1 L2 L3 ∧ Rs = [R0, R1, R2, R3] := by
  have e := b.nm
  have l := b.lr
  have el : es.length = 4 := by
    have := congrArg List.length e
    rw [List.length_map] at this
    rw [this]
    rfl
  match es, Rs, el, l, e with
  | [a0, a1, a2, a3], [R0, R1, R2, R3], _, _, e =>
    obtain ⟨x0, q0⟩ := a0
    obtain ⟨x1, q1⟩ := a1
    obtain ⟨x2, q2⟩ := a2
    obtain ⟨x3, q3⟩ := a3
    have e' : [x0, x1, x2, x3] = ([("la" : Str), "lb", "lc", "ld"] : List Str) := e
    simp only [List.cons.injEq, and_true] at e'
    obtain ⟨rfl, rfl, rfl, rfl⟩ := e'
    exact ⟨q0, q1, q2, q3, R0, R1, R2, R3, rfl, rfl⟩
theorem val4 {q0 q1 q2 q3 : Nat} (x : Str) : (valW (rfW (es4 q0 q1 q2 q3)) (.inr x)).isSome = decide (x ∈ names) := by
  by_cases h0 : x = "la"
  · subst h0; kernel_rfl
  by_cases h1 : x = "lb"
  · subst h1; kernel_rfl
  by_cases h2 : x = "lc"
  · subst h2; kernel_rfl
  by_cases h3 : x = "ld"
  · subst h3; kernel_rfl
  · have : x ∉ names := by
      unfold names
      simp only [List.mem_cons, List.not_mem_nil, or_false, not_or]
      exact ⟨h0, h1, h2, h3⟩
    rw [decide_eq_false this]
    unfold valW rfW es4
    have n0 : decide ((Sum.inr (Str.ofString "la") : Key) = Sum.inr x) = false := decide_eq_false fun z => h0 (by injection z with z; exact z.symm)
    have n1 : decide ((Sum.inr (Str.ofString "lb") : Key) = Sum.inr x) = false := decide_eq_false fun z => h1 (by injection z with z; exact z.symm)
    have n2 : decide ((Sum.inr (Str.ofString "lc") : Key) = Sum.inr x) = false := decide_eq_false fun z => h2 (by injection z with z; exact z.symm)
    have n3 : decide ((Sum.inr (Str.ofString "ld") : Key) = Sum.inr x) = false := decide_eq_false fun z => h3 (by injection z with z; exact z.symm)
    simp only [List.map_cons, List.map_nil, List.find?_cons, n0, n1, n2, n3, List.find?_nil]
    rfl
section
variable {R0 R1 R2 R3 : List Pl} {q0 q1 q2 q3 : Nat} {h : Hw} {D : Nat}
theorem ld4 (d : h[D]? = some (.dK (rfW (es4 q0 q1 q2 q3)))) (e0 : h[q0]? = some (.lst (R0.map rowW))) (e1 : h[q1]? = some (.lst (R1.map rowW))) (e2 : h[q2]? = some (.lst (R2.map rowW))) (e3 : h[q3]? = some (.lst (R3.map rowW))) : LD h D (b4 R0 R1 R2 R3) (rfW (es4 q0 q1 q2 q3)) := by
  refine ⟨d, fun x => by rw [val4, b4_key], fun x hx => ?_⟩
  rw [b4_key] at hx
  have hx := of_decide_eq_true hx
  unfold names at hx
  simp only [List.mem_cons, List.not_mem_nil, or_false] at hx
  rcases hx with rfl | rfl | rfl | rfl
  · exact ⟨q0, by kernel_rfl, by rw [show rowsOf (b4 R0 R1 R2 R3) "la" = R0 by kernel_rfl]; exact e0⟩
  · exact ⟨q1, by kernel_rfl, by rw [show rowsOf (b4 R0 R1 R2 R3) "lb" = R1 by kernel_rfl]; exact e1⟩
  · exact ⟨q2, by kernel_rfl, by rw [show rowsOf (b4 R0 R1 R2 R3) "lc" = R2 by kernel_rfl]; exact e2⟩
  · exact ⟨q3, by kernel_rfl, by rw [show rowsOf (b4 R0 R1 R2 R3) "ld" = R3 by kernel_rfl]; exact e3⟩
theorem pd4 (d : h[D]? = some (.dK (rfW (es4 q0 q1 q2 q3)))) (e0 : h[q0]? = some (plF R0)) (e1 : h[q1]? = some (plF R1)) (e2 : h[q2]? = some (plF R2)) (e3 : h[q3]? = some (plF R3)) : PD h D (b4 R0 R1 R2 R3) (rfW (es4 q0 q1 q2 q3)) := by
  refine ⟨d, fun x => by rw [val4, b4_key], fun x hx => ?_⟩
  rw [b4_key] at hx
  have hx := of_decide_eq_true hx
  unfold names at hx
  simp only [List.mem_cons, List.not_mem_nil, or_false] at hx
  rcases hx with rfl | rfl | rfl | rfl
  · exact ⟨q0, by kernel_rfl, by rw [show rowsOf (b4 R0 R1 R2 R3) "la" = R0 by kernel_rfl]; exact e0⟩
  · exact ⟨q1, by kernel_rfl, by rw [show rowsOf (b4 R0 R1 R2 R3) "lb" = R1 by kernel_rfl]; exact e1⟩
  · exact ⟨q2, by kernel_rfl, by rw [show rowsOf (b4 R0 R1 R2 R3) "lc" = R2 by kernel_rfl]; exact e2⟩
  · exact ⟨q3, by kernel_rfl, by rw [show rowsOf (b4 R0 R1 R2 R3) "ld" = R3 by kernel_rfl]; exact e3⟩
theorem dr_good {i : Nat} {ps : List Pl} (d : DR i ps) : GoodL ps := by
  refine ⟨d.ne, by have := d.few; omega, fun p hp => (d.g p hp).1, ?_⟩
  rw [d.w]
  exact (List.take_sublist _ _).nodup (by decide +kernel)
theorem mkCat_ok {sw : SW} {N : Nat} {P : W → Hw → Prop} (s1 : sw[1]? = some (some (.ref N))) (s4 : sw[4]? = some (some (.ref D))) (s4' : (wipeW sw [6])[4]? = some (some (.ref D))) (s6 : ∀ w : W, ((wipeW sw [6]).set 6 (some w))[6]? = some (some w)) (s46 : ∀ w : W, ((wipeW sw [6]).set 6 (some w))[4]? = some (some (.ref D))) (eN : h[N]? = some (.lst (names.map W.str))) (t : LD h D (b4 R0 R1 R2 R3) (rfW (es4 q0 q1 q2 q3))) (gl : ∀ x ∈ names, GoodL (rowsOf (b4 R0 R1 R2 R3) x)) (gb : GoodB (b4 R0 R1 R2 R3))
    (k : ∀ h' c D' p0 p1 p2 p3, h <+: h' → CB h' c D' (es4 p0 p1 p2 p3) (b4 R0 R1 R2 R3) → P (.ref c) h') : Ok (mkCat sw) h P := by
  unfold mkCat
  -- what the comprehension has made
  have lc : Ok (mLc (iAny (mVar 1)) (gNm 6) tYs (mTup (aCons (mVar 6) (aCons (mMake "PartsList" m_PartsList___init__ [] (aCons (mBin fDget (mVar 4) (mVar 6)) aNil)) aNil))) [6] sw) h fun r h' => ∃ g p0 p1 p2 p3, r = .ref g ∧ h <+: h' ∧ h'[g]? = some (.lst ((es4 p0 p1 p2 p3).map fun e => W.tup [.str e.1, .ref e.2])) ∧ h'[p0]? = some (plF R0) ∧ h'[p1]? = some (plF R1) ∧ h'[p2]? = some (plF R2) ∧ h'[p3]? = some (plF R3) := by
    refine ok_mLc (fun i acc h' => ∃ es : Es, acc = es.map (fun e => W.tup [.str e.1, .ref e.2]) ∧ es.map (·.1) = names.take i ∧ (∀ e ∈ es, h'[e.2]? = some (plF (rowsOf (b4 R0 R1 R2 R3) e.1)) ∧ h.length < e.2) ∧ h <+: h' ∧ h.length < h'.length) h.length (ok_iAnyL (ok_var s1 ⟨N, _, rfl, eN, rfl, ⟨[], rfl, rfl, (fun e he => nomatch he), List.prefix_append _ _, by simp⟩, fun i acc h' hi q hd => ?_, fun acc h' q hd => ?_⟩))
    · obtain ⟨es, rfl, en, ep, pc, lt⟩ := q
      have hi4 : i < names.length := by simpa using hi
      have hm : names[i] ∈ names := List.getElem_mem hi4
      refine ⟨.str names[i], by rw [item_lst (Pre.get pc eN), List.getElem?_map, List.getElem?_eq_getElem hi4]; rfl, ok_gNm (ok_rtn (okT ?_))⟩
      have kx : keyIn (b4 R0 R1 R2 R3) names[i] = true := by rw [b4_key, decide_eq_true hm]
      obtain ⟨q, vq, eq⟩ := (t.pre pc).val _ kx
      refine ok_tup (ok_aCons (ok_var (s6 _) (ok_aCons (make_ok (gl _ hm) (ok_aCons (ok_bin (ok_var (s46 _) (ok_var (s6 _) (ok_dget (t.pre pc).of rfl vq (ok_aNil ⟨_, rfl, .inl ⟨q, rfl, eq⟩, fun h2 p2 e2 => ok_aNil ⟨Nat.le_of_ble_eq_true rfl, ?_⟩⟩))))))))))
      have hd2 := Pre.get p2 hd
      have lp := p2.length_le
      have le : es.length = i := by
        have := congrArg List.length en
        rw [List.length_map, List.length_take] at this
        omega
      refine ⟨hd2, by rw [List.length_map, le]; unfold lim; simp [names] at hi4; omega, es ++ [(names[i], h'.length)], by rw [List.map_append]; rfl, ?_, fun e he => ?_, Pre.set (pc.trans p2) (Nat.le_refl _) _, by rw [List.length_set]; omega⟩
      · rw [List.map_append, en, List.take_add_one, List.getElem?_eq_getElem hi4]
        rfl
      · rcases List.mem_append.mp he with he | he
        · obtain ⟨a1, a2⟩ := ep e he
          exact ⟨by rw [get_set_ne (by omega)]; exact Pre.get p2 a1, a2⟩
        · have : e = (names[i], h'.length) := by simpa using he
          rw [this]
          exact ⟨by rw [get_set_ne (by show h.length ≠ h'.length; omega)]; exact e2, lt⟩
    · obtain ⟨es, rfl, en, ep, pc, lt⟩ := q
      refine ⟨by rw [item_lst (Pre.get pc eN), List.getElem?_eq_none (Nat.le_refl _)], ?_⟩
      have en' : es.map (·.1) = names := en
      have el : es.length = 4 := by
        have := congrArg List.length en'
        rw [List.length_map] at this
        rw [this]
        rfl
      match es, el, en', ep, hd with
      | [a0, a1, a2, a3], _, e, ep, hd =>
        obtain ⟨x0, q0⟩ := a0
        obtain ⟨x1, q1⟩ := a1
        obtain ⟨x2, q2⟩ := a2
        obtain ⟨x3, q3⟩ := a3
        have e' : [x0, x1, x2, x3] = ([("la" : Str), "lb", "lc", "ld"] : List Str) := e
        simp only [List.cons.injEq, and_true] at e'
        obtain ⟨rfl, rfl, rfl, rfl⟩ := e'
        refine ⟨h.length, q0, q1, q2, q3, rfl, pc, hd, ?_, ?_, ?_, ?_⟩
        · have := (ep ("la", q0) (by simp)).1
          rw [show rowsOf (b4 R0 R1 R2 R3) "la" = R0 by kernel_rfl] at this
          exact this
        · have := (ep ("lb", q1) (by simp)).1
          rw [show rowsOf (b4 R0 R1 R2 R3) "lb" = R1 by kernel_rfl] at this
          exact this
        · have := (ep ("lc", q2) (by simp)).1
          rw [show rowsOf (b4 R0 R1 R2 R3) "lc" = R2 by kernel_rfl] at this
          exact this
        · have := (ep ("ld", q3) (by simp)).1
          rw [show rowsOf (b4 R0 R1 R2 R3) "ld" = R3 by kernel_rfl] at this
          exact this
  refine ok_make (ok_aCons (ok_call (ok_aCons (lc.imp fun r h1 z => ?_))))
  obtain ⟨g, p0, p1, p2, p3, rfl, pc, eg, f0, f1, f2, f3⟩ := z
  refine ok_aNil (ok_dictL (xs := (es4 p0 p1 p2 p3).map fun e => W.tup [.str e.1, .ref e.2]) (by
    show (match h1[g]? with
      | some (.lst xs) => some xs
      | _ => none) = _
    rw [eg]) (pairs_rf _) (ok_aNil ?_))
  have em : mergeKW [] (rfW (es4 p0 p1 p2 p3)) = rfW (es4 p0 p1 p2 p3) := merge_rf (es4 p0 p1 p2 p3) [] (show (names).Nodup from names_nd)
  rw [em]
  have px : h1 <+: h1 ++ [O.dK (rfW (es4 p0 p1 p2 p3))] := List.prefix_append _ _
  have ex : (h1 ++ [O.dK (rfW (es4 p0 p1 p2 p3))])[h1.length]? = some (.dK (rfW (es4 p0 p1 p2 p3))) := by simp
  refine (cat_init (es := es4 p0 p1 p2 p3) ex (fun e he => ?_) (show names.Nodup from names_nd) (Nat.le_of_ble_eq_true rfl)).imp fun u h2 z => ?_
  · unfold es4 at he
    simp only [List.mem_cons, List.not_mem_nil, or_false] at he
    have iw : ∀ x ∈ names, isw x = true := by decide +kernel
    rcases he with rfl | rfl | rfl | rfl
    · exact ⟨iw "la" (by decide +kernel), _, Pre.get px f0⟩
    · exact ⟨iw "lb" (by decide +kernel), _, Pre.get px f1⟩
    · exact ⟨iw "lc" (by decide +kernel), _, Pre.get px f2⟩
    · exact ⟨iw "ld" (by decide +kernel), _, Pre.get px f3⟩
  · obtain ⟨rfl, p, D', e1, e2⟩ := z
    have pp := px.trans p
    exact ⟨rfl, k h2 _ D' p0 p1 p2 p3 (pc.trans pp) ⟨⟨e1, e2⟩, pd4 e2 (Pre.get pp f0) (Pre.get pp f1) (Pre.get pp f2) (Pre.get pp f3), Nat.le_of_ble_eq_true rfl, gb⟩⟩
end
def deepLoop : MS := (sForI (iRg1 (mC (.int 10))) (gNm 5) (sSeq (sAsg (gNm 10) (mIf (tVal (mBin fLt (mVar 5) (mC (.int 9)))) (mBin fIx (mC (.str "abcdefghijk")) (mBin fAdd (mVar 5) (mC (.int 1)))) (mC (.str "p"))))
    (sDput (mVar 13) (mBin fIx (mC (.str "abcdefghijk")) (mVar 5)) (mMake "PartsList" m_PartsList___init__ [] (aCons (mLc (iAny (mC (.str "abcdefghijkl"))) (gNm 8) tYs (mTup (aCons (mVar 8) (aCons (mVar 10) (aCons (mC (.int 1)) (aCons (mC .non) aNil))))) [8]) aNil)))))
def nxt (i : Nat) : Str := if i < 9 then letter (i + 1) else "p"
def drow (x : Str) : List Pl := (List.range 12).map fun j => (letter j, x, 1, none)
def bd : Bk := (List.range 10).map fun i => (letter i, drow (nxt i))
instance : DecidableEq Pl := inferInstanceAs (DecidableEq (Str × Str × Int × Option Int))
theorem bd_rows1 : ∀ i, i < 10 → rowsOf bd (letter i) = drow (nxt i) := by decide +kernel
theorem bd_rows2 : ∀ i, i < 10 → keyIn bd (letter i) = true := by decide +kernel
theorem bd_rows (i : Nat) (h : i < 10) : rowsOf bd (letter i) = drow (nxt i) ∧ keyIn bd (letter i) = true := ⟨bd_rows1 i h, bd_rows2 i h⟩
theorem bd_p : keyIn bd "p" = false := by decide +kernel
def rkd (x : Str) : Nat := match x.cps.toList with
  | [c] => if 97 ≤ c ∧ c ≤ 106 then 107 - c else 0
  | _ => 0
theorem rkd_at : ∀ i, i < 10 → rkd (letter i) = 10 - i ∧ rkd (nxt i) = 9 - i := by decide +kernel
theorem drow_good : ∀ i, i < 10 → (drow (nxt i)).length = 12 ∧ isw (nxt i) = true ∧ (i < 9 → nxt i = letter (i + 1)) ∧ (¬ i < 9 → nxt i = "p") := by decide +kernel
theorem drow_mem {x : Str} {p : Pl} (h : p ∈ drow x) : ∃ j, j < 12 ∧ p = (letter j, x, 1, none) := by
  unfold drow at h
  obtain ⟨j, hj, rfl⟩ := List.mem_map.mp h
  exact ⟨j, List.mem_range.mp hj, rfl⟩
theorem drow_gp {x : Str} (hx : isw x = true) : ∀ p ∈ drow x, GoodP p := fun p hp => by
  obtain ⟨j, hj, rfl⟩ := drow_mem hp
  exact ⟨letter_w j (by omega), hx, by show (1 : Int) ≤ 1; omega, by show (1 : Int) ≤ 999; omega, fun k z => by cases z⟩
theorem drow_gl {x : Str} (hx : isw x = true) : GoodL (drow x) := by
  refine ⟨fun z => ?_, by unfold drow; rw [List.length_map, List.length_range]; exact Nat.le_refl _, drow_gp hx, ?_⟩
  · have := congrArg List.length z
    unfold drow at this
    rw [List.length_map, List.length_range] at this
    cases this
  · have : (drow x).map (·.1) = (List.range 12).map letter := by
      unfold drow
      rw [List.map_map]
      rfl
    rw [this]
    decide +kernel
theorem bd_lv : ∀ (m : Nat), m ≤ 9 → ∀ n, Lv bd rkd (n + m + 1) (letter (9 - m))
  | 0, _, n => by
    refine lv_step (bd_rows 9 (by omega)).2 ?_ fun p hp => ?_
    · rw [(bd_rows 9 (by omega)).1]
      exact (drow_gl (drow_good 9 (by omega)).2.1).ne
    · rw [(bd_rows 9 (by omega)).1] at hp
      obtain ⟨j, hj, rfl⟩ := drow_mem hp
      refine ⟨?_, fun hk => ?_⟩
      · show rkd (nxt 9) < rkd (letter (9 - 0))
        rw [(rkd_at 9 (by omega)).2, (rkd_at 9 (by omega)).1]
        omega
      · have e : nxt 9 = "p" := (drow_good 9 (by omega)).2.2.2 (by omega)
        have hk' : keyIn bd (nxt 9) = true := hk
        rw [e, bd_p] at hk'
        cases hk'
  | m + 1, hm, n => by
    have hi : 9 - (m + 1) < 10 := by omega
    refine lv_step (n := n + (m + 1)) (bd_rows _ hi).2 ?_ fun p hp => ?_
    · rw [(bd_rows _ hi).1]
      exact (drow_gl (drow_good _ hi).2.1).ne
    · rw [(bd_rows _ hi).1] at hp
      obtain ⟨j, hj, rfl⟩ := drow_mem hp
      have e : nxt (9 - (m + 1)) = letter (9 - m) := by
        rw [(drow_good _ hi).2.2.1 (by omega)]
        congr 1
        omega
      refine ⟨?_, fun hk => ?_⟩
      · show rkd (nxt (9 - (m + 1))) < rkd (letter (9 - (m + 1)))
        rw [(rkd_at _ hi).2, (rkd_at _ hi).1]
        omega
      · show Lv bd rkd (n + (m + 1)) (nxt (9 - (m + 1)))
        rw [e]
        exact bd_lv m (by omega) n
theorem cntL_ge {B : Bk} {n c : Nat} : ∀ {ps : List Pl}, (∀ p ∈ ps, c ≤ cnt1 B n p) → ps.length * c ≤ cntL B n ps
  | [], _ => by simp [cntL]
  | p :: r, h => by
    rw [cntL, List.length_cons, Nat.succ_mul]
    have := cntL_ge (B := B) (n := n) (c := c) (ps := r) fun q hq => h q (List.mem_cons_of_mem _ hq)
    have h1 := h p List.mem_cons_self
    unfold cnt1 at h1
    omega
theorem lv_cnt {B : Bk} {r : Str → Nat} {n : Nat} {x : Str} (l : Lv B r n x) : 1 ≤ cnt B n x := by
  have := l.ne 1
  rw [← opn_len n x 1]
  exact List.length_pos_iff.mpr this
theorem bd_a : 12 < cnt bd 12 (letter 0) := by
  have l0 : ∀ p ∈ rowsOf bd (letter 0), 12 ≤ cnt1 bd 11 p := fun p hp => by
    rw [(bd_rows 0 (by omega)).1] at hp
    obtain ⟨j, hj, rfl⟩ := drow_mem hp
    have e : nxt 0 = letter 1 := (drow_good 0 (by omega)).2.2.1 (by omega)
    unfold cnt1
    show 12 ≤ if keyIn bd (nxt 0) = true then cnt bd 11 (nxt 0) else 1
    rw [e, if_pos (bd_rows 1 (by omega)).2, cnt]
    have l1 : ∀ p ∈ rowsOf bd (letter 1), 1 ≤ cnt1 bd 10 p := fun p hp => by
      rw [(bd_rows 1 (by omega)).1] at hp
      obtain ⟨j, hj, rfl⟩ := drow_mem hp
      have e : nxt 1 = letter 2 := (drow_good 1 (by omega)).2.2.1 (by omega)
      unfold cnt1
      show 1 ≤ if keyIn bd (nxt 1) = true then cnt bd 10 (nxt 1) else 1
      rw [e, if_pos (bd_rows 2 (by omega)).2]
      exact lv_cnt (bd_lv 7 (by omega) 2)
    have := cntL_ge l1
    rw [(bd_rows 1 (by omega)).1, (drow_good 1 (by omega)).1] at this
    rw [(bd_rows 1 (by omega)).1]
    omega
  rw [cnt]
  have := cntL_ge l0
  rw [(bd_rows 0 (by omega)).1, (drow_good 0 (by omega)).1] at this
  rw [(bd_rows 0 (by omega)).1]
  omega
theorem cntL_leaf {B : Bk} {n : Nat} : ∀ {ps : List Pl}, (∀ p ∈ ps, keyIn B p.2.1 = false) → cntL B n ps = ps.length
  | [], _ => by simp [cntL]
  | p :: r, h => by
    rw [cntL, cntL_leaf fun q hq => h q (List.mem_cons_of_mem _ hq), h p List.mem_cons_self, List.length_cons]
    simp
    omega
theorem row9 : ∀ p ∈ drow (nxt 9), keyIn bd p.2.1 = false ∧ p.2.1 = "p" ∧ p.2.2.1 = 1 ∧ p.2.2.2 = none := fun p hp => by
  obtain ⟨j, hj, rfl⟩ := drow_mem hp
  have e : nxt 9 = "p" := (drow_good 9 (by omega)).2.2.2 (by omega)
  refine ⟨?_, e, rfl, rfl⟩
  show keyIn bd (nxt 9) = false
  rw [e, bd_p]
theorem bd_j : cnt bd 12 (letter 9) = 12 := by
  rw [cnt, (bd_rows 9 (by omega)).1, cntL_leaf fun p hp => (row9 p hp).1, (drow_good 9 (by omega)).1]
theorem bd_g : GoodB bd := fun x ps hx p hp => by
  have : ∃ i, i < 10 ∧ ps = drow (nxt i) := by
    unfold bd at hx
    have go : ∀ (l : List Nat), (∀ i ∈ l, i < 10) → (l.map fun i => (letter i, drow (nxt i))).lookup x = some ps → ∃ i, i < 10 ∧ ps = drow (nxt i) := by
      intro l
      induction l with
      | nil => intro _ z; cases z
      | cons a r ih =>
        intro hl z
        rw [List.map_cons, List.lookup_cons] at z
        split at z
        · cases z
          exact ⟨a, hl a List.mem_cons_self, rfl⟩
        · exact ih (fun i hi => hl i (List.mem_cons_of_mem _ hi)) z
    exact go _ (fun i hi => List.mem_range.mp hi) hx
  obtain ⟨i, hi, rfl⟩ := this
  exact drow_gp (drow_good i hi).2.1 p hp
theorem bd_jg : ∀ t ∈ opn bd 12 (letter 9) 1, GoodT t := fun t ht => by
  rw [opn, (bd_rows 9 (by omega)).1] at ht
  obtain ⟨p, hp, z⟩ := opnL_mem ht
  obtain ⟨h1, h2, h3, h4⟩ := row9 p hp
  unfold one1 at z
  rw [h1, h2, h3, h4] at z
  have e : t = ((Str.ofString "p"), (1 : Int), none) := by simpa using z
  rw [e]
  exact ⟨by decide +kernel, by show (1 : Int) ≤ 1; omega, by show (1 : Int) ≤ 999; omega, fun k z => by cases z⟩
theorem val_dom : ∀ (es : Es) (x : Str), (valW (rfW es) (.inr x)).isSome = decide (x ∈ es.map (·.1))
  | [], x => by simp [valW, rfW]
  | e :: r, x => by
    have ih := val_dom r x
    unfold valW rfW at ih ⊢
    rw [List.map_cons, List.find?_cons]
    by_cases h : e.1 = x
    · have e1 : decide ((Sum.inr e.1 : Key) = Sum.inr x) = true := decide_eq_true (by rw [h])
      simp only [e1]
      simp [h]
    · have e1 : decide ((Sum.inr e.1 : Key) = Sum.inr x) = false := decide_eq_false (fun z => h (by injection z))
      simp only [e1]
      rw [ih]
      have : x ≠ e.1 := fun z => h z.symm
      simp [this]
theorem key_dom : ∀ (B : Bk) (x : Str), keyIn B x = decide (x ∈ B.map (·.1))
  | [], x => by simp [keyIn]
  | e :: r, x => by
    have ih := key_dom r x
    unfold keyIn at ih ⊢
    rw [List.lookup_cons]
    by_cases h : (x == e.1) = true
    · simp only [h]
      have := beq_iff_eq.mp h
      simp [this]
    · have h' : (x == e.1) = false := by simpa using h
      simp only [h']
      rw [ih]
      have : x ≠ e.1 := fun z => by rw [z] at h; simp at h
      simp [this]
theorem pd_of {h : Hw} {D : Nat} {es : Es} {B : Bk} (d : h[D]? = some (.dK (rfW es))) (en : es.map (·.1) = B.map (·.1)) (nd : (es.map (·.1)).Nodup) (ep : ∀ e ∈ es, h[e.2]? = some (plF (rowsOf B e.1))) : PD h D B (rfW es) := by
  refine ⟨d, fun x => by rw [val_dom, key_dom, en], fun x hx => ?_⟩
  rw [key_dom, ← en] at hx
  obtain ⟨e, he, rfl⟩ := List.mem_map.mp (of_decide_eq_true hx)
  exact ⟨e.2, rf_val nd he, ep e he⟩
def abk : Str := Str.ofString "abcdefghijk"
def abl : Str := Str.ofString "abcdefghijkl"
theorem abk_at : ∀ i, i < 11 → abk.cps.toList[i]? = some (97 + i) := by decide +kernel
theorem abl_at : ∀ i, i < 12 → abl.cps[i]? = some (97 + i) := by decide +kernel
theorem abl_end : abl.cps[12]? = none ∧ abl.cps.size = 12 := by decide +kernel
abbrev sD (s0 : Option W) (N : Nat) (k x3 x4 y5 y6 y7 y8 y9 y10 y11 x12 : Option W) (E : Nat) (y14 y15 : Option W) : SW := [s0, some (.ref N), k, x3, x4, y5, y6, y7, y8, y9, y10, y11, x12, some (.ref E), y14, y15]
theorem deep_ok {s0 k x3 x4 y5 y6 y7 y8 y9 y10 y11 x12 y14 y15 : Option W} {N E : Nat} {h : Hw} (eE : h[E]? = some (.dK [])) :
    Ok (deepLoop (sD s0 N k x3 x4 y5 y6 y7 y8 y9 y10 y11 x12 E y14 y15)) h fun f h' => ∃ z5 z10 es, f = .nx (sD s0 N k x3 x4 z5 y6 y7 y8 y9 z10 y11 x12 E y14 y15) ∧ h'[E]? = some (.dK (rfW es)) ∧ es.map (·.1) = (List.range 10).map letter ∧ (∀ e ∈ es, h'[e.2]? = some (plF (rowsOf bd e.1))) ∧ Kb E h h' ∧ h.length ≤ h'.length := by
  have lE := (List.getElem?_eq_some_iff.mp eE).1
  unfold deepLoop
  refine ok_sForI (ok_iRg1 (ok_c ⟨10, rfl, by unfold big; omega, ?_⟩))
  refine ok_sFor (fun i sw hc => ∃ z5 z10 es, sw = sD s0 N k x3 x4 z5 y6 y7 y8 y9 z10 y11 x12 E y14 y15 ∧ hc[E]? = some (.dK (rfW es)) ∧ es.map (·.1) = (List.range i).map letter ∧ (∀ e ∈ es, hc[e.2]? = some (plF (rowsOf bd e.1)) ∧ e.2 ≠ E) ∧ Kb E h hc ∧ h.length ≤ hc.length) (n := 10) _ (Nat.le_refl _) ⟨_, _, [], rfl, eE, rfl, (fun e he => nomatch he), Kb.refl, Nat.le_refl _⟩ (fun i sw hc hi q => ?_) (fun sw hc q => ?_)
  · obtain ⟨z5, z10, es, rfl, eD, en, ep, kb, ll⟩ := q
    refine ⟨.int (0 + (i : Int)), by show (some (if i < 10 then some (W.int (0 + (i : Int))) else none)) = _; rw [if_pos hi], ok_gNm ?_⟩
    rw [Int.zero_add]
    change Ok _ hc _
    have gl := drow_gl (drow_good i hi).2.1
    have lt : E < hc.length := by omega
    -- the rest, once the plain word stands
    have rest : Ok ((sDput (mVar 13) (mBin fIx (mC (.str "abcdefghijk")) (mVar 5)) (mMake "PartsList" m_PartsList___init__ [] (aCons (mLc (iAny (mC (.str "abcdefghijkl"))) (gNm 8) tYs (mTup (aCons (mVar 8) (aCons (mVar 10) (aCons (mC (.int 1)) (aCons (mC .non) aNil))))) [8]) aNil))) (sD s0 N k x3 x4 (some (.int i)) y6 y7 y8 y9 (some (.str (nxt i))) y11 x12 E y14 y15)) hc fun f h2 => ∃ s, f = .nx s ∧ ∃ z5 z10 es, s = sD s0 N k x3 x4 z5 y6 y7 y8 y9 z10 y11 x12 E y14 y15 ∧ h2[E]? = some (.dK (rfW es)) ∧ es.map (·.1) = (List.range (i + 1)).map letter ∧ (∀ e ∈ es, h2[e.2]? = some (plF (rowsOf bd e.1)) ∧ e.2 ≠ E) ∧ Kb E h h2 ∧ h.length ≤ h2.length := by
      refine ok_dput (make_ok gl (ok_aCons ?_))
      refine ok_mLc (fun j acc h' => acc = ((drow (nxt i)).take j).map rowW ∧ h' = hc ++ [.lst acc]) hc.length (ok_iAnyS (ok_c ⟨abl, rfl, rfl, ⟨rfl, rfl⟩, fun j acc h' hj q hd => ?_, fun acc h' q hd => ?_⟩))
      · obtain ⟨rfl, rfl⟩ := q
        have hj' : j < 12 := by rw [← abl_end.2]; exact hj
        have ld : (drow (nxt i)).length = 12 := (drow_good i hi).1
        refine ⟨.str (letter j), by show some (abl.cps[j]?.map fun c => W.str ⟨#[c]⟩) = _; rw [abl_at j hj']; rfl, ok_gNm (ok_rtn (okT ?_))⟩
        refine ok_tup (ok_aCons (ok_var rfl (ok_aCons (ok_var rfl (ok_aCons (ok_c (ok_aCons (ok_c (ok_aNil ⟨Nat.le_of_ble_eq_true rfl, ?_⟩)))))))))
        refine ⟨hd, by rw [List.length_map, List.length_take]; unfold lim; omega, ?_, ?_⟩
        · have ej : (drow (nxt i))[j]? = some (letter j, nxt i, 1, none) := by
            unfold drow
            rw [List.getElem?_map, List.getElem?_range hj']
            rfl
          rw [List.take_add_one, ej, List.map_append]
          rfl
        · rw [List.set_append_right _ _ (Nat.le_refl _), Nat.sub_self]
          rfl
      · obtain ⟨rfl, rfl⟩ := q
        have ld : (drow (nxt i)).length = 12 := (drow_good i hi).1
        refine ⟨by show some (abl.cps[abl.cps.size]?.map _) = _; simp, ?_⟩
        have tk : (drow (nxt i)).take (Src.str abl, abl.cps.size).2 = drow (nxt i) := List.take_of_length_le (by show (drow (nxt i)).length ≤ abl.cps.size; rw [ld, abl_end.2]; exact Nat.le_refl _)
        rw [tk] at hd ⊢
        refine ok_aNil ⟨_, rfl, .inl ⟨hc.length, rfl, hd⟩, fun h2 p2 e2 => ?_⟩
        have p3 : hc <+: h2 := (List.prefix_append _ _).trans p2
        have lp := p2.length_le
        rw [List.length_append, List.length_singleton] at lp e2
        refine ok_var rfl (ok_bin (ok_c (ok_var rfl (ok_ixS (c := 97 + i) (by decide +kernel) (by rw [atI_nat]; exact abk_at i (by omega)) ?_))))
        have eE2 := Pre.get p3 eD
        refine ⟨E, rfW es, Sum.inr (letter i), ?_, rfl, ?_, ?_⟩
        · show (match h2[E]? with
            | some (.dK kvs) => some (E, kvs)
            | _ => none) = _
          rw [eE2]
        · have : es.length = i := by
            have := congrArg List.length en
            simpa using this
          unfold rfW
          rw [List.length_map, this]
          unfold lim
          omega
        have nin : letter i ∉ es.map (·.1) := by
          rw [en]
          intro z
          obtain ⟨j, hj, e⟩ := List.mem_map.mp z
          have := List.mem_range.mp hj
          unfold letter at e
          simp at e
          omega
        have hl : (hc ++ [O.lst ((drow (nxt i)).map rowW)]).length = hc.length + 1 := by simp
        rw [rf_put nin, hl]
        refine ⟨_, rfl, _, _, es ++ [(letter i, hc.length + 1)], rfl, get_set eE2, ?_, fun e he => ?_, kb.trans ((Kb.of p3).trans (Kb.set _)), by rw [List.length_set]; have := p3.length_le; omega⟩
        · rw [List.map_append, en, List.range_succ, List.map_append]
          rfl
        · rcases List.mem_append.mp he with he | he
          · obtain ⟨a1, a2⟩ := ep e he
            exact ⟨by rw [get_set_ne (Ne.symm a2)]; exact Pre.get p3 a1, a2⟩
          · have : e = (letter i, hc.length + 1) := by simpa using he
            rw [this]
            refine ⟨?_, by show hc.length + 1 ≠ E; omega⟩
            rw [get_set_ne (by omega)]
            show h2[hc.length + 1]? = some (plF (rowsOf bd (letter i)))
            rw [(bd_rows i hi).1]
            exact e2
    refine ok_sSeq (ok_sAsg (ok_mIf (ok_tVal (ok_bin (ok_var rfl (ok_c (ok_cmpI ⟨_, rfl, ?_⟩)))))))
    by_cases h9 : i < 9
    · rw [show decide ((i : Int) < 9) = true from decide_eq_true (by omega)]
      refine okT (ok_bin (ok_c (ok_bin (ok_var rfl (ok_c (ok_addI (ok_ixS (c := 97 + (i + 1)) (by decide +kernel) (by have : ((i : Int) + 1) = ((i + 1 : Nat) : Int) := by omega
                                                                                                                      rw [this, atI_nat]; exact abk_at (i + 1) (by omega)) (ok_gNm ?_))))))))
      have en' : nxt i = ⟨#[97 + (i + 1)]⟩ := (drow_good i hi).2.2.1 h9
      rw [← en']
      refine rest.imp fun f h2 z => ?_
      obtain ⟨s, rfl, z⟩ := z
      exact z
    · rw [show decide ((i : Int) < 9) = false from decide_eq_false (by omega)]
      refine okF (ok_c (ok_gNm ?_))
      have en' : nxt i = "p" := (drow_good i hi).2.2.2 h9
      rw [← en']
      refine rest.imp fun f h2 z => ?_
      obtain ⟨s, rfl, z⟩ := z
      exact z
  · obtain ⟨z5, z10, es, rfl, eD, en, ep, kb, ll⟩ := q
    exact ⟨rfl, _, _, es, rfl, eD, en, fun e he => (ep e he).1, kb, ll⟩
def chk5 : MS := (sIf ((tOr (tVal (mBin (fEq true) (mMeth "Catalog" "words" m_Catalog_words [] (mVar 12) aNil) (mVar 1))) (tOr (tVal (mBin (fEq true) (mCall (bLenO "Catalog" m_Catalog___len__) (aCons (mVar 12) aNil)) (mC (.int 4)))) (tOr (tVal (mBin (fOwnIn false "Catalog" m_Catalog___contains__) (mC (.str "p")) (mVar 12))) (tVal (mBin (fOwnIn false "Catalog" m_Catalog___contains__) (mC (.int 5)) (mVar 12))))))) (sRet (mC (.bl false))) sNil)
def chk8 : MS := (sIf ((tOr (tVal (mBin (fEq true) (mCall m__law_told (aCons (mMake "Catalog" m_Catalog___init__ [] (aCons (mVar 13) aNil)) (aCons (mC (.str "a")) aNil))) (mC (.int 12)))) (tVal (mBin (fEq false) (mCall m__law_told (aCons (mMake "Catalog" m_Catalog___init__ [] (aCons (mVar 13) aNil)) (aCons (mC (.str "j")) aNil))) (mC (.int 12)))))) (sRet (mC (.bl false))) sNil)
def f1 : MS := (sAsg (gNm 7) (mCall m__law_opened (aCons (mVar 4) (aCons (mVar 6) (aCons (mC (.int 1)) aNil)))))
def f2 : MS := (sAsg (gNm 14) (mLc (iEnu (mSl (mVar 7) oNo (oSo (mC (.int 12))))) (gTu 2 (gsCons (gNm 5) (gsCons (gNm 15) gsNil))) tYs (mTup (aCons (mBin fIx (mC (.str "abcdefghijkl")) (mVar 5)) (aCons (mBin fIx (mVar 15) (mC (.int 0))) (aCons (mBin fIx (mVar 15) (mC (.int 1))) (aCons (mBin fIx (mVar 15) (mC (.int 2))) aNil))))) [5, 15]))
def f3 : MS := (sAsg (gNm 14) (mIf (tVal (mBin fGt (mCall bLen (aCons (mVar 7) aNil)) (mC (.int 12)))) (mC (.int 12)) (mVar 14)))
def f4 : MS := (sIf ((tOr (tVal (mBin (fEq true) (mCall m__law_told (aCons (mVar 12) (aCons (mVar 6) aNil))) (mVar 14))) (tOr (tVal (mBin (fOwnNe "PartsList" allTys m_PartsList___eq__) (mBin (fOwnIx "Catalog" m_Catalog___getitem__) (mVar 12) (mVar 6)) (mMake "PartsList" m_PartsList___init__ [] (aCons (mBin fDget (mVar 4) (mVar 6)) aNil)))) (tVal (mBin (fOwnIn true "Catalog" m_Catalog___contains__) (mVar 6) (mVar 12)))))) (sRet (mC (.bl false))) sNil)
def loop9 : MS := sForI (iAny (mVar 1)) (gNm 6) (sSeq f1 (sSeq f2 (sSeq f3 f4)))
theorem chk5_ok {sw : SW} {h : Hw} {N c D' p0 p1 p2 p3 : Nat} {PF : Fl → Hw → Prop} (s1 : sw[1]? = some (some (.ref N))) (s12 : sw[12]? = some (some (.ref c))) (eN : h[N]? = some (.lst (names.map W.str))) (t : IsC h c D' (es4 p0 p1 p2 p3)) (k : ∀ h', h <+: h' → PF (.nx sw) h') : Ok (chk5 sw) h PF := by
  unfold chk5
  refine ok_sIf (ok_tOr (ok_tVal (ok_bin (ok_meth (ok_var s12 ⟨⟨c, _, rfl, t.c, cat_lk (by decide +kernel)⟩, ok_aNil ?_⟩)))))
  refine (cat_words t (Nat.lt_of_lt_of_le (by decide : (4 : Nat) < 31) (Nat.le_refl _))).imp fun r h1 z => ?_
  obtain ⟨rfl, rfl⟩ := z
  have es : sortS (dedK ((es4 p0 p1 p2 p3).map (·.1))) = names := (by decide +kernel : sortS (dedK names) = names)
  rw [es]
  have px : h <+: h ++ [O.lst (names.map W.str)] := List.prefix_append _ _
  refine ok_var s1 (eq_strs (xs := names) (by decide +kernel) (by simp) (Pre.get px eN) ⟨_, rfl, okF ?_⟩)
  have t1 := t.pre px
  refine ok_tOr (ok_tVal (ok_bin (ok_call (ok_aCons (ok_var s12 (ok_aNil (ok_lenO t1.ins ((cat_len t1).imp fun r h1 z => ?_))))))))
  obtain ⟨rfl, rfl⟩ := z
  refine ⟨4, rfl, by decide, ok_c (eq_int ⟨_, rfl, okF ?_⟩)⟩
  refine ok_tOr (ok_tVal (ok_bin (ok_c (ok_var s12 (ok_ownIn t1.ins ((cat_in t1 (by decide +kernel)).imp fun r h1 z => ?_))))))
  obtain ⟨rfl, p1'⟩ := z
  have e0 : (isw (Str.ofString "p") && (valW (rfW (es4 p0 p1 p2 p3)) (.inr (Str.ofString "p"))).isSome) = false := by
    rw [val4]
    decide +kernel
  rw [e0]
  refine ⟨_, rfl, _, rfl, okF ?_⟩
  have t2 := t1.pre p1'
  refine ok_tVal (ok_bin (ok_c (ok_var s12 (ok_ownIn t2.ins ((cat_in_int t2).imp fun r h1 z => ?_)))))
  obtain ⟨rfl, p2'⟩ := z
  exact ⟨_, rfl, _, rfl, okF (ok_sNil (k _ (px.trans (p1'.trans p2'))))⟩
theorem chk8_ok {sw : SW} {h : Hw} {E : Nat} {es : Es} {PF : Fl → Hw → Prop} (s13 : sw[13]? = some (some (.ref E))) (eE : h[E]? = some (.dK (rfW es))) (en : es.map (·.1) = (List.range 10).map letter) (ep : ∀ e ∈ es, h[e.2]? = some (plF (rowsOf bd e.1))) (k : ∀ h', h <+: h' → PF (.nx sw) h') : Ok (chk8 sw) h PF := by
  have nd : (es.map (·.1)).Nodup := by rw [en]; decide +kernel
  have few : es.length ≤ 40 := by
    have := congrArg List.length en
    simp at this
    omega
  have eb : es.map (·.1) = bd.map (·.1) := by rw [en]; decide +kernel
  have iw : ∀ e ∈ es, isw e.1 = true := fun e he => by
    have : e.1 ∈ (List.range 10).map letter := by rw [← en]; exact List.mem_map_of_mem he
    obtain ⟨j, hj, ej⟩ := List.mem_map.mp this
    rw [← ej]
    exact letter_w j (by have := List.mem_range.mp hj; omega)
  unfold chk8
  refine ok_sIf (ok_tOr (ok_tVal (ok_bin (ok_call (ok_aCons (cat_make nd few (ok_aCons (ok_var s13 (ok_aNil ⟨E, rfl, eE, fun e he => ⟨iw e he, _, ep e he⟩, fun h2 D p2 e1 e2 => ok_aCons (ok_c (ok_aNil ?_))⟩)))))))))
  have cb : CB h2 h.length D es bd := ⟨⟨e1, e2⟩, pd_of e2 eb nd fun e he => Pre.get p2 (ep e he), by decide +kernel, bd_g⟩
  have nra : ∀ w ∈ [letter 0], rkd (letter (9 - 9)) ≤ rkd w := fun w hw => by
    have e : w = letter 0 := by simpa using hw
    rw [e]
    exact Nat.le_refl _
  have lva := bd_lv 9 (by decide) 2
  refine (told_ok (x := letter 0) cb lva.f (lva.nor _ nra) (letter_w 0 (by decide)) (lva.ne 1) (fun z => by have := bd_a; omega)).imp fun r h3 z => ?_
  obtain ⟨p3, z1, _⟩ := z
  have z1 := z1 bd_a
  subst z1
  refine ok_c (eq_int ⟨_, rfl, okF ?_⟩)
  have eE3 := Pre.get (p2.trans p3) eE
  refine ok_tVal (ok_bin (ok_call (ok_aCons (cat_make nd few (ok_aCons (ok_var s13 (ok_aNil ⟨E, rfl, eE3, fun e he => ⟨iw e he, _, Pre.get (p2.trans p3) (ep e he)⟩, fun h4 D4 p4 e1 e2 => ok_aCons (ok_c (ok_aNil ?_))⟩)))))))
  have cb4 : CB h4 h3.length D4 es bd := ⟨⟨e1, e2⟩, pd_of e2 eb nd fun e he => Pre.get (p2.trans (p3.trans p4)) (ep e he), by decide +kernel, bd_g⟩
  have nrj : ∀ w ∈ [letter 9], rkd (letter (9 - 0)) ≤ rkd w := fun w hw => by
    have e : w = letter 9 := by simpa using hw
    rw [e]
    exact Nat.le_refl _
  have lvj := bd_lv 0 (by decide) 11
  refine (told_ok (x := letter 9) cb4 lvj.f (lvj.nor _ nrj) (letter_w 9 (by decide)) (lvj.ne 1) (fun _ => bd_jg)).imp fun r h5 z => ?_
  obtain ⟨p5, _, z2⟩ := z
  obtain ⟨L, rfl, eL⟩ := z2 (by rw [bd_j]; exact Nat.le_refl _)
  have okw : ∀ p ∈ zrows 0 (opn bd 12 (letter 9) 1), OkW p := fun p hp => ((zrows_good (lvj.ne 1) (by rw [opn_len, bd_j]; exact Nat.le_refl _) bd_jg).g p hp).w2
  refine ok_c (ok_eq (toD_rowsL eL) rfl (by rw [shp (lay_list okw).1 (lay_list okw).2]; rfl) ⟨_, rfl, ?_⟩)
  rw [show PyData.eqv (.list ((zrows 0 (opn bd 12 (letter 9) 1)).map rowD)) (.int 12) = false by unfold PyData.eqv; rfl]
  exact okF (ok_sNil (k _ (p2.trans (p3.trans (p4.trans p5)))))
abbrev sX (s0 : Option W) (N : Nat) (k x3 : Option W) (D : Nat) (z5 z6 z7 z8 z9 z10 z11 : Option W) (c : Nat) (z13 z14 z15 : Option W) : SW := [s0, some (.ref N), k, x3, some (.ref D), z5, z6, z7, z8, z9, z10, z11, some (.ref c), z13, z14, z15]
structure Z (h : Hw) (N D c D' : Nat) (es : Es) (B : Bk) (kvs : List (Key × W)) : Prop where
  eN : h[N]? = some (.lst (names.map W.str))
  l : LD h D B kvs
  c : CB h c D' es B
  ky : ∀ x ∈ names, keyIn B x = true
  lv : ∀ x ∈ names, Lv B rk4 12 x ∧ Lm B 12 x 81 1
  gl : ∀ x ∈ names, GoodL (rowsOf B x)
theorem Z.pre {h h' : Hw} {N D c D' : Nat} {es : Es} {B : Bk} {kvs : List (Key × W)} (t : Z h N D c D' es B kvs) (p : h <+: h') : Z h' N D c D' es B kvs := ⟨Pre.get p t.eN, t.l.pre p, t.c.pre p, t.ky, t.lv, t.gl⟩
theorem trW_at (t : Tr) : atI [W.str t.1, .int t.2.1, sW t.2.2] 0 = some (.str t.1) ∧ atI [W.str t.1, .int t.2.1, sW t.2.2] 1 = some (.int t.2.1) ∧ atI [W.str t.1, .int t.2.1, sW t.2.2] 2 = some (sW t.2.2) := ⟨rfl, rfl, rfl⟩
theorem loop9_ok {s0 k x3 z5 z6 z7 z8 z9 z10 z11 z13 z14 z15 : Option W} {h : Hw} {N D c D' : Nat} {es : Es} {B : Bk} {kvs : List (Key × W)} (t : Z h N D c D' es B kvs) :
    Ok (loop9 (sX s0 N k x3 D z5 z6 z7 z8 z9 z10 z11 c z13 z14 z15)) h fun f h' => ∃ y6 y7 y14, f = .nx (sX s0 N k x3 D z5 y6 y7 z8 z9 z10 z11 c z13 y14 z15) ∧ h'[N]? = some (.lst (names.map W.str)) := by
  unfold loop9
  refine ok_sForI (ok_iAnyL (ok_var rfl ⟨N, _, rfl, t.eN, ?_⟩))
  refine ok_sFor (fun i sw hc => (∃ y6 y7 y14, sw = sX s0 N k x3 D z5 y6 y7 z8 z9 z10 z11 c z13 y14 z15) ∧ h <+: hc) (n := 4) _ (Nat.le_refl _) ⟨⟨_, _, _, rfl⟩, List.prefix_refl _⟩ (fun i sw hc hi q => ?_) (fun sw hc q => ?_)
  · obtain ⟨⟨y6, y7, y14, rfl⟩, pc⟩ := q
    have tc := t.pre pc
    have hi4 : i < names.length := hi
    have hm : names[i] ∈ names := List.getElem_mem hi4
    refine ⟨.str names[i], by rw [item_lst tc.eN, List.getElem?_map, List.getElem?_eq_getElem hi4]; rfl, ok_gNm ?_⟩
    change Ok _ hc _
    generalize names[i] = x at hm ⊢
    obtain ⟨lv, lm⟩ := tc.lv x hm
    have iw : isw x = true := (by decide +kernel : ∀ x ∈ names, isw x = true) x hm
    have l81 := lm.len 1
    unfold f1
    refine ok_sSeq (ok_sAsg (ok_call (ok_aCons (ok_var rfl (ok_aCons (ok_var rfl (ok_aCons (ok_c (ok_aNil ?_)))))))))
    refine (law_opened_ok tc.c.g 12 tc.l lv.f (by omega)).imp fun r h1 z => ?_
    obtain ⟨L, rfl, _, p1, eL⟩ := z
    refine ok_gNm ?_
    change Ok _ h1 _
    have len := opn_len (B := B) 12 x 1
    have gt : ∀ r ∈ opn B 12 x 1, GoodT r := lm.g 1 (by omega) (by omega)
    have ne := lv.ne 1
    have told := fun (hh : Hw) (tt : CB hh c D' es B) => told_ok tt lv.f (lv.nor [x] fun w hw => (by
      have e : w = x := by simpa using hw
      rw [e]
      exact Nat.le_refl _)) iw ne (fun _ => gt)
    have t1 := tc.pre p1
    generalize hts : opn B 12 x 1 = ts at eL len gt ne l81 told
    -- due
    unfold f2
    have d2 : Ok (sAsg (gNm 14) (mLc (iEnu (mSl (mVar 7) oNo (oSo (mC (.int 12))))) (gTu 2 (gsCons (gNm 5) (gsCons (gNm 15) gsNil))) tYs (mTup (aCons (mBin fIx (mC (.str "abcdefghijkl")) (mVar 5)) (aCons (mBin fIx (mVar 15) (mC (.int 0))) (aCons (mBin fIx (mVar 15) (mC (.int 1))) (aCons (mBin fIx (mVar 15) (mC (.int 2))) aNil))))) [5, 15]) (sX s0 N k x3 D z5 (some (.str x)) (some (.ref L)) z8 z9 z10 z11 c z13 y14 z15)) h1 fun f h2 => ∃ G, f = .nx (sX s0 N k x3 D z5 (some (.str x)) (some (.ref L)) z8 z9 z10 z11 c z13 (some (.ref G)) z15) ∧ h1 <+: h2 ∧ h2[G]? = some (.lst ((zrows 0 (ts.take 12)).map rowW)) := by
      refine ok_sAsg ?_
      have ct : cutW (ts.map trW) none (some (12 : Int)) = (ts.take 12).map trW := by
        unfold cutW
        have e12 : ((12 : Int)) = ((12 : Nat) : Int) := rfl
        rw [HT.sIx_none, e12, HT.sIx_nat, List.drop_zero, Nat.sub_zero, List.map_take]
        by_cases hl : 12 ≤ ts.length
        · rw [Nat.min_eq_left (by rw [List.length_map]; exact hl)]
        · rw [Nat.min_eq_right (by rw [List.length_map]; omega), List.take_of_length_le (Nat.le_refl _), List.take_of_length_le (by rw [List.length_map]; omega)]
      have lt12 : (ts.take 12).length ≤ 12 := by rw [List.length_take]; omega
      generalize ts.take 12 = us at ct lt12 ⊢
      refine ok_mLc (fun i acc h' => acc = ((zrows 0 us).take i).map rowW ∧ h' = h1 ++ [.lst (us.map trW)] ++ [.lst acc]) (h1.length + 1) (ok_iEnuL (ok_sl (ok_var rfl (ok_oNo (ok_oSo (ok_c ⟨12, rfl, ok_slL eL ?_⟩))))))
      rw [ct]
      refine ⟨h1.length, us.map trW, rfl, by simp, by simp, ⟨by simp, by simp⟩, fun j acc h' hj q hd => ?_, fun acc h' q hd => ?_⟩
      · obtain ⟨rfl, rfl⟩ := q
        have hj' : j < us.length := by simpa using hj
        have eu : (h1 ++ [O.lst (us.map trW)] ++ [O.lst (((zrows 0 us).take j).map rowW)])[h1.length]? = some (.lst (us.map trW)) := get_app (by simp)
        refine ⟨.tup [.int j, trW us[j]], by rw [item_enu eu, List.getElem?_map, List.getElem?_eq_getElem hj']; rfl, ?_⟩
        refine ok_gTu rfl (ok_gsCons (ok_gNm (ok_gsCons (ok_gNm (ok_gsNil ?_)))))
        refine ok_rtn (okT ?_)
        obtain ⟨q0, q1, q2⟩ := trW_at us[j]
        refine ok_tup (ok_aCons (ok_bin (ok_c (ok_var rfl (ok_ixS (c := 97 + j) (by decide +kernel) (by rw [atI_nat]; exact (by decide +kernel : ∀ i, i < 12 → abl.cps.toList[i]? = some (97 + i)) j (by omega)) ?_)))))
        refine ok_aCons (ok_bin (ok_var rfl (ok_c (ok_ixT q0 ?_))))
        refine ok_aCons (ok_bin (ok_var rfl (ok_c (ok_ixT q1 ?_))))
        refine ok_aCons (ok_bin (ok_var rfl (ok_c (ok_ixT q2 (ok_aNil ⟨Nat.le_of_ble_eq_true rfl, ?_⟩)))))
        refine ⟨hd, by rw [List.length_map, List.length_take, zrows_len]; unfold lim; omega, ?_, ?_⟩
        · rw [zrows_snoc hj', List.map_append]
          rfl
        · rw [List.set_append_right _ _ (by simp)]
          simp
      · obtain ⟨rfl, rfl⟩ := q
        have eu : ∀ acc : List W, (h1 ++ [O.lst (us.map trW)] ++ [O.lst acc])[h1.length]? = some (.lst (us.map trW)) := fun acc => get_app (by simp)
        refine ⟨by rw [item_enu (eu _), List.getElem?_eq_none (Nat.le_refl _)]; rfl, ok_gNm ?_⟩
        refine ⟨_, rfl, by rw [List.append_assoc]; exact List.prefix_append _ _, ?_⟩
        rw [hd, List.take_of_length_le (by rw [zrows_len]; show us.length ≤ (us.map trW).length; rw [List.length_map]; exact Nat.le_refl _)]
    refine ok_sSeq (d2.imp fun f h2 z => ?_)
    obtain ⟨G, rfl, p2, eG⟩ := z
    change Ok _ h2 _
    have t2 := t1.pre p2
    have eL2 := Pre.get p2 eL
    unfold f3
    refine ok_sSeq (ok_sAsg (ok_mIf (ok_tVal (ok_bin (ok_call (ok_aCons (ok_var rfl (ok_aNil (ok_lenL eL2 (ok_c (ok_cmpI ⟨_, rfl, ?_⟩)))))))))))
    rw [List.length_map]
    -- what follows once due stands
    have last : ∀ w, (12 < ts.length → w = .int 12) → (ts.length ≤ 12 → w = .ref G) → Ok (f4 (sX s0 N k x3 D z5 (some (.str x)) (some (.ref L)) z8 z9 z10 z11 c z13 (some w) z15)) h2 fun f h3 => ∃ s, f = .nx s ∧ (∃ y6 y7 y14, s = sX s0 N k x3 D z5 y6 y7 z8 z9 z10 z11 c z13 y14 z15) ∧ h <+: h3 := fun w w1 w2 => by
      unfold f4
      refine ok_sIf (ok_tOr (ok_tVal (ok_bin (ok_call (ok_aCons (ok_var rfl (ok_aCons (ok_var rfl (ok_aNil ?_)))))))))
      refine (told h2 t2.c).imp fun r h3 z => ?_
      obtain ⟨p3, q1, q2⟩ := z
      have t3 := t2.pre p3
      refine ok_var rfl ?_
      -- the second and the third question
      have more : Ok (tOr (tVal (mBin (fOwnNe "PartsList" allTys m_PartsList___eq__) (mBin (fOwnIx "Catalog" m_Catalog___getitem__) (mVar 12) (mVar 6)) (mMake "PartsList" m_PartsList___init__ [] (aCons (mBin fDget (mVar 4) (mVar 6)) aNil)))) (tVal (mBin (fOwnIn true "Catalog" m_Catalog___contains__) (mVar 6) (mVar 12))) (sX s0 N k x3 D z5 (some (.str x)) (some (.ref L)) z8 z9 z10 z11 c z13 (some w) z15)) h3 fun b h4 => b = false ∧ h3 <+: h4 := by
        obtain ⟨q, vq, eq⟩ := t3.c.d.val x (t3.ky x hm)
        refine ok_tOr (ok_tVal (ok_bin (ok_bin (ok_var rfl (ok_var rfl (ok_ownIx t3.c.c.ins ((cat_get t3.c.c iw vq).imp fun r h4 z => ?_)))))))
        obtain ⟨rfl, p4⟩ := z
        have t4 := t3.pre p4
        obtain ⟨ql, vl, el⟩ := t4.l.val x (t4.ky x hm)
        refine make_ok (t4.gl x hm) (ok_aCons (ok_bin (ok_var rfl (ok_var rfl (ok_dget t4.l.of rfl vl (ok_aNil ⟨_, rfl, .inl ⟨ql, rfl, el⟩, fun h5 p5 e5 => ?_⟩))))))
        have eq5 := Pre.get (p4.trans p5) eq
        have okr : ∀ p ∈ rowsOf B x, OkW p := fun p hp => ((t4.gl x hm).g p hp).w2
        refine ok_ownNe (insP eq5) (by rw [insP e5]; rfl) ((self_eq okr eq5 e5).imp fun r h6 z => ?_)
        obtain ⟨rfl, rfl⟩ := z
        refine ⟨true, rfl, _, rfl, okF ?_⟩
        have t5 := t4.pre p5
        refine ok_tVal (ok_bin (ok_var rfl (ok_var rfl (ok_ownIn t5.c.c.ins ((cat_in t5.c.c (isw_lim iw)).imp fun r h7 z => ?_)))))
        obtain ⟨rfl, p7⟩ := z
        rw [iw, t5.c.d.dom, t5.ky x hm]
        exact ⟨_, rfl, _, rfl, rfl, p4.trans (p5.trans p7)⟩
      by_cases hc : 12 < ts.length
      · have e1 := w1 hc
        have e2 := q1 (by omega)
        subst e1 e2
        refine eq_int ⟨_, rfl, okF (more.imp fun b h4 z => ?_)⟩
        obtain ⟨rfl, p4⟩ := z
        exact okF (ok_sNil ⟨_, rfl, ⟨_, _, _, rfl⟩, pc.trans (p1.trans (p2.trans (p3.trans p4)))⟩)
      · have hl : ts.length ≤ 12 := by omega
        have e1 := w2 hl
        subst e1
        obtain ⟨L3, rfl, eL3⟩ := q2 (by omega)
        have okz : ∀ p ∈ zrows 0 ts, OkW p := fun p hp => ((zrows_good ne hl gt).g p hp).w2
        have eG' := Pre.get p3 eG
        rw [List.take_of_length_le hl] at eG'
        refine eq_rowsL okz eL3 eG' ⟨_, rfl, okF (more.imp fun b h4 z => ?_)⟩
        obtain ⟨rfl, p4⟩ := z
        exact okF (ok_sNil ⟨_, rfl, ⟨_, _, _, rfl⟩, pc.trans (p1.trans (p2.trans (p3.trans p4)))⟩)
    by_cases hc : 12 < ts.length
    · rw [show decide ((ts.length : Int) > 12) = true from decide_eq_true (by omega)]
      refine okT (ok_c (ok_gNm ?_))
      refine (last (.int 12) (fun _ => rfl) (fun z => by omega)).imp fun f h3 z => ?_
      obtain ⟨s, rfl, z⟩ := z
      exact z
    · rw [show decide ((ts.length : Int) > 12) = false from decide_eq_false (by omega)]
      refine okF (ok_var rfl (ok_gNm ?_))
      refine (last (.ref G) (fun z => by omega) (fun _ => rfl)).imp fun f h3 z => ?_
      obtain ⟨s, rfl, z⟩ := z
      exact z
  · obtain ⟨⟨y6, y7, y14, rfl⟩, pc⟩ := q
    exact ⟨by rw [item_lst (Pre.get pc t.eN)]; rfl, _, _, _, rfl, Pre.get pc t.eN⟩
def turn : MS := sSeq (sAsg (gNm 3) (mCall m__law_pool (aCons (mVar 0) (aCons (mVar 2) aNil)))) (sSeq (sAsg (gNm 4) (mDnew)) (sSeq bookLoop (sSeq (sAsg (gNm 12) mkCat) (sSeq chk5 (sSeq (sAsg (gNm 13) (mDnew)) (sSeq deepLoop (sSeq chk8 loop9)))))))
theorem law_eq : m_law = mFn 1 16 (sSeq (sAsg (gNm 1) (mLst (aCons (mC (.str "la")) (aCons (mC (.str "lb")) (aCons (mC (.str "lc")) (aCons (mC (.str "ld")) aNil)))))) (sSeq (sForI (iRg1 (mCall bMax (aCons (mC (.int 1)) (aCons (mCall bMin (aCons (mCall bLen (aCons (mVar 0) aNil)) (aCons (mC (.int 3)) aNil))) aNil)))) (gNm 2) turn) (sRet (mC (.bl true))))) := rfl
theorem ok_turnsH {ns : List Int} {c : Int} {j : Nat} {b : MS} {sw : SW} {h : Hw} {PF : Fl → Hw → Prop} (Inv : SW → Hw → Prop) (hc : 1 ≤ c) (hc2 : c ≤ 100) (h0 : Inv sw h) (hv : sw[0]? = some (some (.rol (ns.map W.int))))
    (hb : ∀ (k : Int) (sw : SW) (h : Hw), 0 ≤ k → k ≤ 100 → Inv sw h → Ok (b (sw.set j (some (.int k)))) h fun f h' => ∃ s, f = .nx s ∧ Inv s h')
    (he : ∀ sw h, Inv sw h → PF (.nx sw) h) : Ok (sForI (iRg1 (mCall bMax (aCons (mC (.int 1)) (aCons (mCall bMin (aCons (mCall bLen (aCons (mVar 0) aNil)) (aCons (mC (.int c)) aNil))) aNil)))) (gNm j) b sw) h PF := by
  refine ok_sForI (ok_iRg1 (ok_call (ok_aCons (ok_c (ok_aCons (ok_call (ok_aCons (ok_call (ok_aCons (ok_var hv (ok_aNil (ok_lenR (ok_aCons (ok_c (ok_aNil (ok_min (ok_aNil (ok_max ?_))))))))))))))))))
  generalize hz : (if (if c < ((ns.map W.int).length : Int) then c else ((ns.map W.int).length : Int)) > 1 then (if c < ((ns.map W.int).length : Int) then c else ((ns.map W.int).length : Int)) else 1) = z
  have hz1 : 1 ≤ z ∧ z ≤ 100 := by
    subst hz
    split <;> (try split) <;> omega
  refine ⟨_, rfl, by unfold big; omega, ?_⟩
  refine ok_sFor (fun _ sw h => Inv sw h) (n := z.toNat) _ (Nat.le_refl _) h0 (fun i sw h hi p => ?_) (fun sw h p => ?_)
  · refine ⟨.int (0 + i), by unfold Src.item; simp only [if_pos hi], ok_gNm ((hb (0 + i) sw h (by omega) (by omega) p).imp fun f h2 q => ?_)⟩
    obtain ⟨s, rfl, q⟩ := q
    exact q
  · refine ⟨by unfold Src.item; simp, he sw h p⟩
abbrev s16 (ns : List Int) (N : Nat) (y2 y3 y4 y5 y6 y7 y8 y9 y10 y11 y12 y13 y14 y15 : Option W) : SW := [some (.rol (ns.map W.int)), some (.ref N), y2, y3, y4, y5, y6, y7, y8, y9, y10, y11, y12, y13, y14, y15]
theorem turn_ok {ns : List Int} {N : Nat} {k : Int} {h : Hw} {y3 y4 y5 y6 y7 y8 y9 y10 y11 y12 y13 y14 y15 : Option W} (eN : h[N]? = some (.lst (names.map W.str))) (k0 : 0 ≤ k) (k1 : k ≤ 100) :
    Ok (turn (s16 ns N (some (.int k)) y3 y4 y5 y6 y7 y8 y9 y10 y11 y12 y13 y14 y15)) h fun f h' => ∃ z2 z3 z4 z5 z6 z7 z8 z9 z10 z11 z12 z13 z14 z15, f = .nx (s16 ns N z2 z3 z4 z5 z6 z7 z8 z9 z10 z11 z12 z13 z14 z15) ∧ h'[N]? = some (.lst (names.map W.str)) := by
  unfold turn
  refine ok_sSeq (ok_sAsg (ok_call (ok_aCons (ok_var rfl (ok_aCons (ok_var rfl (ok_aNil ?_)))))))
  rw [pool_eq]
  refine pool_ok k0 (by omega) fun a b g a0 b0 => ?_
  generalize hn : (h ++ g).length = n
  have lN := (List.getElem?_eq_some_iff.mp eN).1
  have nN : N ≠ n := by
    rw [← hn, List.length_append]
    omega
  have pl1 : PoolAt n (h ++ g ++ [pl a b]) := ⟨a, b, a0, b0, by rw [← hn]; exact List.getElem?_concat_length⟩
  have eN1 : (h ++ g ++ [pl a b])[N]? = some (.lst (names.map W.str)) := get_app (get_app eN)
  have ln1 := pl1.lt
  generalize h ++ g ++ [pl a b] = h1 at pl1 eN1 ln1 ⊢
  refine ok_gNm ?_
  change Ok _ h1 _
  have lN1 := (List.getElem?_eq_some_iff.mp eN1).1
  refine ok_sSeq (ok_sAsg (ok_dnew (ok_gNm ?_)))
  change Ok _ (h1 ++ [O.dK []]) _
  have bo : Bo 0 N n h1.length [] [] (h1 ++ [O.dK []]) := ⟨rfl, rfl, (fun j e ps z => nomatch z), by simp [rfW], get_app eN1, pl1.pre (List.prefix_append _ _)⟩
  refine ok_sSeq ((book_ok bo nN (by omega) (by omega)).imp fun f h2 z => ?_)
  obtain ⟨w5, w6, w7, w8, w9, w10, w11, es, Rs, rfl, b4o⟩ := z
  obtain ⟨L0, L1, L2, L3, R0, R1, R2, R3, rfl, rfl⟩ := bo_open b4o
  change Ok _ h2 _
  obtain ⟨r0, d0, _⟩ := b4o.rw 0 _ _ rfl rfl
  obtain ⟨r1, d1, _⟩ := b4o.rw 1 _ _ rfl rfl
  obtain ⟨r2, d2, _⟩ := b4o.rw 2 _ _ rfl rfl
  obtain ⟨r3, d3, _⟩ := b4o.rw 3 _ _ rfl rfl
  obtain ⟨gb, lv⟩ := book_facts d0 d1 d2 d3
  have ld := ld4 (D := h1.length) b4o.d r0 r1 r2 r3
  have gl : ∀ x ∈ names, GoodL (rowsOf (b4 R0 R1 R2 R3) x) := fun x hx => by
    unfold names at hx
    simp only [List.mem_cons, List.not_mem_nil, or_false] at hx
    rcases hx with rfl | rfl | rfl | rfl
    · rw [show rowsOf (b4 R0 R1 R2 R3) "la" = R0 by kernel_rfl]; exact dr_good d0
    · rw [show rowsOf (b4 R0 R1 R2 R3) "lb" = R1 by kernel_rfl]; exact dr_good d1
    · rw [show rowsOf (b4 R0 R1 R2 R3) "lc" = R2 by kernel_rfl]; exact dr_good d2
    · rw [show rowsOf (b4 R0 R1 R2 R3) "ld" = R3 by kernel_rfl]; exact dr_good d3
  refine ok_sSeq (ok_sAsg (mkCat_ok (N := N) (D := h1.length) rfl rfl rfl (fun w => rfl) (fun w => rfl) b4o.eN ld gl gb fun h3 c D' p0 p1 p2 p3 pre cb => ok_gNm ?_))
  change Ok _ h3 _
  have z3 : Z h3 N h1.length c D' (es4 p0 p1 p2 p3) (b4 R0 R1 R2 R3) (rfW (es4 L0 L1 L2 L3)) := ⟨Pre.get pre b4o.eN, ld.pre pre, cb, fun x hx => by rw [b4_key, decide_eq_true hx], lv, gl⟩
  refine ok_sSeq (chk5_ok (N := N) (c := c) rfl rfl z3.eN z3.c.c fun h4 p4 => ?_)
  change Ok _ h4 _
  have z4 := z3.pre p4
  refine ok_sSeq (ok_sAsg (ok_dnew (ok_gNm ?_)))
  change Ok _ (h4 ++ [O.dK []]) _
  refine ok_sSeq ((deep_ok (E := h4.length) (by simp)).imp fun f h5 z => ?_)
  obtain ⟨w5', w10', esd, rfl, eE, en, ep, kb, ll⟩ := z
  change Ok _ h5 _
  have p5 : h4 <+: h5 := pre_get' fun j o e => kb j o (by have := (List.getElem?_eq_some_iff.mp e).1; omega) (get_app e)
  have z5 := z4.pre p5
  refine ok_sSeq (chk8_ok (E := h4.length) rfl eE en ep fun h6 p6 => ?_)
  change Ok _ h6 _
  have z6 := z5.pre p6
  have eN6 := z6.eN
  have l9 := loop9_ok (s0 := some (.rol (ns.map W.int))) (k := some (.int k)) (x3 := some (.ref n)) (z5 := w5') (z6 := w6) (z7 := w7) (z8 := w8) (z9 := w9) (z10 := w10') (z11 := w11) (z13 := some (.ref h4.length)) (z14 := y14) (z15 := y15) z6
  exact l9.imp fun f h7 z => by
    obtain ⟨q6, q7, q14, rfl, e7⟩ := z
    exact ⟨_, _, _, _, _, _, _, _, _, _, _, _, _, _, rfl, e7⟩
theorem law_true : ∀ ns : List Int, ns.length ≤ 63 → ∃ h', m_law [.rol (ns.map W.int)] [] = .ok (.bl true) h' := fun ns _ => by
  have o : Ok (m_law [.rol (ns.map W.int)]) [] fun w _ => w = .bl true := by
    rw [law_eq]
    refine ok_mFn' (s0 := [some (.rol (ns.map W.int)), none, none, none, none, none, none, none, none, none, none, none, none, none, none, none]) rfl rfl ?_
    refine ok_sSeq (ok_sAsg (ok_lst (ok_aCons (ok_c (ok_aCons (ok_c (ok_aCons (ok_c (ok_aCons (ok_c (ok_aNil ⟨by decide +kernel, ok_gNm ?_⟩)))))))))))
    refine ok_sSeq (ok_turnsH (ns := ns) (fun sw h => ∃ y2 y3 y4 y5 y6 y7 y8 y9 y10 y11 y12 y13 y14 y15, sw = s16 ns 0 y2 y3 y4 y5 y6 y7 y8 y9 y10 y11 y12 y13 y14 y15 ∧ h[0]? = some (.lst (names.map W.str))) (by decide) (by decide) ⟨_, _, _, _, _, _, _, _, _, _, _, _, _, _, rfl, rfl⟩ rfl (fun k sw h k0 k1 q => ?_) fun sw h q => ?_)
    · obtain ⟨y2, y3, y4, y5, y6, y7, y8, y9, y10, y11, y12, y13, y14, y15, rfl, eN⟩ := q
      exact (turn_ok eN k0 k1).imp fun f h' z => by
        obtain ⟨z2, z3, z4, z5, z6, z7, z8, z9, z10, z11, z12, z13, z14, z15, rfl, e⟩ := z
        exact ⟨_, rfl, _, _, _, _, _, _, _, _, _, _, _, _, _, _, rfl, e⟩
    · exact ok_sRet (ok_c rfl)
  obtain ⟨w, h', e, rfl⟩ := o
  exact ⟨h', e⟩
theorem all_mk {l : PySem.W.OpenLaw} {w : World} {K : PySem.W.Frag} {h : Heap} {mg : Str → Option Value} {fa : Addr} (X : K.In h) (G : h.Ns mainGlobals mg) (hfa : mg "law" = some (.ref fa))
    {C_Catalog : Addr}
    (g_Catalog : PySem.W.nsIn K mainGlobals "Catalog" = some (some (.ref C_Catalog)))
    (q1_Catalog : PySem.W.plainGet K C_Catalog Str.empty = true)
    (q2_Catalog : PySem.W.hasDictIn K C_Catalog = true)
    (q3_Catalog : PySem.W.plainOver K C_Catalog = true)
    (q4_Catalog : PySem.W.findIn K (.ref C_Catalog) "__setattr__" = some (some (.builtin "object.__setattr__")))
    (q5_Catalog : PySem.W.findIn K (.ref C_Catalog) "__class__" = some (some (.builtin "object.__class__")))
    (q6_Catalog : PySem.W.specialIn K (.builtin "object.__class__") "__get__" = some (some (.builtin "getset_descriptor.__get__")))
    (q7_Catalog : PySem.W.takesIn K (.builtin "object.__class__") = some true)
    (q8_Catalog : PySem.W.mroIn K C_Catalog (.type "object") = some true)
    (q9_Catalog : PySem.W.kitOne K (.ref C_Catalog) (.ref C_Catalog) = some true)
    (r1_Catalog : PySem.W.selfFirst K C_Catalog = true)
    (r2_Catalog : PySem.W.noSeq K C_Catalog = true)
    (r3_Catalog : PySem.W.findIn K (.ref C_Catalog) "__ne__" = some (some (.builtin "object.__ne__")))
    (t_Catalog_dict : PySem.W.kitOne K (.type "dict") (.ref C_Catalog) = some false)
    (n_Catalog_dict : PySem.W.notFirst K C_Catalog (.type "dict") = true)
    (t_Catalog_list : PySem.W.kitOne K (.type "list") (.ref C_Catalog) = some false)
    (n_Catalog_list : PySem.W.notFirst K C_Catalog (.type "list") = true)
    (t_Catalog_tuple : PySem.W.kitOne K (.type "tuple") (.ref C_Catalog) = some false)
    (n_Catalog_tuple : PySem.W.notFirst K C_Catalog (.type "tuple") = true)
    (t_Catalog_int : PySem.W.kitOne K (.type "int") (.ref C_Catalog) = some false)
    (n_Catalog_int : PySem.W.notFirst K C_Catalog (.type "int") = true)
    (t_Catalog_str : PySem.W.kitOne K (.type "str") (.ref C_Catalog) = some false)
    (n_Catalog_str : PySem.W.notFirst K C_Catalog (.type "str") = true)
    (t_Catalog_bool : PySem.W.kitOne K (.type "bool") (.ref C_Catalog) = some false)
    (n_Catalog_bool : PySem.W.notFirst K C_Catalog (.type "bool") = true)
    (t_Catalog_NoneType : PySem.W.kitOne K (.type "NoneType") (.ref C_Catalog) = some false)
    (n_Catalog_NoneType : PySem.W.notFirst K C_Catalog (.type "NoneType") = true)
    (y1_Catalog : PySem.W.makesIn K C_Catalog = true)
    (y2_Catalog : PySem.W.keepIn K (.ref C_Catalog) = true)
    (e_Catalog__lists : PySem.W.findIn K (.ref C_Catalog) "_lists" = some none)
    {C_PartsList : Addr}
    (g_PartsList : PySem.W.nsIn K mainGlobals "PartsList" = some (some (.ref C_PartsList)))
    (q1_PartsList : PySem.W.plainGet K C_PartsList Str.empty = true)
    (q2_PartsList : PySem.W.hasDictIn K C_PartsList = true)
    (q3_PartsList : PySem.W.plainOver K C_PartsList = true)
    (q4_PartsList : PySem.W.findIn K (.ref C_PartsList) "__setattr__" = some (some (.builtin "object.__setattr__")))
    (q5_PartsList : PySem.W.findIn K (.ref C_PartsList) "__class__" = some (some (.builtin "object.__class__")))
    (q6_PartsList : PySem.W.specialIn K (.builtin "object.__class__") "__get__" = some (some (.builtin "getset_descriptor.__get__")))
    (q7_PartsList : PySem.W.takesIn K (.builtin "object.__class__") = some true)
    (q8_PartsList : PySem.W.mroIn K C_PartsList (.type "object") = some true)
    (q9_PartsList : PySem.W.kitOne K (.ref C_PartsList) (.ref C_PartsList) = some true)
    (r1_PartsList : PySem.W.selfFirst K C_PartsList = true)
    (r2_PartsList : PySem.W.noSeq K C_PartsList = true)
    (r3_PartsList : PySem.W.findIn K (.ref C_PartsList) "__ne__" = some (some (.builtin "object.__ne__")))
    (t_PartsList_dict : PySem.W.kitOne K (.type "dict") (.ref C_PartsList) = some false)
    (n_PartsList_dict : PySem.W.notFirst K C_PartsList (.type "dict") = true)
    (t_PartsList_list : PySem.W.kitOne K (.type "list") (.ref C_PartsList) = some false)
    (n_PartsList_list : PySem.W.notFirst K C_PartsList (.type "list") = true)
    (t_PartsList_tuple : PySem.W.kitOne K (.type "tuple") (.ref C_PartsList) = some false)
    (n_PartsList_tuple : PySem.W.notFirst K C_PartsList (.type "tuple") = true)
    (t_PartsList_int : PySem.W.kitOne K (.type "int") (.ref C_PartsList) = some false)
    (n_PartsList_int : PySem.W.notFirst K C_PartsList (.type "int") = true)
    (t_PartsList_str : PySem.W.kitOne K (.type "str") (.ref C_PartsList) = some false)
    (n_PartsList_str : PySem.W.notFirst K C_PartsList (.type "str") = true)
    (t_PartsList_bool : PySem.W.kitOne K (.type "bool") (.ref C_PartsList) = some false)
    (n_PartsList_bool : PySem.W.notFirst K C_PartsList (.type "bool") = true)
    (t_PartsList_NoneType : PySem.W.kitOne K (.type "NoneType") (.ref C_PartsList) = some false)
    (n_PartsList_NoneType : PySem.W.notFirst K C_PartsList (.type "NoneType") = true)
    (y1_PartsList : PySem.W.makesIn K C_PartsList = true)
    (y2_PartsList : PySem.W.keepIn K (.ref C_PartsList) = true)
    (e_PartsList__places : PySem.W.findIn K (.ref C_PartsList) "_places" = some none)
    {f0 : Addr} {od0 an0 : Option Addr} {sl0 : Array (Option Value)} {oc0 kV0 dc0 pm0 cd0 ct0 : Value}
    (a0 : PySem.W.nsIn K mainGlobals "_law_pool" = some (some (.ref f0)))
    (l0 : K.lookup f0 = some ⟨oc0, od0, .func (PySem.W.fnOf "_law_pool" "_law_pool" (defArgs s__law_pool) (defBody s__law_pool) (defScope s__law_pool) .none kV0 dc0 pm0 an0 cd0 ct0), sl0⟩)
    (c0 : PySem.W.codeIn K cd0 "_law_pool" = true)
    (k0 : PySem.W.keepIn K (.ref f0) = true)
    {f1 : Addr} {od1 an1 : Option Addr} {sl1 : Array (Option Value)} {oc1 kV1 dc1 pm1 cd1 ct1 : Value}
    (a1 : PySem.W.nsIn K mainGlobals "_law_draw" = some (some (.ref f1)))
    (l1 : K.lookup f1 = some ⟨oc1, od1, .func (PySem.W.fnOf "_law_draw" "_law_draw" (defArgs s__law_draw) (defBody s__law_draw) (defScope s__law_draw) .none kV1 dc1 pm1 an1 cd1 ct1), sl1⟩)
    (c1 : PySem.W.codeIn K cd1 "_law_draw" = true)
    (k1 : PySem.W.keepIn K (.ref f1) = true)
    {f2 : Addr} {od2 an2 : Option Addr} {sl2 : Array (Option Value)} {oc2 kV2 dc2 pm2 cd2 ct2 : Value}
    (a2 : PySem.W.nsIn K mainGlobals "_law_pick" = some (some (.ref f2)))
    (l2 : K.lookup f2 = some ⟨oc2, od2, .func (PySem.W.fnOf "_law_pick" "_law_pick" (defArgs s__law_pick) (defBody s__law_pick) (defScope s__law_pick) .none kV2 dc2 pm2 an2 cd2 ct2), sl2⟩)
    (c2 : PySem.W.codeIn K cd2 "_law_pick" = true)
    (k2 : PySem.W.keepIn K (.ref f2) = true)
    {f3 : Addr} {od3 an3 : Option Addr} {sl3 : Array (Option Value)} {oc3 kV3 dc3 pm3 cd3 ct3 : Value}
    (a3 : PySem.W.nsIn K mainGlobals "is_word" = some (some (.ref f3)))
    (l3 : K.lookup f3 = some ⟨oc3, od3, .func (PySem.W.fnOf "is_word" "is_word" (defArgs s_is_word) (defBody s_is_word) (defScope s_is_word) .none kV3 dc3 pm3 an3 cd3 ct3), sl3⟩)
    (c3 : PySem.W.codeIn K cd3 "is_word" = true)
    (k3 : PySem.W.keepIn K (.ref f3) = true)
    {f4 : Addr} {od4 an4 : Option Addr} {sl4 : Array (Option Value)} {oc4 kV4 dc4 pm4 cd4 ct4 : Value}
    (a4 : PySem.W.findIn K (.ref C_Catalog) "__init__" = some (some (.ref f4)))
    (l4 : K.lookup f4 = some ⟨oc4, od4, .func (PySem.W.fnOf "__init__" "Catalog.__init__" (defArgs s_Catalog___init__) (defBody s_Catalog___init__) (defScope s_Catalog___init__) .none kV4 dc4 pm4 an4 cd4 ct4), sl4⟩)
    (c4 : PySem.W.codeIn K cd4 "Catalog.__init__" = true)
    (k4 : PySem.W.keepIn K (.ref f4) = true)
    (x4 : PySem.W.isFn K (.ref f4) = true)
    (w4 : PySem.W.fnIn K f4 = true)
    {f5 : Addr} {od5 an5 : Option Addr} {sl5 : Array (Option Value)} {oc5 kV5 dc5 pm5 cd5 ct5 : Value}
    (a5 : PySem.W.nsIn K mainGlobals "is_integer" = some (some (.ref f5)))
    (l5 : K.lookup f5 = some ⟨oc5, od5, .func (PySem.W.fnOf "is_integer" "is_integer" (defArgs s_is_integer) (defBody s_is_integer) (defScope s_is_integer) .none kV5 dc5 pm5 an5 cd5 ct5), sl5⟩)
    (c5 : PySem.W.codeIn K cd5 "is_integer" = true)
    (k5 : PySem.W.keepIn K (.ref f5) = true)
    {f6 : Addr} {od6 an6 : Option Addr} {sl6 : Array (Option Value)} {oc6 kV6 dc6 pm6 cd6 ct6 : Value}
    (a6 : PySem.W.nsIn K mainGlobals "is_place" = some (some (.ref f6)))
    (l6 : K.lookup f6 = some ⟨oc6, od6, .func (PySem.W.fnOf "is_place" "is_place" (defArgs s_is_place) (defBody s_is_place) (defScope s_is_place) .none kV6 dc6 pm6 an6 cd6 ct6), sl6⟩)
    (c6 : PySem.W.codeIn K cd6 "is_place" = true)
    (k6 : PySem.W.keepIn K (.ref f6) = true)
    {f7 : Addr} {od7 an7 : Option Addr} {sl7 : Array (Option Value)} {oc7 kV7 dc7 pm7 cd7 ct7 : Value}
    (a7 : PySem.W.nsIn K mainGlobals "check_places" = some (some (.ref f7)))
    (l7 : K.lookup f7 = some ⟨oc7, od7, .func (PySem.W.fnOf "check_places" "check_places" (defArgs s_check_places) (defBody s_check_places) (defScope s_check_places) .none kV7 dc7 pm7 an7 cd7 ct7), sl7⟩)
    (c7 : PySem.W.codeIn K cd7 "check_places" = true)
    (k7 : PySem.W.keepIn K (.ref f7) = true)
    {f8 : Addr} {od8 an8 : Option Addr} {sl8 : Array (Option Value)} {oc8 kV8 dc8 pm8 cd8 ct8 : Value}
    (a8 : PySem.W.findIn K (.ref C_PartsList) "__init__" = some (some (.ref f8)))
    (l8 : K.lookup f8 = some ⟨oc8, od8, .func (PySem.W.fnOf "__init__" "PartsList.__init__" (defArgs s_PartsList___init__) (defBody s_PartsList___init__) (defScope s_PartsList___init__) .none kV8 dc8 pm8 an8 cd8 ct8), sl8⟩)
    (c8 : PySem.W.codeIn K cd8 "PartsList.__init__" = true)
    (k8 : PySem.W.keepIn K (.ref f8) = true)
    (x8 : PySem.W.isFn K (.ref f8) = true)
    (w8 : PySem.W.fnIn K f8 = true)
    {f9 : Addr} {od9 an9 : Option Addr} {sl9 : Array (Option Value)} {oc9 kV9 dc9 pm9 cd9 ct9 : Value}
    (a9 : PySem.W.findIn K (.ref C_Catalog) "__contains__" = some (some (.ref f9)))
    (l9 : K.lookup f9 = some ⟨oc9, od9, .func (PySem.W.fnOf "__contains__" "Catalog.__contains__" (defArgs s_Catalog___contains__) (defBody s_Catalog___contains__) (defScope s_Catalog___contains__) .none kV9 dc9 pm9 an9 cd9 ct9), sl9⟩)
    (c9 : PySem.W.codeIn K cd9 "Catalog.__contains__" = true)
    (k9 : PySem.W.keepIn K (.ref f9) = true)
    (x9 : PySem.W.isFn K (.ref f9) = true)
    (w9 : PySem.W.fnIn K f9 = true)
    {f10 : Addr} {od10 an10 : Option Addr} {sl10 : Array (Option Value)} {oc10 kV10 dc10 pm10 cd10 ct10 : Value}
    (a10 : PySem.W.findIn K (.ref C_Catalog) "__len__" = some (some (.ref f10)))
    (l10 : K.lookup f10 = some ⟨oc10, od10, .func (PySem.W.fnOf "__len__" "Catalog.__len__" (defArgs s_Catalog___len__) (defBody s_Catalog___len__) (defScope s_Catalog___len__) .none kV10 dc10 pm10 an10 cd10 ct10), sl10⟩)
    (c10 : PySem.W.codeIn K cd10 "Catalog.__len__" = true)
    (k10 : PySem.W.keepIn K (.ref f10) = true)
    (x10 : PySem.W.isFn K (.ref f10) = true)
    (w10 : PySem.W.fnIn K f10 = true)
    {f11 : Addr} {od11 an11 : Option Addr} {sl11 : Array (Option Value)} {oc11 kV11 dc11 pm11 cd11 ct11 : Value}
    (a11 : PySem.W.findIn K (.ref C_Catalog) "words" = some (some (.ref f11)))
    (l11 : K.lookup f11 = some ⟨oc11, od11, .func (PySem.W.fnOf "words" "Catalog.words" (defArgs s_Catalog_words) (defBody s_Catalog_words) (defScope s_Catalog_words) .none kV11 dc11 pm11 an11 cd11 ct11), sl11⟩)
    (c11 : PySem.W.codeIn K cd11 "Catalog.words" = true)
    (k11 : PySem.W.keepIn K (.ref f11) = true)
    (x11 : PySem.W.isFn K (.ref f11) = true)
    (w11 : PySem.W.fnIn K f11 = true)
    {f12 : Addr} {od12 an12 : Option Addr} {sl12 : Array (Option Value)} {oc12 kV12 dc12 pm12 cd12 ct12 : Value}
    (a12 : PySem.W.findIn K (.ref C_PartsList) "places" = some (some (.ref f12)))
    (l12 : K.lookup f12 = some ⟨oc12, od12, .func (PySem.W.fnOf "places" "PartsList.places" (defArgs s_PartsList_places) (defBody s_PartsList_places) (defScope s_PartsList_places) .none kV12 dc12 pm12 an12 cd12 ct12), sl12⟩)
    (c12 : PySem.W.codeIn K cd12 "PartsList.places" = true)
    (k12 : PySem.W.keepIn K (.ref f12) = true)
    (x12 : PySem.W.isFn K (.ref f12) = true)
    (w12 : PySem.W.fnIn K f12 = true)
    {f13 : Addr} {od13 an13 : Option Addr} {sl13 : Array (Option Value)} {oc13 kV13 dc13 pm13 cd13 ct13 : Value}
    (a13 : PySem.W.nsIn K mainGlobals "count_places" = some (some (.ref f13)))
    (l13 : K.lookup f13 = some ⟨oc13, od13, .func (PySem.W.fnOf "count_places" "count_places" (defArgs s_count_places) (defBody s_count_places) (defScope s_count_places) .none kV13 dc13 pm13 an13 cd13 ct13), sl13⟩)
    (c13 : PySem.W.codeIn K cd13 "count_places" = true)
    (k13 : PySem.W.keepIn K (.ref f13) = true)
    {f14 : Addr} {od14 an14 : Option Addr} {sl14 : Array (Option Value)} {oc14 kV14 dc14 pm14 cd14 ct14 : Value}
    (a14 : PySem.W.nsIn K mainGlobals "times_share" = some (some (.ref f14)))
    (l14 : K.lookup f14 = some ⟨oc14, od14, .func (PySem.W.fnOf "times_share" "times_share" (defArgs s_times_share) (defBody s_times_share) (defScope s_times_share) .none kV14 dc14 pm14 an14 cd14 ct14), sl14⟩)
    (c14 : PySem.W.codeIn K cd14 "times_share" = true)
    (k14 : PySem.W.keepIn K (.ref f14) = true)
    {f15 : Addr} {od15 an15 : Option Addr} {sl15 : Array (Option Value)} {oc15 kV15 dc15 pm15 cd15 ct15 : Value}
    (a15 : PySem.W.nsIn K mainGlobals "put_in" = some (some (.ref f15)))
    (l15 : K.lookup f15 = some ⟨oc15, od15, .func (PySem.W.fnOf "put_in" "put_in" (defArgs s_put_in) (defBody s_put_in) (defScope s_put_in) .none kV15 dc15 pm15 an15 cd15 ct15), sl15⟩)
    (c15 : PySem.W.codeIn K cd15 "put_in" = true)
    (k15 : PySem.W.keepIn K (.ref f15) = true)
    {f16 : Addr} {od16 an16 : Option Addr} {sl16 : Array (Option Value)} {oc16 kV16 dc16 pm16 cd16 ct16 : Value}
    (a16 : PySem.W.findIn K (.ref C_Catalog) "opened" = some (some (.ref f16)))
    (l16 : K.lookup f16 = some ⟨oc16, od16, .func (PySem.W.fnOf "opened" "Catalog.opened" (defArgs s_Catalog_opened) (defBody s_Catalog_opened) (defScope s_Catalog_opened) .none kV16 dc16 pm16 an16 cd16 ct16), sl16⟩)
    (c16 : PySem.W.codeIn K cd16 "Catalog.opened" = true)
    (k16 : PySem.W.keepIn K (.ref f16) = true)
    (x16 : PySem.W.isFn K (.ref f16) = true)
    (w16 : PySem.W.fnIn K f16 = true)
    {f17 : Addr} {od17 an17 : Option Addr} {sl17 : Array (Option Value)} {oc17 kV17 dc17 pm17 cd17 ct17 : Value}
    (a17 : PySem.W.nsIn K mainGlobals "_law_told" = some (some (.ref f17)))
    (l17 : K.lookup f17 = some ⟨oc17, od17, .func (PySem.W.fnOf "_law_told" "_law_told" (defArgs s__law_told) (defBody s__law_told) (defScope s__law_told) .none kV17 dc17 pm17 an17 cd17 ct17), sl17⟩)
    (c17 : PySem.W.codeIn K cd17 "_law_told" = true)
    (k17 : PySem.W.keepIn K (.ref f17) = true)
    {f18 : Addr} {od18 an18 : Option Addr} {sl18 : Array (Option Value)} {oc18 kV18 dc18 pm18 cd18 ct18 : Value}
    (a18 : PySem.W.nsIn K mainGlobals "_law_opened" = some (some (.ref f18)))
    (l18 : K.lookup f18 = some ⟨oc18, od18, .func (PySem.W.fnOf "_law_opened" "_law_opened" (defArgs s__law_opened) (defBody s__law_opened) (defScope s__law_opened) .none kV18 dc18 pm18 an18 cd18 ct18), sl18⟩)
    (c18 : PySem.W.codeIn K cd18 "_law_opened" = true)
    (k18 : PySem.W.keepIn K (.ref f18) = true)
    {f19 : Addr} {od19 an19 : Option Addr} {sl19 : Array (Option Value)} {oc19 kV19 dc19 pm19 cd19 ct19 : Value}
    (a19 : PySem.W.findIn K (.ref C_Catalog) "__getitem__" = some (some (.ref f19)))
    (l19 : K.lookup f19 = some ⟨oc19, od19, .func (PySem.W.fnOf "__getitem__" "Catalog.__getitem__" (defArgs s_Catalog___getitem__) (defBody s_Catalog___getitem__) (defScope s_Catalog___getitem__) .none kV19 dc19 pm19 an19 cd19 ct19), sl19⟩)
    (c19 : PySem.W.codeIn K cd19 "Catalog.__getitem__" = true)
    (k19 : PySem.W.keepIn K (.ref f19) = true)
    (x19 : PySem.W.isFn K (.ref f19) = true)
    (w19 : PySem.W.fnIn K f19 = true)
    {f20 : Addr} {od20 an20 : Option Addr} {sl20 : Array (Option Value)} {oc20 kV20 dc20 pm20 cd20 ct20 : Value}
    (a20 : PySem.W.findIn K (.ref C_PartsList) "__eq__" = some (some (.ref f20)))
    (l20 : K.lookup f20 = some ⟨oc20, od20, .func (PySem.W.fnOf "__eq__" "PartsList.__eq__" (defArgs s_PartsList___eq__) (defBody s_PartsList___eq__) (defScope s_PartsList___eq__) .none kV20 dc20 pm20 an20 cd20 ct20), sl20⟩)
    (c20 : PySem.W.codeIn K cd20 "PartsList.__eq__" = true)
    (k20 : PySem.W.keepIn K (.ref f20) = true)
    (x20 : PySem.W.isFn K (.ref f20) = true)
    (w20 : PySem.W.fnIn K f20 = true)
    {f21 : Addr} {od21 an21 : Option Addr} {sl21 : Array (Option Value)} {oc21 kV21 dc21 pm21 cd21 ct21 : Value}
    (a21 : PySem.W.nsIn K mainGlobals "law" = some (some (.ref f21)))
    (l21 : K.lookup f21 = some ⟨oc21, od21, .func (PySem.W.fnOf "law" "law" (defArgs s_law) (defBody s_law) (defScope s_law) .none kV21 dc21 pm21 an21 cd21 ct21), sl21⟩)
    (c21 : PySem.W.codeIn K cd21 "law" = true)
    (k21 : PySem.W.keepIn K (.ref f21) = true)
    (z_len : PySem.W.nsIn K mainGlobals "len" = some none)
    (z_sum : PySem.W.nsIn K mainGlobals "sum" = some none)
    (z_abs : PySem.W.nsIn K mainGlobals "abs" = some none)
    (z_int : PySem.W.nsIn K mainGlobals "int" = some none)
    (z_isinstance : PySem.W.nsIn K mainGlobals "isinstance" = some none)
    (z_str : PySem.W.nsIn K mainGlobals "str" = some none)
    (z_all : PySem.W.nsIn K mainGlobals "all" = some none)
    (z_dict : PySem.W.nsIn K mainGlobals "dict" = some none)
    (z_bool : PySem.W.nsIn K mainGlobals "bool" = some none)
    (z_tuple : PySem.W.nsIn K mainGlobals "tuple" = some none)
    (z_list : PySem.W.nsIn K mainGlobals "list" = some none)
    (z_set : PySem.W.nsIn K mainGlobals "set" = some none)
    (z_enumerate : PySem.W.nsIn K mainGlobals "enumerate" = some none)
    (z_sorted : PySem.W.nsIn K mainGlobals "sorted" = some none)
    (z_zip : PySem.W.nsIn K mainGlobals "zip" = some none)
    (z_range : PySem.W.nsIn K mainGlobals "range" = some none)
    (z_max : PySem.W.nsIn K mainGlobals "max" = some none)
    (z_min : PySem.W.nsIn K mainGlobals "min" = some none)
    {t_LONGEST_WORD : Tok}
    (c_LONGEST_WORD : PySem.W.nsIn K mainGlobals "LONGEST_WORD" = some (some (.int 8 t_LONGEST_WORD)))
    {t_LETTERS : Tok}
    (c_LETTERS : PySem.W.nsIn K mainGlobals "LETTERS" = some (some (.str "abcdefghijklmnopqrstuvwxyz" t_LETTERS)))
    {t_MOST_LISTS : Tok}
    (c_MOST_LISTS : PySem.W.nsIn K mainGlobals "MOST_LISTS" = some (some (.int 40 t_MOST_LISTS)))
    {t_MOST_UNITS : Tok}
    (c_MOST_UNITS : PySem.W.nsIn K mainGlobals "MOST_UNITS" = some (some (.int 999 t_MOST_UNITS)))
    {t_MOST_PLACES : Tok}
    (c_MOST_PLACES : PySem.W.nsIn K mainGlobals "MOST_PLACES" = some (some (.int 12 t_MOST_PLACES)))
    {C_TooMany fE_TooMany : Addr} {oE_TooMany aE_TooMany : Option Addr} {slE_TooMany : Array (Option Value)} {ocE_TooMany kVE_TooMany dcE_TooMany pmE_TooMany cdE_TooMany ctE_TooMany : Value}
    (eg_TooMany : PySem.W.nsIn K mainGlobals "TooMany" = some (some (.ref C_TooMany)))
    {nmE_TooMany qE_TooMany : Str} {NE_TooMany : Addr} {bsE_TooMany bmE_TooMany suE_TooMany : List Value} {snE_TooMany : List Str} {abE_TooMany : Bool} {coE_TooMany : Option Bool} {ddE_TooMany : Option Addr} {k0E_TooMany k1E_TooMany k2E_TooMany k3E_TooMany k5E_TooMany : Option Value}
    (eo_TooMany : K.lookup C_TooMany = some (excClassObj nmE_TooMany qE_TooMany C_TooMany NE_TooMany bsE_TooMany bmE_TooMany true snE_TooMany suE_TooMany abE_TooMany coE_TooMany ddE_TooMany k0E_TooMany k1E_TooMany k2E_TooMany k3E_TooMany k5E_TooMany "OverflowError.__new__"))
    (ev_TooMany : PySem.W.excTail [.type "OverflowError", .type "ArithmeticError", .type "Exception", .type "BaseException", .type "object"] bmE_TooMany = true)
    (es_TooMany : PySem.W.findIn K (.ref C_TooMany) "__setattr__" = some (some (.builtin "object.__setattr__")))
    (eb_TooMany : PySem.W.subIn K (.ref C_TooMany) (.type "BaseException") = some true)
    (et_TooMany : PySem.W.typeIn K (.ref C_TooMany) = some (.type "type"))
    (ek_TooMany : PySem.W.keepIn K (.ref C_TooMany) = true)
    (en_TooMany : PySem.W.findIn K (.ref C_TooMany) "limit" = some none)
    (ei_TooMany : PySem.W.findIn K (.ref C_TooMany) "__init__" = some (some (.ref fE_TooMany)))
    (ef_TooMany : PySem.W.typeIn K (.ref fE_TooMany) = some (.type "function"))
    (el_TooMany : K.lookup fE_TooMany = some ⟨ocE_TooMany, oE_TooMany, .func (PySem.W.fnOf "__init__" "TooMany.__init__" (defArgs s_TooMany___init__) (defBody s_TooMany___init__) (defScope s_TooMany___init__) .none kVE_TooMany dcE_TooMany pmE_TooMany aE_TooMany cdE_TooMany ctE_TooMany), slE_TooMany⟩)
    (ec_TooMany : PySem.W.codeIn K cdE_TooMany "TooMany.__init__" = true)
    (ee_TooMany : PySem.W.keepIn K (.ref fE_TooMany) = true)
    (h1_TooMany : PySem.W.findIn K (.ref C_TooMany) "__getattribute__" = some (some (.builtin "BaseException.__getattribute__")))
    (h2_TooMany : PySem.W.findIn K (.ref C_TooMany) "__getattr__" = some none)
    (h3_TooMany : PySem.W.hasDictIn K C_TooMany = true)
    (h4_TooMany : PySem.W.findIn K (.ref C_TooMany) "__class__" = some (some (.builtin "object.__class__")))
    (h5_TooMany : PySem.W.specialIn K (.builtin "object.__class__") "__get__" = some (some (.builtin "getset_descriptor.__get__")))
    (h6_TooMany : PySem.W.takesIn K (.builtin "object.__class__") = some true)
    (h7_TooMany : PySem.W.mroIn K C_TooMany (.type "object") = some true)
    {C_BadPlace fE_BadPlace : Addr} {oE_BadPlace aE_BadPlace : Option Addr} {slE_BadPlace : Array (Option Value)} {ocE_BadPlace kVE_BadPlace dcE_BadPlace pmE_BadPlace cdE_BadPlace ctE_BadPlace : Value}
    (eg_BadPlace : PySem.W.nsIn K mainGlobals "BadPlace" = some (some (.ref C_BadPlace)))
    {nmE_BadPlace qE_BadPlace : Str} {NE_BadPlace : Addr} {bsE_BadPlace bmE_BadPlace suE_BadPlace : List Value} {snE_BadPlace : List Str} {abE_BadPlace : Bool} {coE_BadPlace : Option Bool} {ddE_BadPlace : Option Addr} {k0E_BadPlace k1E_BadPlace k2E_BadPlace k3E_BadPlace k5E_BadPlace : Option Value}
    (eo_BadPlace : K.lookup C_BadPlace = some (excClassObj nmE_BadPlace qE_BadPlace C_BadPlace NE_BadPlace bsE_BadPlace bmE_BadPlace true snE_BadPlace suE_BadPlace abE_BadPlace coE_BadPlace ddE_BadPlace k0E_BadPlace k1E_BadPlace k2E_BadPlace k3E_BadPlace k5E_BadPlace "ValueError.__new__"))
    (ev_BadPlace : PySem.W.excTail [.type "ValueError", .type "Exception", .type "BaseException", .type "object"] bmE_BadPlace = true)
    (es_BadPlace : PySem.W.findIn K (.ref C_BadPlace) "__setattr__" = some (some (.builtin "object.__setattr__")))
    (eb_BadPlace : PySem.W.subIn K (.ref C_BadPlace) (.type "BaseException") = some true)
    (et_BadPlace : PySem.W.typeIn K (.ref C_BadPlace) = some (.type "type"))
    (ek_BadPlace : PySem.W.keepIn K (.ref C_BadPlace) = true)
    (en_BadPlace : PySem.W.findIn K (.ref C_BadPlace) "index" = some none)
    (ei_BadPlace : PySem.W.findIn K (.ref C_BadPlace) "__init__" = some (some (.ref fE_BadPlace)))
    (ef_BadPlace : PySem.W.typeIn K (.ref fE_BadPlace) = some (.type "function"))
    (el_BadPlace : K.lookup fE_BadPlace = some ⟨ocE_BadPlace, oE_BadPlace, .func (PySem.W.fnOf "__init__" "BadPlace.__init__" (defArgs s_BadPlace___init__) (defBody s_BadPlace___init__) (defScope s_BadPlace___init__) .none kVE_BadPlace dcE_BadPlace pmE_BadPlace aE_BadPlace cdE_BadPlace ctE_BadPlace), slE_BadPlace⟩)
    (ec_BadPlace : PySem.W.codeIn K cdE_BadPlace "BadPlace.__init__" = true)
    (ee_BadPlace : PySem.W.keepIn K (.ref fE_BadPlace) = true)
    (h1_BadPlace : PySem.W.findIn K (.ref C_BadPlace) "__getattribute__" = some (some (.builtin "BaseException.__getattribute__")))
    (h2_BadPlace : PySem.W.findIn K (.ref C_BadPlace) "__getattr__" = some none)
    (h3_BadPlace : PySem.W.hasDictIn K C_BadPlace = true)
    (h4_BadPlace : PySem.W.findIn K (.ref C_BadPlace) "__class__" = some (some (.builtin "object.__class__")))
    (h5_BadPlace : PySem.W.specialIn K (.builtin "object.__class__") "__get__" = some (some (.builtin "getset_descriptor.__get__")))
    (h6_BadPlace : PySem.W.takesIn K (.builtin "object.__class__") = some true)
    (h7_BadPlace : PySem.W.mroIn K C_BadPlace (.type "object") = some true)
    (xs_BadPlace_BadPlace : PySem.W.subIn K (.ref C_BadPlace) (.ref C_BadPlace) = some true)
    (xs_TooMany_BadPlace : PySem.W.subIn K (.ref C_TooMany) (.ref C_BadPlace) = some false)
    (xs_TooMany_TooMany : PySem.W.subIn K (.ref C_TooMany) (.ref C_TooMany) = some true)
    (xs_BadPlace_TooMany : PySem.W.subIn K (.ref C_BadPlace) (.ref C_TooMany) = some false)
    : ∃ fd : FuncData, (∀ (s : Shared) (v : Value), BindsTo s fd ⟨[v], []⟩ [("_law_script", v)]) ∧ ∀ base : Heap, K.In base → base.Ns mainGlobals mg → FnOk l.prog w K mg base CX0 16 fa fd ["_law_script"] (spLaw K) := by
  have e := hfa.symm.trans (PySem.W.mg_of X G a21)
  cases e
  have m_Catalog : Cls K C_Catalog := ⟨q1_Catalog, q2_Catalog, q3_Catalog, q4_Catalog⟩
  have t_Catalog : ∀ n ∈ allTys, PySem.W.kitOne K (.type n) (.ref C_Catalog) = some false := fun n hn => by
    simp only [List.mem_cons, List.not_mem_nil, or_false] at hn
    rcases hn with rfl | rfl | rfl | rfl | rfl | rfl | rfl
    · exact t_Catalog_dict
    · exact t_Catalog_list
    · exact t_Catalog_tuple
    · exact t_Catalog_int
    · exact t_Catalog_str
    · exact t_Catalog_bool
    · exact t_Catalog_NoneType
  have n_Catalog : ∀ n ∈ allTys, PySem.W.notFirst K C_Catalog (.type n) = true := fun n hn => by
    simp only [List.mem_cons, List.not_mem_nil, or_false] at hn
    rcases hn with rfl | rfl | rfl | rfl | rfl | rfl | rfl
    · exact n_Catalog_dict
    · exact n_Catalog_list
    · exact n_Catalog_tuple
    · exact n_Catalog_int
    · exact n_Catalog_str
    · exact n_Catalog_bool
    · exact n_Catalog_NoneType
  have k_Catalog : ClsK K mg "Catalog" C_Catalog := ⟨m_Catalog, ⟨m_Catalog, q5_Catalog, q6_Catalog, q7_Catalog, q8_Catalog⟩, PySem.W.mg_of X G g_Catalog, q9_Catalog, r1_Catalog, r2_Catalog, r3_Catalog, q8_Catalog, t_Catalog, n_Catalog⟩
  have m_PartsList : Cls K C_PartsList := ⟨q1_PartsList, q2_PartsList, q3_PartsList, q4_PartsList⟩
  have t_PartsList : ∀ n ∈ allTys, PySem.W.kitOne K (.type n) (.ref C_PartsList) = some false := fun n hn => by
    simp only [List.mem_cons, List.not_mem_nil, or_false] at hn
    rcases hn with rfl | rfl | rfl | rfl | rfl | rfl | rfl
    · exact t_PartsList_dict
    · exact t_PartsList_list
    · exact t_PartsList_tuple
    · exact t_PartsList_int
    · exact t_PartsList_str
    · exact t_PartsList_bool
    · exact t_PartsList_NoneType
  have n_PartsList : ∀ n ∈ allTys, PySem.W.notFirst K C_PartsList (.type n) = true := fun n hn => by
    simp only [List.mem_cons, List.not_mem_nil, or_false] at hn
    rcases hn with rfl | rfl | rfl | rfl | rfl | rfl | rfl
    · exact n_PartsList_dict
    · exact n_PartsList_list
    · exact n_PartsList_tuple
    · exact n_PartsList_int
    · exact n_PartsList_str
    · exact n_PartsList_bool
    · exact n_PartsList_NoneType
  have k_PartsList : ClsK K mg "PartsList" C_PartsList := ⟨m_PartsList, ⟨m_PartsList, q5_PartsList, q6_PartsList, q7_PartsList, q8_PartsList⟩, PySem.W.mg_of X G g_PartsList, q9_PartsList, r1_PartsList, r2_PartsList, r3_PartsList, q8_PartsList, t_PartsList, n_PartsList⟩
  have F0 := fun_mk (st := s__law_pool) l0 c0 k0
  have b0 := F0.binds (ps := ["_law_script", "_law_k"]) fun _ _ _ _ _ _ us hl => match us, hl with | [_, _], _ => rfl
  have F1 := fun_mk (st := s__law_draw) l1 c1 k1
  have b1 := F1.binds (ps := ["_law_pool_here", "_law_many"]) fun _ _ _ _ _ _ us hl => match us, hl with | [_, _], _ => rfl
  have F2 := fun_mk (st := s__law_pick) l2 c2 k2
  have b2 := F2.binds (ps := ["_law_pool_here", "_law_row"]) fun _ _ _ _ _ _ us hl => match us, hl with | [_, _], _ => rfl
  have F3 := fun_mk (st := s_is_word) l3 c3 k3
  have b3 := F3.binds (ps := ["value"]) fun _ _ _ _ _ _ us hl => match us, hl with | [_], _ => rfl
  have F4 := fun_mk (st := s_Catalog___init__) l4 c4 k4
  have y4 : L2.Mk K C_Catalog f4 := ⟨y1_Catalog, a4, x4, y2_Catalog⟩
  have b4_0 := F4.binds (ps := ["self", "lists"]) fun _ _ _ _ _ _ us hl => match us, hl with | [_, _], _ => rfl
  have F5 := fun_mk (st := s_is_integer) l5 c5 k5
  have b5 := F5.binds (ps := ["value", "lowest", "highest"]) fun _ _ _ _ _ _ us hl => match us, hl with | [_, _, _], _ => rfl
  have F6 := fun_mk (st := s_is_place) l6 c6 k6
  have b6 := F6.binds (ps := ["value"]) fun _ _ _ _ _ _ us hl => match us, hl with | [_], _ => rfl
  have F7 := fun_mk (st := s_check_places) l7 c7 k7
  have b7 := F7.binds (ps := ["places"]) fun _ _ _ _ _ _ us hl => match us, hl with | [_], _ => rfl
  have F8 := fun_mk (st := s_PartsList___init__) l8 c8 k8
  have y8 : L2.Mk K C_PartsList f8 := ⟨y1_PartsList, a8, x8, y2_PartsList⟩
  have b8_0 := F8.binds (ps := ["self", "places"]) fun _ _ _ _ _ _ us hl => match us, hl with | [_, _], _ => rfl
  have F9 := fun_mk (st := s_Catalog___contains__) l9 c9 k9
  have o9 : Own K C_Catalog "__contains__" f9 := ⟨a9, x9, w9, k9⟩
  have b9 := F9.binds (ps := ["self", "x"]) fun _ _ _ _ _ _ us hl => match us, hl with | [_, _], _ => rfl
  have F10 := fun_mk (st := s_Catalog___len__) l10 c10 k10
  have o10 : Own K C_Catalog "__len__" f10 := ⟨a10, x10, w10, k10⟩
  have b10 := F10.binds (ps := ["self"]) fun _ _ _ _ _ _ us hl => match us, hl with | [_], _ => rfl
  have F11 := fun_mk (st := s_Catalog_words) l11 c11 k11
  have o11 : Own K C_Catalog "words" f11 := ⟨a11, x11, w11, k11⟩
  have b11 := F11.binds (ps := ["self"]) fun _ _ _ _ _ _ us hl => match us, hl with | [_], _ => rfl
  have F12 := fun_mk (st := s_PartsList_places) l12 c12 k12
  have o12 : Own K C_PartsList "places" f12 := ⟨a12, x12, w12, k12⟩
  have b12 := F12.binds (ps := ["self"]) fun _ _ _ _ _ _ us hl => match us, hl with | [_], _ => rfl
  have F13 := fun_mk (st := s_count_places) l13 c13 k13
  have b13 := F13.binds (ps := ["lists", "word", "within", "counts"]) fun _ _ _ _ _ _ us hl => match us, hl with | [_, _, _, _], _ => rfl
  have F14 := fun_mk (st := s_times_share) l14 c14 k14
  have b14 := F14.binds (ps := ["share", "number"]) fun _ _ _ _ _ _ us hl => match us, hl with | [_, _], _ => rfl
  have F15 := fun_mk (st := s_put_in) l15 c15 k15
  have b15 := F15.binds (ps := ["lists", "word", "times"]) fun _ _ _ _ _ _ us hl => match us, hl with | [_, _, _], _ => rfl
  have F16 := fun_mk (st := s_Catalog_opened) l16 c16 k16
  have o16 : Own K C_Catalog "opened" f16 := ⟨a16, x16, w16, k16⟩
  have b16 := F16.binds (ps := ["self", "word"]) fun _ _ _ _ _ _ us hl => match us, hl with | [_, _], _ => rfl
  have F17 := fun_mk (st := s__law_told) l17 c17 k17
  have b17 := F17.binds (ps := ["_law_catalog", "_law_word"]) fun _ _ _ _ _ _ us hl => match us, hl with | [_, _], _ => rfl
  have F18 := fun_mk (st := s__law_opened) l18 c18 k18
  have b18 := F18.binds (ps := ["_law_lists", "_law_word", "_law_number"]) fun _ _ _ _ _ _ us hl => match us, hl with | [_, _, _], _ => rfl
  have F19 := fun_mk (st := s_Catalog___getitem__) l19 c19 k19
  have o19 : Own K C_Catalog "__getitem__" f19 := ⟨a19, x19, w19, k19⟩
  have b19 := F19.binds (ps := ["self", "at"]) fun _ _ _ _ _ _ us hl => match us, hl with | [_, _], _ => rfl
  have F20 := fun_mk (st := s_PartsList___eq__) l20 c20 k20
  have o20 : Own K C_PartsList "__eq__" f20 := ⟨a20, x20, w20, k20⟩
  have b20 := F20.binds (ps := ["self", "other"]) fun _ _ _ _ _ _ us hl => match us, hl with | [_, _], _ => rfl
  have F21 := fun_mk (st := s_law) l21 c21 k21
  have FE_TooMany := fun_mk (st := s_TooMany___init__) el_TooMany ec_TooMany ee_TooMany
  have bE_TooMany := FE_TooMany.binds (ps := ["self", "limit"]) fun _ _ _ _ _ _ us hl => match us, hl with | [_, _], _ => rfl
  have hx_TooMany : HxC K mg C_TooMany "TooMany" "limit" := hx_mk (PySem.W.mg_of X G eg_TooMany) h1_TooMany h2_TooMany eb_TooMany h3_TooMany h4_TooMany h5_TooMany h6_TooMany h7_TooMany en_TooMany
  have FE_BadPlace := fun_mk (st := s_BadPlace___init__) el_BadPlace ec_BadPlace ee_BadPlace
  have bE_BadPlace := FE_BadPlace.binds (ps := ["self", "index"]) fun _ _ _ _ _ _ us hl => match us, hl with | [_, _], _ => rfl
  have hx_BadPlace : HxC K mg C_BadPlace "BadPlace" "index" := hx_mk (PySem.W.mg_of X G eg_BadPlace) h1_BadPlace h2_BadPlace eb_BadPlace h3_BadPlace h4_BadPlace h5_BadPlace h6_BadPlace h7_BadPlace en_BadPlace
  have xm_BadPlace_BadPlace : PySem.W.exmOne K (.ref C_BadPlace) (.ref C_BadPlace) = some true := PySem.W.exm_ref eb_BadPlace h3_BadPlace et_BadPlace xs_BadPlace_BadPlace
  have xm_TooMany_BadPlace : PySem.W.exmOne K (.ref C_TooMany) (.ref C_BadPlace) = some false := PySem.W.exm_ref eb_BadPlace h3_BadPlace et_BadPlace xs_TooMany_BadPlace
  have xm_TooMany_TooMany : PySem.W.exmOne K (.ref C_TooMany) (.ref C_TooMany) = some true := PySem.W.exm_ref eb_TooMany h3_TooMany et_TooMany xs_TooMany_TooMany
  have xm_BadPlace_TooMany : PySem.W.exmOne K (.ref C_BadPlace) (.ref C_TooMany) = some false := PySem.W.exm_ref eb_TooMany h3_TooMany et_TooMany xs_BadPlace_TooMany
  refine ⟨PySem.W.fnOf "law" "law" (defArgs s_law) (defBody s_law) (defScope s_law) .none kV21 dc21 pm21 an21 cd21 ct21, fun s v => .of_eq rfl, fun base _ _ => ?_⟩
  have er_TooMany : ErrK l.prog w K mg base C_TooMany "TooMany" := err_mk (oexG_of famI_O eo_TooMany ev_TooMany es_TooMany eb_TooMany et_TooMany ek_TooMany) (PySem.W.mg_of X G eg_TooMany) (by decide +kernel) en_TooMany ei_TooMany ef_TooMany FE_TooMany bE_TooMany sc_TooMany___init__ rfl (by decide) (by decide) (by decide) (by first | exact Or.inl rfl | exact Or.inr (Or.inl rfl) | exact Or.inr (Or.inr rfl)) (by first | exact Or.inl rfl | exact Or.inr (Or.inl rfl) | exact Or.inr (Or.inr rfl))
  have er_BadPlace : ErrK l.prog w K mg base C_BadPlace "BadPlace" := err_mk (oexG_of famI_V eo_BadPlace ev_BadPlace es_BadPlace eb_BadPlace et_BadPlace ek_BadPlace) (PySem.W.mg_of X G eg_BadPlace) (by decide +kernel) en_BadPlace ei_BadPlace ef_BadPlace FE_BadPlace bE_BadPlace sc_BadPlace___init__ rfl (by decide) (by decide) (by decide) (by first | exact Or.inl rfl | exact Or.inr (Or.inl rfl) | exact Or.inr (Or.inr rfl)) (by first | exact Or.inl rfl | exact Or.inr (Or.inl rfl) | exact Or.inr (Or.inr rfl))
  have O0 := ok__law_pool (P := l.prog) (w := w) (mg := mg) (base := base) (cm := ⟨fun n => (([("Catalog", C_Catalog), ("PartsList", C_PartsList), ("TooMany", C_TooMany), ("BadPlace", C_BadPlace)] : List (Str × Addr)).lookup n).getD 0, l.prog, w⟩) F0 (PySem.W.mg_none_of X G z_len) (PySem.W.mg_none_of X G z_sum) (PySem.W.mg_none_of X G z_abs) (PySem.W.mg_none_of X G z_int)
  have O1 := ok__law_draw (P := l.prog) (w := w) (mg := mg) (base := base) (cm := ⟨fun n => (([("Catalog", C_Catalog), ("PartsList", C_PartsList), ("TooMany", C_TooMany), ("BadPlace", C_BadPlace)] : List (Str × Addr)).lookup n).getD 0, l.prog, w⟩) F1 (PySem.W.mg_none_of X G z_int)
  have O2 := ok__law_pick (P := l.prog) (w := w) (mg := mg) (base := base) (cm := ⟨fun n => (([("Catalog", C_Catalog), ("PartsList", C_PartsList), ("TooMany", C_TooMany), ("BadPlace", C_BadPlace)] : List (Str × Addr)).lookup n).getD 0, l.prog, w⟩) F2 (PySem.W.mg_none_of X G z_len) O1 (PySem.W.mg_of X G a1) k1 b1
  have O3 := ok_is_word (P := l.prog) (w := w) (mg := mg) (base := base) (cm := ⟨fun n => (([("Catalog", C_Catalog), ("PartsList", C_PartsList), ("TooMany", C_TooMany), ("BadPlace", C_BadPlace)] : List (Str × Addr)).lookup n).getD 0, l.prog, w⟩) F3 (PySem.W.mg_none_of X G z_len) (PySem.W.mg_none_of X G z_isinstance) (PySem.W.mg_none_of X G z_str) (PySem.W.mg_none_of X G z_all) (PySem.W.mg_of X G c_LONGEST_WORD) (PySem.W.mg_of X G c_LETTERS)
  have O4 := ok_Catalog___init__ (P := l.prog) (w := w) (mg := mg) (base := base) (cm := ⟨fun n => (([("Catalog", C_Catalog), ("PartsList", C_PartsList), ("TooMany", C_TooMany), ("BadPlace", C_BadPlace)] : List (Str × Addr)).lookup n).getD 0, l.prog, w⟩) F4 (PySem.W.mg_none_of X G z_isinstance) (PySem.W.mg_none_of X G z_dict) (PySem.W.mg_none_of X G z_len) (PySem.W.mg_of X G c_MOST_LISTS) k_Catalog k_PartsList e_Catalog__lists O3 (PySem.W.mg_of X G a3) k3 b3
  have O5 := ok_is_integer (P := l.prog) (w := w) (mg := mg) (base := base) (cm := ⟨fun n => (([("Catalog", C_Catalog), ("PartsList", C_PartsList), ("TooMany", C_TooMany), ("BadPlace", C_BadPlace)] : List (Str × Addr)).lookup n).getD 0, l.prog, w⟩) F5 (PySem.W.mg_none_of X G z_isinstance) (PySem.W.mg_none_of X G z_bool) (PySem.W.mg_none_of X G z_int)
  have O6 := ok_is_place (P := l.prog) (w := w) (mg := mg) (base := base) (cm := ⟨fun n => (([("Catalog", C_Catalog), ("PartsList", C_PartsList), ("TooMany", C_TooMany), ("BadPlace", C_BadPlace)] : List (Str × Addr)).lookup n).getD 0, l.prog, w⟩) F6 (PySem.W.mg_none_of X G z_len) (PySem.W.mg_none_of X G z_isinstance) (PySem.W.mg_none_of X G z_tuple) (PySem.W.mg_of X G c_MOST_UNITS) O5 (PySem.W.mg_of X G a5) k5 b5 O3 (PySem.W.mg_of X G a3) k3 b3
  have O7 := ok_check_places (P := l.prog) (w := w) (mg := mg) (base := base) (cm := ⟨fun n => (([("Catalog", C_Catalog), ("PartsList", C_PartsList), ("TooMany", C_TooMany), ("BadPlace", C_BadPlace)] : List (Str × Addr)).lookup n).getD 0, l.prog, w⟩) F7 (PySem.W.mg_none_of X G z_len) (PySem.W.mg_none_of X G z_isinstance) (PySem.W.mg_none_of X G z_list) (PySem.W.mg_none_of X G z_tuple) (PySem.W.mg_none_of X G z_set) (PySem.W.mg_none_of X G z_enumerate) (PySem.W.mg_of X G c_MOST_PLACES) O6 (PySem.W.mg_of X G a6) k6 b6 rfl rfl
  have O8 := ok_PartsList___init__ (P := l.prog) (w := w) (mg := mg) (base := base) (cm := ⟨fun n => (([("Catalog", C_Catalog), ("PartsList", C_PartsList), ("TooMany", C_TooMany), ("BadPlace", C_BadPlace)] : List (Str × Addr)).lookup n).getD 0, l.prog, w⟩) F8 (PySem.W.mg_none_of X G z_tuple) k_PartsList e_PartsList__places O7 (PySem.W.mg_of X G a7) k7 b7
  have O9 := ok_Catalog___contains__ (P := l.prog) (w := w) (mg := mg) (base := base) (cm := ⟨fun n => (([("Catalog", C_Catalog), ("PartsList", C_PartsList), ("TooMany", C_TooMany), ("BadPlace", C_BadPlace)] : List (Str × Addr)).lookup n).getD 0, l.prog, w⟩) F9 k_Catalog e_Catalog__lists O3 (PySem.W.mg_of X G a3) k3 b3
  have O10 := ok_Catalog___len__ (P := l.prog) (w := w) (mg := mg) (base := base) (cm := ⟨fun n => (([("Catalog", C_Catalog), ("PartsList", C_PartsList), ("TooMany", C_TooMany), ("BadPlace", C_BadPlace)] : List (Str × Addr)).lookup n).getD 0, l.prog, w⟩) F10 (PySem.W.mg_none_of X G z_len) k_Catalog e_Catalog__lists
  have O11 := ok_Catalog_words (P := l.prog) (w := w) (mg := mg) (base := base) (cm := ⟨fun n => (([("Catalog", C_Catalog), ("PartsList", C_PartsList), ("TooMany", C_TooMany), ("BadPlace", C_BadPlace)] : List (Str × Addr)).lookup n).getD 0, l.prog, w⟩) F11 (PySem.W.mg_none_of X G z_sorted) (PySem.W.mg_none_of X G z_set) k_Catalog e_Catalog__lists
  have O12 := ok_PartsList_places (P := l.prog) (w := w) (mg := mg) (base := base) (cm := ⟨fun n => (([("Catalog", C_Catalog), ("PartsList", C_PartsList), ("TooMany", C_TooMany), ("BadPlace", C_BadPlace)] : List (Str × Addr)).lookup n).getD 0, l.prog, w⟩) F12 (PySem.W.mg_none_of X G z_list) k_PartsList e_PartsList__places
  have O13 := ok_count_places (P := l.prog) (w := w) (mg := mg) (base := base) (cm := ⟨fun n => (([("Catalog", C_Catalog), ("PartsList", C_PartsList), ("TooMany", C_TooMany), ("BadPlace", C_BadPlace)] : List (Str × Addr)).lookup n).getD 0, l.prog, w⟩) F13 k_PartsList O12 o12 b12 (PySem.W.mg_of X G a13) k13 b13
  have O14 := ok_times_share (P := l.prog) (w := w) (mg := mg) (base := base) (cm := ⟨fun n => (([("Catalog", C_Catalog), ("PartsList", C_PartsList), ("TooMany", C_TooMany), ("BadPlace", C_BadPlace)] : List (Str × Addr)).lookup n).getD 0, l.prog, w⟩) F14
  have O15 := ok_put_in (P := l.prog) (w := w) (mg := mg) (base := base) (cm := ⟨fun n => (([("Catalog", C_Catalog), ("PartsList", C_PartsList), ("TooMany", C_TooMany), ("BadPlace", C_BadPlace)] : List (Str × Addr)).lookup n).getD 0, l.prog, w⟩) F15 k_PartsList O12 o12 b12 O14 (PySem.W.mg_of X G a14) k14 b14 (PySem.W.mg_of X G a15) k15 b15
  have O16 := ok_Catalog_opened (P := l.prog) (w := w) (mg := mg) (base := base) (cm := ⟨fun n => (([("Catalog", C_Catalog), ("PartsList", C_PartsList), ("TooMany", C_TooMany), ("BadPlace", C_BadPlace)] : List (Str × Addr)).lookup n).getD 0, l.prog, w⟩) F16 (PySem.W.mg_none_of X G z_zip) (PySem.W.mg_of X G c_MOST_PLACES) (PySem.W.mg_of X G c_LETTERS) k_Catalog k_PartsList e_Catalog__lists O9 o9 b9 O13 (PySem.W.mg_of X G a13) k13 b13 O15 (PySem.W.mg_of X G a15) k15 b15 O8 y8 b8_0 er_TooMany
  have O17 := ok__law_told (P := l.prog) (w := w) (mg := mg) (base := base) (cm := ⟨fun n => (([("Catalog", C_Catalog), ("PartsList", C_PartsList), ("TooMany", C_TooMany), ("BadPlace", C_BadPlace)] : List (Str × Addr)).lookup n).getD 0, l.prog, w⟩) F17 k_PartsList k_Catalog O12 o12 b12 O16 o16 b16 hx_BadPlace hx_TooMany xm_BadPlace_BadPlace xm_TooMany_BadPlace xm_TooMany_TooMany xm_BadPlace_TooMany
  have O18 := ok__law_opened (P := l.prog) (w := w) (mg := mg) (base := base) (cm := ⟨fun n => (([("Catalog", C_Catalog), ("PartsList", C_PartsList), ("TooMany", C_TooMany), ("BadPlace", C_BadPlace)] : List (Str × Addr)).lookup n).getD 0, l.prog, w⟩) F18 (PySem.W.mg_of X G a18) k18 b18
  have O19 := ok_Catalog___getitem__ (P := l.prog) (w := w) (mg := mg) (base := base) (cm := ⟨fun n => (([("Catalog", C_Catalog), ("PartsList", C_PartsList), ("TooMany", C_TooMany), ("BadPlace", C_BadPlace)] : List (Str × Addr)).lookup n).getD 0, l.prog, w⟩) F19 k_Catalog e_Catalog__lists O3 (PySem.W.mg_of X G a3) k3 b3
  have O20 := ok_PartsList___eq__ (P := l.prog) (w := w) (mg := mg) (base := base) (cm := ⟨fun n => (([("Catalog", C_Catalog), ("PartsList", C_PartsList), ("TooMany", C_TooMany), ("BadPlace", C_BadPlace)] : List (Str × Addr)).lookup n).getD 0, l.prog, w⟩) F20 (PySem.W.mg_none_of X G z_isinstance) k_PartsList e_PartsList__places
  have O21 := ok_law (P := l.prog) (w := w) (mg := mg) (base := base) (cm := ⟨fun n => (([("Catalog", C_Catalog), ("PartsList", C_PartsList), ("TooMany", C_TooMany), ("BadPlace", C_BadPlace)] : List (Str × Addr)).lookup n).getD 0, l.prog, w⟩) F21 (PySem.W.mg_none_of X G z_range) (PySem.W.mg_none_of X G z_max) (PySem.W.mg_none_of X G z_min) (PySem.W.mg_none_of X G z_len) (PySem.W.mg_none_of X G z_enumerate) (PySem.W.mg_none_of X G z_dict) k_Catalog k_PartsList O0 (PySem.W.mg_of X G a0) k0 b0 O1 (PySem.W.mg_of X G a1) k1 b1 O2 (PySem.W.mg_of X G a2) k2 b2 O4 y4 b4_0 O8 y8 b8_0 O9 o9 b9 O10 o10 b10 O11 o11 b11 (FnOk.calm O17) (PySem.W.mg_of X G a17) k17 b17 O18 (PySem.W.mg_of X G a18) k18 b18 O19 o19 b19 O20 o20 b20
  exact law_imp O21 law_true
end ThisLaw
open PySem PySem.W PyProof.Rows
set_option maxHeartbeats 0 in
theorem PySem.Challenge.cw_standinparts_k07_whole_lists_within_list_holds : PySem.Challenge.rw_standinparts_k07_whole_lists_within_list.Holds := by
  w_on; o_law; k_head; (case hw => w_witness2)
  k_fill
  refine L2.walk_of (l := PySem.Challenge.rw_standinparts_k07_whole_lists_within_list) (n := 63) (k := 16) (x := "_law_script") (CX := fun _ => L2.CX0) (sp := fun w => EL.spLaw _) rfl (by decide) rfl ⟨rfl, by decide, by decide⟩ (fun w h Y => PySem.W.kIn_of Y) ?F (fun _ H a ns hl hO hS => ⟨a, ns, rfl, hO, hS, hl, fun _ => rfl⟩) (fun _ _ _ _ _ h => h)
  case F =>
    intro w mg fa h KX G hmg
    refine' ThisLaw.all_mk KX G hmg ?g_Catalog ?q1_Catalog ?q2_Catalog ?q3_Catalog ?q4_Catalog ?q5_Catalog ?q6_Catalog ?q7_Catalog ?q8_Catalog ?q9_Catalog ?r1_Catalog ?r2_Catalog ?r3_Catalog ?t_Catalog_dict ?n_Catalog_dict ?t_Catalog_list ?n_Catalog_list ?t_Catalog_tuple ?n_Catalog_tuple ?t_Catalog_int ?n_Catalog_int ?t_Catalog_str ?n_Catalog_str ?t_Catalog_bool ?n_Catalog_bool ?t_Catalog_NoneType ?n_Catalog_NoneType ?y1_Catalog ?y2_Catalog ?e_Catalog__lists ?g_PartsList ?q1_PartsList ?q2_PartsList ?q3_PartsList ?q4_PartsList ?q5_PartsList ?q6_PartsList ?q7_PartsList ?q8_PartsList ?q9_PartsList ?r1_PartsList ?r2_PartsList ?r3_PartsList ?t_PartsList_dict ?n_PartsList_dict ?t_PartsList_list ?n_PartsList_list ?t_PartsList_tuple ?n_PartsList_tuple ?t_PartsList_int ?n_PartsList_int ?t_PartsList_str ?n_PartsList_str ?t_PartsList_bool ?n_PartsList_bool ?t_PartsList_NoneType ?n_PartsList_NoneType ?y1_PartsList ?y2_PartsList ?e_PartsList__places ?a0 ?l0 ?c0 ?k0 ?a1 ?l1 ?c1 ?k1 ?a2 ?l2 ?c2 ?k2 ?a3 ?l3 ?c3 ?k3 ?a4 ?l4 ?c4 ?k4 ?x4 ?w4 ?a5 ?l5 ?c5 ?k5 ?a6 ?l6 ?c6 ?k6 ?a7 ?l7 ?c7 ?k7 ?a8 ?l8 ?c8 ?k8 ?x8 ?w8 ?a9 ?l9 ?c9 ?k9 ?x9 ?w9 ?a10 ?l10 ?c10 ?k10 ?x10 ?w10 ?a11 ?l11 ?c11 ?k11 ?x11 ?w11 ?a12 ?l12 ?c12 ?k12 ?x12 ?w12 ?a13 ?l13 ?c13 ?k13 ?a14 ?l14 ?c14 ?k14 ?a15 ?l15 ?c15 ?k15 ?a16 ?l16 ?c16 ?k16 ?x16 ?w16 ?a17 ?l17 ?c17 ?k17 ?a18 ?l18 ?c18 ?k18 ?a19 ?l19 ?c19 ?k19 ?x19 ?w19 ?a20 ?l20 ?c20 ?k20 ?x20 ?w20 ?a21 ?l21 ?c21 ?k21 ?z_len ?z_sum ?z_abs ?z_int ?z_isinstance ?z_str ?z_all ?z_dict ?z_bool ?z_tuple ?z_list ?z_set ?z_enumerate ?z_sorted ?z_zip ?z_range ?z_max ?z_min ?c_LONGEST_WORD ?c_LETTERS ?c_MOST_LISTS ?c_MOST_UNITS ?c_MOST_PLACES ?eg_TooMany ?eo_TooMany ?ev_TooMany ?es_TooMany ?eb_TooMany ?et_TooMany ?ek_TooMany ?en_TooMany ?ei_TooMany ?ef_TooMany ?el_TooMany ?ec_TooMany ?ee_TooMany ?h1_TooMany ?h2_TooMany ?h3_TooMany ?h4_TooMany ?h5_TooMany ?h6_TooMany ?h7_TooMany ?eg_BadPlace ?eo_BadPlace ?ev_BadPlace ?es_BadPlace ?eb_BadPlace ?et_BadPlace ?ek_BadPlace ?en_BadPlace ?ei_BadPlace ?ef_BadPlace ?el_BadPlace ?ec_BadPlace ?ee_BadPlace ?h1_BadPlace ?h2_BadPlace ?h3_BadPlace ?h4_BadPlace ?h5_BadPlace ?h6_BadPlace ?h7_BadPlace ?xs_BadPlace_BadPlace ?xs_TooMany_BadPlace ?xs_TooMany_TooMany ?xs_BadPlace_TooMany
    (case g_Catalog => k_is); (case q1_Catalog => k_is); (case q2_Catalog => k_is); (case q3_Catalog => k_is); (case q4_Catalog => k_is); (case q5_Catalog => k_is); (case q6_Catalog => k_is); (case q7_Catalog => k_is); (case q8_Catalog => k_is); (case q9_Catalog => kit_is); (case r1_Catalog => k_is); (case r2_Catalog => k_is); (case r3_Catalog => k_is); (case t_Catalog_dict => kit_is); (case n_Catalog_dict => k_is); (case t_Catalog_list => kit_is); (case n_Catalog_list => k_is); (case t_Catalog_tuple => kit_is); (case n_Catalog_tuple => k_is); (case t_Catalog_int => kit_is); (case n_Catalog_int => k_is); (case t_Catalog_str => kit_is); (case n_Catalog_str => k_is); (case t_Catalog_bool => kit_is); (case n_Catalog_bool => k_is); (case t_Catalog_NoneType => kit_is); (case n_Catalog_NoneType => k_is); (case y1_Catalog => k_is); (case y2_Catalog => k_is); (case e_Catalog__lists => k_is); (case g_PartsList => k_is); (case q1_PartsList => k_is); (case q2_PartsList => k_is); (case q3_PartsList => k_is); (case q4_PartsList => k_is); (case q5_PartsList => k_is); (case q6_PartsList => k_is); (case q7_PartsList => k_is); (case q8_PartsList => k_is); (case q9_PartsList => kit_is); (case r1_PartsList => k_is); (case r2_PartsList => k_is); (case r3_PartsList => k_is); (case t_PartsList_dict => kit_is); (case n_PartsList_dict => k_is); (case t_PartsList_list => kit_is); (case n_PartsList_list => k_is); (case t_PartsList_tuple => kit_is); (case n_PartsList_tuple => k_is); (case t_PartsList_int => kit_is); (case n_PartsList_int => k_is); (case t_PartsList_str => kit_is); (case n_PartsList_str => k_is); (case t_PartsList_bool => kit_is); (case n_PartsList_bool => k_is); (case t_PartsList_NoneType => kit_is); (case n_PartsList_NoneType => k_is); (case y1_PartsList => k_is); (case y2_PartsList => k_is); (case e_PartsList__places => k_is); (case a0 => k_is); (case l0 => k_is); (case c0 => k_is); (case k0 => k_is); (case a1 => k_is); (case l1 => k_is); (case c1 => k_is); (case k1 => k_is); (case a2 => k_is); (case l2 => k_is); (case c2 => k_is); (case k2 => k_is); (case a3 => k_is); (case l3 => k_is); (case c3 => k_is); (case k3 => k_is); (case a4 => k_is); (case l4 => k_is); (case c4 => k_is); (case k4 => k_is); (case x4 => k_is); (case w4 => k_is); (case a5 => k_is); (case l5 => k_is); (case c5 => k_is); (case k5 => k_is); (case a6 => k_is); (case l6 => k_is); (case c6 => k_is); (case k6 => k_is); (case a7 => k_is); (case l7 => k_is); (case c7 => k_is); (case k7 => k_is); (case a8 => k_is); (case l8 => k_is); (case c8 => k_is); (case k8 => k_is); (case x8 => k_is); (case w8 => k_is); (case a9 => k_is); (case l9 => k_is); (case c9 => k_is); (case k9 => k_is); (case x9 => k_is); (case w9 => k_is); (case a10 => k_is); (case l10 => k_is); (case c10 => k_is); (case k10 => k_is); (case x10 => k_is); (case w10 => k_is); (case a11 => k_is); (case l11 => k_is); (case c11 => k_is); (case k11 => k_is); (case x11 => k_is); (case w11 => k_is); (case a12 => k_is); (case l12 => k_is); (case c12 => k_is); (case k12 => k_is); (case x12 => k_is); (case w12 => k_is); (case a13 => k_is); (case l13 => k_is); (case c13 => k_is); (case k13 => k_is); (case a14 => k_is); (case l14 => k_is); (case c14 => k_is); (case k14 => k_is); (case a15 => k_is); (case l15 => k_is); (case c15 => k_is); (case k15 => k_is); (case a16 => k_is); (case l16 => k_is); (case c16 => k_is); (case k16 => k_is); (case x16 => k_is); (case w16 => k_is); (case a17 => k_is); (case l17 => k_is); (case c17 => k_is); (case k17 => k_is); (case a18 => k_is); (case l18 => k_is); (case c18 => k_is); (case k18 => k_is); (case a19 => k_is); (case l19 => k_is); (case c19 => k_is); (case k19 => k_is); (case x19 => k_is); (case w19 => k_is); (case a20 => k_is); (case l20 => k_is); (case c20 => k_is); (case k20 => k_is); (case x20 => k_is); (case w20 => k_is); (case a21 => k_is); (case l21 => k_is); (case c21 => k_is); (case k21 => k_is); (case z_len => k_is); (case z_sum => k_is); (case z_abs => k_is); (case z_int => k_is); (case z_isinstance => k_is); (case z_str => k_is); (case z_all => k_is); (case z_dict => k_is); (case z_bool => k_is); (case z_tuple => k_is); (case z_list => k_is); (case z_set => k_is); (case z_enumerate => k_is); (case z_sorted => k_is); (case z_zip => k_is); (case z_range => k_is); (case z_max => k_is); (case z_min => k_is); (case c_LONGEST_WORD => k_is); (case c_LETTERS => k_is); (case c_MOST_LISTS => k_is); (case c_MOST_UNITS => k_is); (case c_MOST_PLACES => k_is); (case eg_TooMany => k_is); (case eo_TooMany => k_is); (case ev_TooMany => rfl); (case es_TooMany => k_is); (case eb_TooMany => k_is); (case et_TooMany => k_is); (case ek_TooMany => k_is); (case en_TooMany => k_is); (case ei_TooMany => k_is); (case ef_TooMany => k_is); (case el_TooMany => k_is); (case ec_TooMany => k_is); (case ee_TooMany => k_is); (case h1_TooMany => k_is); (case h2_TooMany => k_is); (case h3_TooMany => k_is); (case h4_TooMany => k_is); (case h5_TooMany => k_is); (case h6_TooMany => k_is); (case h7_TooMany => k_is); (case eg_BadPlace => k_is); (case eo_BadPlace => k_is); (case ev_BadPlace => rfl); (case es_BadPlace => k_is); (case eb_BadPlace => k_is); (case et_BadPlace => k_is); (case ek_BadPlace => k_is); (case en_BadPlace => k_is); (case ei_BadPlace => k_is); (case ef_BadPlace => k_is); (case el_BadPlace => k_is); (case ec_BadPlace => k_is); (case ee_BadPlace => k_is); (case h1_BadPlace => k_is); (case h2_BadPlace => k_is); (case h3_BadPlace => k_is); (case h4_BadPlace => k_is); (case h5_BadPlace => k_is); (case h6_BadPlace => k_is); (case h7_BadPlace => k_is); (case xs_BadPlace_BadPlace => k_is); (case xs_TooMany_BadPlace => k_is); (case xs_TooMany_TooMany => k_is); (case xs_BadPlace_TooMany => k_is)
