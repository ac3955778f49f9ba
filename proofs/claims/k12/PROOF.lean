import PyProof.Rows.All
import Wide.All
import OpenK.AllK
import Wide.FinOn
import HandS.ForMost
import HandS.Wide
import HandS.WideBits
import HandS.IsInst
import HandS.SortInts
import HandS.Style
import HandS.TupAny
import HandS.More
import HandS.Strs
import HandS.Exc
import HandS.ExcOwn
import HandS.TryOnly
import HandS.WordsExc
import HandS.SetFor
import PySem.Challenge.RW_lastcopied_k12_totals_by_choices
set_option Elab.async false
set_option linter.all false
set_option maxRecDepth 100000
namespace Dx
open PySem PySem.Spec L2
open PyProof.Rows hiding St

/-! ### data in a heap -/
/-- the script: read, never written -/
def ScrAt (K : PySem.W.Frag) (H : Hp) (a : Addr) (xs : List V) : Prop :=
  (∃ o, H a = some (.frz o (.lst xs))) ∨
    ∃ (o : Obj) (its : Array Value) (n : Nat), K.lookup a = some o ∧ o.cls = .type "list" ∧ o.dict = none ∧ o.data = .seq its n ∧ its.size ≤ sizeLine ∧ Vals xs its.toList
def scrD (ns : List Int) : PyData := .dict [(.list (ns.map PyData.int), .none)]
theorem ScrAt.sq {K : PySem.W.Frag} {H : Hp} {a : Addr} {xs : List V} (h : ScrAt K H a xs) : SqL K H a xs := h.elim (fun z => .inl (.inr z)) .inr
theorem ScrAt.same {K : PySem.W.Frag} {H H' : Hp} {a : Addr} {xs : List V} (e : Same H H') (h : ScrAt K H a xs) : ScrAt K H' a xs := h.elim (fun ⟨o, z⟩ => .inl ⟨o, e _ _ z⟩) .inr
mutual
inductive Rp (K : PySem.W.Frag) (H : Hp) : V → PyData → Prop
  | non : Rp K H .non .none
  | bl (b : Bool) : Rp K H (.bl b) (.bool b)
  | int (i : Int) : Rp K H (.int i) (.int i)
  | str (x : Str) : Rp K H (.str x) (.str x)
  | lst {a : Addr} {xs : List V} {ds : List PyData} : H a = some (.lst xs) → RpAll K H xs ds → Rp K H (.ref a) (.list ds)
  | tup {a : Addr} {xs : List V} {ds : List PyData} : SqT K H a xs → RpAll K H xs ds → Rp K H (.ref a) (.tuple ds)
  | scr {a : Addr} {ns : List Int} : ScrAt K H a (ns.map V.int) → Rp K H (.ref a) (.dict [(.list (ns.map PyData.int), .none)])
inductive RpAll (K : PySem.W.Frag) (H : Hp) : List V → List PyData → Prop
  | nil : RpAll K H [] []
  | cons {v : V} {vs : List V} {d : PyData} {ds : List PyData} : Rp K H v d → RpAll K H vs ds → RpAll K H (v :: vs) (d :: ds)
end

def hid (H : Hp) (S : List Addr) : Hp := fun b => if b ∈ S then none else H b
def Dom (H : Hp) (S : List Addr) : Prop := ∀ a ∈ S, H a ≠ none

theorem sqT_same {K : PySem.W.Frag} {H H' : Hp} {a : Addr} {xs : List V} (e : Same H H') (h : SqT K H a xs) : SqT K H' a xs := by
  rcases h with (h | ⟨o, h⟩) | h
  · exact .inl (.inl (e _ _ h))
  · exact .inl (.inr ⟨o, e _ _ h⟩)
  · exact .inr h

mutual
theorem Rp.same {K : PySem.W.Frag} {H H' : Hp} (e : Same H H') : ∀ {v : V} {d : PyData}, Rp K H v d → Rp K H' v d
  | _, _, .non => .non
  | _, _, .bl b => .bl b
  | _, _, .int i => .int i
  | _, _, .str x => .str x
  | _, _, .lst h r => .lst (e _ _ h) (RpAll.same e r)
  | _, _, .tup h r => .tup (sqT_same e h) (RpAll.same e r)
  | _, _, .scr h => .scr (h.same e)
theorem RpAll.same {K : PySem.W.Frag} {H H' : Hp} (e : Same H H') : ∀ {vs : List V} {ds : List PyData}, RpAll K H vs ds → RpAll K H' vs ds
  | _, _, .nil => .nil
  | _, _, .cons h r => .cons (Rp.same e h) (RpAll.same e r)
end
mutual
def noX : PyData → Bool
  | .dict _ => false
  | .list ds => noXs ds
  | .tuple ds => noXs ds
  | _ => true
def noXs : List PyData → Bool
  | [] => true
  | d :: ds => noX d && noXs ds
end
mutual
theorem Rp.dp {K : PySem.W.Frag} {H : Hp} : ∀ {v : V} {d : PyData}, noX d = true → Rp K H v d → Dp K H v d
  | _, _, _, .non => .non
  | _, _, _, .bl b => .bl b
  | _, _, _, .int i => .int i
  | _, _, _, .str x => .str x
  | _, _, n, .lst h r => .lst (.inl (.inl h)) (RpAll.dp (by simpa [noX] using n) r)
  | _, _, n, .tup h r => .tup h (RpAll.dp (by simpa [noX] using n) r)
  | _, _, n, .scr h => by simp [noX] at n
theorem RpAll.dp {K : PySem.W.Frag} {H : Hp} : ∀ {vs : List V} {ds : List PyData}, noXs ds = true → RpAll K H vs ds → DpAll K H vs ds
  | _, _, _, .nil => .nil
  | _, _, n, .cons h r => by
    simp only [noXs, Bool.and_eq_true] at n
    exact .cons (Rp.dp n.1 h) (RpAll.dp n.2 r)
end

theorem hid_sub {H : Hp} {S : List Addr} : Same (hid H S) H := fun b o h => by
  unfold hid at h
  split at h
  · cases h
  · exact h
theorem hid_same {H H' : Hp} {S : List Addr} (e : Same H H') : Same (hid H S) (hid H' S) := fun b o h => by
  unfold hid at h ⊢
  split at h
  · cases h
  · rename_i q
    rw [if_neg q]
    exact e _ _ h
theorem hid_less {H : Hp} {S T : List Addr} (e : ∀ a ∈ T, a ∈ S) : Same (hid H S) (hid H T) := fun b o h => by
  unfold hid at h ⊢
  split at h
  · cases h
  · rename_i q
    rw [if_neg (fun z => q (e _ z))]
    exact h
theorem hid_at {H : Hp} {S : List Addr} {a : Addr} {o : HO} (h : H a = some o) (q : a ∉ S) : hid H S a = some o := by
  unfold hid
  rw [if_neg q]
  exact h
theorem hid_upd {H : Hp} {S : List Addr} {a : Addr} {o : HO} (q : a ∈ S) : Same (hid H S) (hid (upd H a o) S) := fun b u h => by
  unfold hid at h ⊢
  split at h
  · cases h
  · rename_i z
    rw [if_neg z, upd_ne (fun (e : b = a) => z (by rw [e]; exact q))]
    exact h
theorem same_new {H : Hp} {p : Addr} {o : HO} (h : H p = none) : Same H (upd H p o) := fun b x e => by
  rw [upd_ne (ne_of_none e h)]
  exact e
theorem Dom.same {H H' : Hp} {S : List Addr} (d : Dom H S) (e : Same H H') : Dom H' S := fun a h => by
  cases q : H a with
  | none => exact absurd q (d a h)
  | some o =>
    rw [e _ _ q]
    intro z
    cases z
theorem Dom.fresh {H : Hp} {S : List Addr} {p : Addr} (d : Dom H S) (h : H p = none) : p ∉ S := fun z => d p z h
theorem Dom.cons {H : Hp} {S : List Addr} {p : Addr} {o : HO} (d : Dom H S) (h : H p = some o) : Dom H (p :: S) := fun a z => by
  rcases List.mem_cons.mp z with e | e
  · rw [e, h]
    intro z
    cases z
  · exact d a e

theorem Rp.intEq {K : PySem.W.Frag} {H : Hp} {v : V} {i : Int} (r : Rp K H v (.int i)) : v = .int i := by cases r; rfl
theorem Rp.blEq {K : PySem.W.Frag} {H : Hp} {v : V} {b : Bool} (r : Rp K H v (.bool b)) : v = .bl b := by cases r; rfl
theorem Rp.strEq {K : PySem.W.Frag} {H : Hp} {v : V} {x : Str} (r : Rp K H v (.str x)) : v = .str x := by cases r; rfl
theorem Rp.nonEq {K : PySem.W.Frag} {H : Hp} {v : V} (r : Rp K H v .none) : v = .non := by cases r; rfl
theorem Rp.lstE {K : PySem.W.Frag} {H : Hp} {v : V} {ds : List PyData} (r : Rp K H v (.list ds)) : ∃ a xs, v = .ref a ∧ H a = some (.lst xs) ∧ RpAll K H xs ds := by
  cases r with | lst h q => exact ⟨_, _, rfl, h, q⟩
theorem Rp.tupE {K : PySem.W.Frag} {H : Hp} {v : V} {ds : List PyData} (r : Rp K H v (.tuple ds)) : ∃ a xs, v = .ref a ∧ SqT K H a xs ∧ RpAll K H xs ds := by
  cases r with | tup h q => exact ⟨_, _, rfl, h, q⟩
theorem RpAll.len {K : PySem.W.Frag} {H : Hp} : ∀ {vs : List V} {ds : List PyData}, RpAll K H vs ds → vs.length = ds.length
  | _, _, .nil => rfl
  | _, _, .cons _ r => congrArg (· + 1) (RpAll.len r)
theorem RpAll.at {K : PySem.W.Frag} {H : Hp} : ∀ {vs : List V} {ds : List PyData} {i : Nat} {d : PyData}, RpAll K H vs ds → ds[i]? = some d → ∃ v, vs[i]? = some v ∧ Rp K H v d
  | _, _, _, _, .nil, h => by simp at h
  | _, _, 0, _, .cons h r, e => by
    simp only [List.getElem?_cons_zero, Option.some.injEq] at e
    subst e
    exact ⟨_, rfl, h⟩
  | _, _, i + 1, _, .cons h r, e => by
    simp only [List.getElem?_cons_succ] at e
    simpa using RpAll.at r e
theorem RpAll.at' {K : PySem.W.Frag} {H : Hp} {vs : List V} {ds : List PyData} {i : Nat} {v : V} (r : RpAll K H vs ds) (h : vs[i]? = some v) : ∃ d, ds[i]? = some d ∧ Rp K H v d := by
  have hl := r.len
  have hi : i < ds.length := by
    rw [← hl]
    exact (List.getElem?_eq_some_iff.mp h).1
  obtain ⟨v', h', r'⟩ := r.at (List.getElem?_eq_getElem hi)
  rw [h] at h'
  cases h'
  exact ⟨_, List.getElem?_eq_getElem hi, r'⟩
theorem RpAll.app {K : PySem.W.Frag} {H : Hp} {vs ws : List V} {ds es : List PyData} (r : RpAll K H vs ds) (q : RpAll K H ws es) : RpAll K H (vs ++ ws) (ds ++ es) := by
  induction vs generalizing ds with
  | nil =>
    cases r
    exact q
  | cons v vs ih =>
    cases r with
    | cons h r => exact .cons h (ih r)
theorem RpAll.drop {K : PySem.W.Frag} {H : Hp} : ∀ {vs : List V} {ds : List PyData} (n : Nat), RpAll K H vs ds → RpAll K H (vs.drop n) (ds.drop n)
  | _, _, 0, r => r
  | _, _, n + 1, .nil => .nil
  | _, _, n + 1, .cons _ r => RpAll.drop n r
theorem RpAll.take {K : PySem.W.Frag} {H : Hp} : ∀ {vs : List V} {ds : List PyData} (n : Nat), RpAll K H vs ds → RpAll K H (vs.take n) (ds.take n)
  | _, _, 0, r => .nil
  | _, _, n + 1, .nil => .nil
  | _, _, n + 1, .cons h r => .cons h (RpAll.take n r)
theorem RpAll.rev {K : PySem.W.Frag} {H : Hp} {vs : List V} {ds : List PyData} (r : RpAll K H vs ds) : RpAll K H vs.reverse ds.reverse := by
  induction vs generalizing ds with
  | nil =>
    cases r
    exact .nil
  | cons v vs ih =>
    cases r with
    | cons h r =>
      rw [List.reverse_cons, List.reverse_cons]
      exact (ih r).app (.cons h .nil)
theorem RpAll.ints {K : PySem.W.Frag} {H : Hp} : ∀ {ns : List Int} {vs : List V}, RpAll K H vs (ns.map PyData.int) → vs = ns.map V.int
  | [], _, r => by
    cases r
    rfl
  | n :: ns, _, r => by
    cases r with
    | cons h r =>
      rw [h.intEq, RpAll.ints r]
      rfl
theorem RpAll.ofInts {K : PySem.W.Frag} {H : Hp} : ∀ (ns : List Int), RpAll K H (ns.map V.int) (ns.map PyData.int)
  | [] => .nil
  | n :: ns => .cons (.int n) (RpAll.ofInts ns)
theorem RpAll.bls {K : PySem.W.Frag} {H : Hp} : ∀ {ns : List Bool} {vs : List V}, RpAll K H vs (ns.map PyData.bool) → vs = ns.map V.bl
  | [], _, r => by
    cases r
    rfl
  | n :: ns, _, r => by
    cases r with
    | cons h r =>
      rw [h.blEq, RpAll.bls r]
      rfl

/-! ### slots -/
abbrev Env := List (Option PyData)
def EnvD (K : PySem.W.Frag) (H : Hp) (S : List Addr) (σ : St) (ρ : Env) : Prop := σ.length = ρ.length ∧ ∀ (i : Nat) (d : PyData), ρ[i]? = some (some d) → ∃ v, σ[i]? = some (some v) ∧ Rp K (hid H S) v d
theorem EnvD.same {K : PySem.W.Frag} {H H' : Hp} {S : List Addr} {σ : St} {ρ : Env} (h : EnvD K H S σ ρ) (e : Same H H') : EnvD K H' S σ ρ :=
  ⟨h.1, fun i d q => by
    obtain ⟨v, a, r⟩ := h.2 i d q
    exact ⟨v, a, r.same (hid_same e)⟩⟩
theorem EnvD.set {K : PySem.W.Frag} {H : Hp} {S : List Addr} {σ : St} {ρ : Env} {i : Nat} {v : V} {d : PyData} (h : EnvD K H S σ ρ) (r : Rp K (hid H S) v d) : EnvD K H S (σ.set i (some v)) (ρ.set i (some d)) :=
  ⟨by rw [List.length_set, List.length_set]; exact h.1, fun j e q => by
    by_cases hj : i = j
    · subst hj
      have hi : i < ρ.length := by
        have := (List.getElem?_eq_some_iff.mp q).1
        rwa [List.length_set] at this
      rw [List.getElem?_set_self (by simpa using hi)] at q
      cases q
      exact ⟨v, List.getElem?_set_self (by rw [h.1]; exact hi), r⟩
    · rw [List.getElem?_set_ne hj] at q ⊢
      exact h.2 j e q⟩

/-! ### what an expression gives -/
def EvD (K : PySem.W.Frag) (t : TE) (ρ : Env) (d : PyData) : Prop :=
  ∀ (S : List Addr) (σ : St) (H : Hp) (Q : VK), Dom H S → EnvD K H S σ ρ → (∀ v H', Same H H' → Rp K (hid H' S) v d → Q v H') → t σ H Q
/-- a new list -/
def EvF (K : PySem.W.Frag) (t : TE) (ρ : Env) (ds : List PyData) : Prop :=
  ∀ (S : List Addr) (σ : St) (H : Hp) (Q : VK), Dom H S → EnvD K H S σ ρ →
    (∀ p H' xs, Same H H' → H p = none → H' p = some (.lst xs) → RpAll K (hid H' (p :: S)) xs ds → Q (.ref p) H') → t σ H Q
def EvB (K : PySem.W.Frag) (t : TT) (ρ : Env) (b : Bool) : Prop :=
  ∀ (S : List Addr) (σ : St) (H : Hp) (Q : Bool → Hp → Prop), Dom H S → EnvD K H S σ ρ → (∀ H', Same H H' → Q b H') → t σ H Q
def EvL (K : PySem.W.Frag) (t : TA) (ρ : Env) (ds : List PyData) : Prop :=
  ∀ (S : List Addr) (σ : St) (H : Hp) (Q : List V → Hp → Prop), Dom H S → EnvD K H S σ ρ → (∀ vs H', Same H H' → RpAll K (hid H' S) vs ds → Q vs H') → t σ H Q
variable {K : PySem.W.Frag} {ρ : Env}
theorem EvF.d {t : TE} {ds : List PyData} (h : EvF K t ρ ds) : EvD K t ρ (.list ds) := fun S σ H Q hd he hq =>
  h S σ H Q hd he fun p H' xs s hn hp r => hq _ _ s (.lst (hid_at hp (hd.fresh hn)) (r.same (hid_less fun a h => List.mem_cons_of_mem _ h)))
theorem EvD.cast {t : TE} {d e : PyData} (h : EvD K t ρ d) (q : d = e) : EvD K t ρ e := q ▸ h
theorem EvB.cast {t : TT} {d e : Bool} (h : EvB K t ρ d) (q : d = e) : EvB K t ρ e := q ▸ h
theorem EvL.cast {t : TA} {d e : List PyData} (h : EvL K t ρ d) (q : d = e) : EvL K t ρ e := q ▸ h
theorem EvF.cast {t : TE} {d e : List PyData} (h : EvF K t ρ d) (q : d = e) : EvF K t ρ e := q ▸ h
theorem e_var {i : Nat} {d : PyData} (h : ρ[i]? = some (some d)) : EvD K (tVar i) ρ d := fun S σ H Q hd he hq => by
  obtain ⟨v, a, r⟩ := he.2 i d h
  exact ⟨v, a, hq v H (Same.refl _) r⟩
theorem e_int {i : Int} : EvD K (tC (.int i)) ρ (.int i) := fun S σ H Q hd he hq => hq _ H (Same.refl _) (.int i)
theorem e_bl {i : Bool} : EvD K (tC (.bl i)) ρ (.bool i) := fun S σ H Q hd he hq => hq _ H (Same.refl _) (.bl i)
theorem e_str {i : Str} : EvD K (tC (.str i)) ρ (.str i) := fun S σ H Q hd he hq => hq _ H (Same.refl _) (.str i)
theorem e_non : EvD K (tC .non) ρ .none := fun S σ H Q hd he hq => hq _ H (Same.refl _) .non
theorem e_opI0 {g : Int → Int → V} {ta tb : TE} {i j : Int} {d : PyData} (ha : EvD K ta ρ (.int i)) (hb : EvD K tb ρ (.int j)) (hg : ∀ H, Rp K H (g i j) d) : EvD K (tOp (rI0 g) ta tb) ρ d := fun S σ H Q hd he hq =>
  ha S σ H _ hd he fun x H1 s1 r1 => hb S σ H1 _ (hd.same s1) (he.same s1) fun y H2 s2 r2 => ⟨i, j, r1.intEq, r2.intEq, hq _ _ (s1.trans s2) (hg _)⟩
theorem e_opI {C : Int → Int → Prop} {g : Int → Int → V} {ta tb : TE} {i j : Int} {d : PyData} (ha : EvD K ta ρ (.int i)) (hb : EvD K tb ρ (.int j)) (hc : C i j) (hg : ∀ H, Rp K H (g i j) d) : EvD K (tOp (rI C g) ta tb) ρ d := fun S σ H Q hd he hq =>
  ha S σ H _ hd he fun x H1 s1 r1 => hb S σ H1 _ (hd.same s1) (he.same s1) fun y H2 s2 r2 => ⟨i, j, r1.intEq, r2.intEq, hc, hq _ _ (s1.trans s2) (hg _)⟩
theorem e_add {ta tb : TE} {i j : Int} (ha : EvD K ta ρ (.int i)) (hb : EvD K tb ρ (.int j)) : EvD K (tOp (rI0 fun i j => .int (i + j)) ta tb) ρ (.int (i + j)) := e_opI0 ha hb fun _ => .int _
theorem e_sub {ta tb : TE} {i j : Int} (ha : EvD K ta ρ (.int i)) (hb : EvD K tb ρ (.int j)) : EvD K (tOp (rI0 fun i j => .int (i - j)) ta tb) ρ (.int (i - j)) := e_opI0 ha hb fun _ => .int _
theorem e_lt {ta tb : TE} {i j : Int} (ha : EvD K ta ρ (.int i)) (hb : EvD K tb ρ (.int j)) : EvD K (tOp (rI0 fun i j => .bl (decide (i < j))) ta tb) ρ (.bool (decide (i < j))) := e_opI0 ha hb fun _ => .bl _
theorem e_le {ta tb : TE} {i j : Int} (ha : EvD K ta ρ (.int i)) (hb : EvD K tb ρ (.int j)) : EvD K (tOp (rI0 fun i j => .bl (decide (i ≤ j))) ta tb) ρ (.bool (decide (i ≤ j))) := e_opI0 ha hb fun _ => .bl _
theorem e_iop {C : Int → Int → Prop} {g : Int → Int → Int} {ta tb : TE} {i j : Int} (ha : EvD K ta ρ (.int i)) (hb : EvD K tb ρ (.int j)) (hc : C i j) : EvD K (tOp (rI C fun i j => .int (g i j)) ta tb) ρ (.int (g i j)) := e_opI ha hb hc fun _ => .int _
theorem e_neg {g : Int → Int} {ta : TE} {i : Int} (ha : EvD K ta ρ (.int i)) : EvD K (tUn (rU fun i => .int (g i)) ta) ρ (.int (g i)) := fun S σ H Q hd he hq =>
  ha S σ H _ hd he fun x H1 s1 r1 => ⟨i, r1.intEq, hq _ _ s1 (.int _)⟩
/-- scalars -/
def scalD : PyData → Bool
  | .none | .bool _ | .int _ | .str _ => true
  | _ => false
def vOf : PyData → V
  | .none => .non
  | .bool b => .bl b
  | .int i => .int i
  | .str x => .str x
  | _ => .non
theorem Rp.vEq {H : Hp} {v : V} {d : PyData} (r : Rp K H v d) (h : scalD d = true) : v = vOf d := by
  cases r <;> first | rfl | cases h
end Dx
namespace Dx
open PySem PySem.Spec L2
open PyProof.Rows hiding St
variable {K : PySem.W.Frag} {ρ : Env}

/-! ### truth, tests -/
theorem e_test {t : TE} {b : Bool} (h : EvD K t ρ (.bool b)) : EvB K (tTest t) ρ b := fun S σ H Q hd he hq =>
  h S σ H _ hd he fun v H' s r => ⟨b, r.blEq, hq _ s⟩
theorem e_tB {t : TE} {b : Bool} (h : EvD K t ρ (.bool b)) : EvB K (tB t) ρ b := fun S σ H Q hd he hq =>
  h S σ H _ hd he fun v H' s r => ⟨b, r.blEq, hq _ s⟩
theorem b_not {t : TT} {b : Bool} (h : EvB K t ρ b) : EvB K (tNot t) ρ (!b) := fun S σ H Q hd he hq => h S σ H _ hd he fun H' s => hq _ s
theorem b_and {t u : TT} {a b : Bool} (h : EvB K t ρ a) (g : a = true → EvB K u ρ b) : EvB K (tAnd t u) ρ (a && b) := fun S σ H Q hd he hq =>
  h S σ H _ hd he fun H1 s1 => by
    cases a with
    | true => exact g rfl S σ H1 Q (hd.same s1) (he.same s1) fun H2 s2 => hq _ (s1.trans s2)
    | false => exact hq _ s1
theorem b_or {t u : TT} {a b : Bool} (h : EvB K t ρ a) (g : a = false → EvB K u ρ b) : EvB K (tOr t u) ρ (a || b) := fun S σ H Q hd he hq =>
  h S σ H _ hd he fun H1 s1 => by
    cases a with
    | true => exact hq _ s1
    | false => exact g rfl S σ H1 Q (hd.same s1) (he.same s1) fun H2 s2 => hq _ (s1.trans s2)
theorem e_and {t u : TE} {a : Bool} {b : Bool} (h : EvD K t ρ (.bool a)) (g : a = true → EvD K u ρ (.bool b)) : EvD K (tAndV t u) ρ (.bool (a && b)) := fun S σ H Q hd he hq =>
  h S σ H _ hd he fun v H1 s1 r1 => ⟨a, r1.blEq, by
    cases a with
    | true => exact g rfl S σ H1 Q (hd.same s1) (he.same s1) fun v H2 s2 r2 => hq _ _ (s1.trans s2) r2
    | false => exact hq _ _ s1 (.bl _)⟩
theorem e_or {t u : TE} {a : Bool} {b : Bool} (h : EvD K t ρ (.bool a)) (g : a = false → EvD K u ρ (.bool b)) : EvD K (tOrV t u) ρ (.bool (a || b)) := fun S σ H Q hd he hq =>
  h S σ H _ hd he fun v H1 s1 r1 => ⟨a, r1.blEq, by
    cases a with
    | true => exact hq _ _ s1 (.bl _)
    | false => exact g rfl S σ H1 Q (hd.same s1) (he.same s1) fun v H2 s2 r2 => hq _ _ (s1.trans s2) r2⟩
theorem e_not {t : TE} {a : Bool} (h : EvD K t ρ (.bool a)) : EvD K (tNotV t) ρ (.bool (!a)) := fun S σ H Q hd he hq =>
  h S σ H _ hd he fun v H1 s1 r1 => ⟨a, r1.blEq, hq _ _ s1 (.bl _)⟩
theorem e_ifx {c : TT} {t u : TE} {b : Bool} {d : PyData} (h : EvB K c ρ b) (h1 : b = true → EvD K t ρ d) (h2 : b = false → EvD K u ρ d) : EvD K (tIf c t u) ρ d := fun S σ H Q hd he hq =>
  h S σ H _ hd he fun H1 s1 => by
    cases b with
    | true => exact h1 rfl S σ H1 Q (hd.same s1) (he.same s1) fun v H2 s2 r2 => hq _ _ (s1.trans s2) r2
    | false => exact h2 rfl S σ H1 Q (hd.same s1) (he.same s1) fun v H2 s2 r2 => hq _ _ (s1.trans s2) r2
theorem e_chain {r r' : R2} {ta tb tc : TE} {f f' : Int → Int → Bool} {i j k : Int} (ha : EvD K ta ρ (.int i)) (hb : EvD K tb ρ (.int j)) (hc : f i j = true → EvD K tc ρ (.int k))
    (hr : ∀ H Q, Q (.bl (f i j)) H → r (.int i) (.int j) H Q) (hr' : ∀ H Q, Q (.bl (f' j k)) H → r' (.int j) (.int k) H Q) : EvD K (tChain r r' ta tb tc) ρ (.bool (f i j && f' j k)) := fun S σ H Q hd he hq =>
  ha S σ H _ hd he fun x H1 s1 r1 => hb S σ H1 _ (hd.same s1) (he.same s1) fun y H2 s2 r2 => by
    rw [r1.intEq, r2.intEq]
    have s12 := s1.trans s2
    refine hr H2 _ ⟨f i j, rfl, ?_⟩
    cases q : f i j with
    | true =>
      refine hc q S σ H2 _ (hd.same s12) (he.same s12) fun z H3 s3 r3 => ?_
      rw [r3.intEq]
      refine hr' H3 _ (hq _ _ (s12.trans s3) ?_)
      rw [q]
      exact .bl _
    | false =>
      refine hq _ _ s12 ?_
      rw [q]
      exact .bl _
theorem r_le {i j : Int} (H : Hp) (Q : VK) (h : Q (.bl (decide (i ≤ j))) H) : rI0 (fun i j => .bl (decide (i ≤ j))) (.int i) (.int j) H Q := ⟨i, j, rfl, rfl, h⟩
theorem r_lt {i j : Int} (H : Hp) (Q : VK) (h : Q (.bl (decide (i < j))) H) : rI0 (fun i j => .bl (decide (i < j))) (.int i) (.int j) H Q := ⟨i, j, rfl, rfl, h⟩

/-! ### equality -/
def eqS : PyData → PyData → Bool := fun d e => decide (vOf d = vOf e)
theorem scal_vOf {d e : PyData} (h : scal (vOf d) (vOf e) = true) : True := trivial
theorem e_eqS {ta tb : TE} {d e : PyData} (ha : EvD K ta ρ d) (hb : EvD K tb ρ e) (h1 : scalD d = true) (h2 : scalD e = true) (hs : scal (vOf d) (vOf e) = true) : EvD K (tOp rEq ta tb) ρ (.bool (decide (vOf d = vOf e))) := fun S σ H Q hd he hq =>
  ha S σ H _ hd he fun x H1 s1 r1 => hb S σ H1 _ (hd.same s1) (he.same s1) fun y H2 s2 r2 => by
    rw [r1.vEq h1, r2.vEq h2]
    exact ⟨hs, hq _ _ (s1.trans s2) (.bl _)⟩
theorem e_neS {ta tb : TE} {d e : PyData} (ha : EvD K ta ρ d) (hb : EvD K tb ρ e) (h1 : scalD d = true) (h2 : scalD e = true) (hs : scal (vOf d) (vOf e) = true) : EvD K (tOp rNe ta tb) ρ (.bool (!decide (vOf d = vOf e))) := fun S σ H Q hd he hq =>
  ha S σ H _ hd he fun x H1 s1 r1 => hb S σ H1 _ (hd.same s1) (he.same s1) fun y H2 s2 r2 => by
    rw [r1.vEq h1, r2.vEq h2]
    exact ⟨hs, hq _ _ (s1.trans s2) (.bl _)⟩
theorem e_eqI {ta tb : TE} {i j : Int} (ha : EvD K ta ρ (.int i)) (hb : EvD K tb ρ (.int j)) : EvD K (tOp rEq ta tb) ρ (.bool (decide (i = j))) := by
  refine (e_eqS ha hb rfl rfl rfl).cast ?_
  show PyData.bool (decide (V.int i = V.int j)) = _
  congr 1
  by_cases h : i = j
  · rw [h]; simp
  · rw [decide_eq_false h, decide_eq_false (fun z => h (V.int.inj z))]
theorem e_neI {ta tb : TE} {i j : Int} (ha : EvD K ta ρ (.int i)) (hb : EvD K tb ρ (.int j)) : EvD K (tOp rNe ta tb) ρ (.bool (!decide (i = j))) := by
  refine (e_neS ha hb rfl rfl rfl).cast ?_
  show PyData.bool (!decide (V.int i = V.int j)) = _
  congr 2
  by_cases h : i = j
  · rw [h]; simp
  · rw [decide_eq_false h, decide_eq_false (fun z => h (V.int.inj z))]
theorem e_eqT {ta tb : TE} {i j : Str} (ha : EvD K ta ρ (.str i)) (hb : EvD K tb ρ (.str j)) : EvD K (tOp rEq ta tb) ρ (.bool (decide (i = j))) := by
  refine (e_eqS ha hb rfl rfl rfl).cast ?_
  show PyData.bool (decide (V.str i = V.str j)) = _
  congr 1
  by_cases h : i = j
  · rw [h]; simp
  · rw [decide_eq_false h, decide_eq_false (fun z => h (V.str.inj z))]
theorem e_eqD {ta tb : TE} {d e : PyData} (ha : EvD K ta ρ d) (hb : EvD K tb ρ e) (h1 : SeqAt.shaped d = true) (h2 : SeqAt.shaped e = true) (n1 : noX d = true) (n2 : noX e = true) : EvD K (tOp (rEqD K) ta tb) ρ (.bool (PyData.eqv d e)) := fun S σ H Q hd he hq =>
  ha S σ H _ hd he fun x H1 s1 r1 => hb S σ H1 _ (hd.same s1) (he.same s1) fun y H2 s2 r2 =>
    ⟨d, e, ((r1.same (hid_same s2)).same hid_sub).dp n1, (r2.same hid_sub).dp n2, h1, h2, hq _ _ (s1.trans s2) (.bl _)⟩
theorem e_neD {ta tb : TE} {d e : PyData} (ha : EvD K ta ρ d) (hb : EvD K tb ρ e) (h1 : SeqAt.shaped d = true) (h2 : SeqAt.shaped e = true) (n1 : noX d = true) (n2 : noX e = true) : EvD K (tOp (rNeD K) ta tb) ρ (.bool (!PyData.eqv d e)) := fun S σ H Q hd he hq =>
  ha S σ H _ hd he fun x H1 s1 r1 => hb S σ H1 _ (hd.same s1) (he.same s1) fun y H2 s2 r2 =>
    ⟨d, e, ((r1.same (hid_same s2)).same hid_sub).dp n1, (r2.same hid_sub).dp n2, h1, h2, hq _ _ (s1.trans s2) (.bl _)⟩

/-! ### arguments, displays, calls -/
theorem l_nil : EvL K tNil ρ [] := fun S σ H Q hd he hq => hq _ _ (Same.refl _) .nil
theorem l_cons {t : TE} {u : TA} {d : PyData} {ds : List PyData} (h : EvD K t ρ d) (g : EvL K u ρ ds) : EvL K (tCons t u) ρ (d :: ds) := fun S σ H Q hd he hq =>
  h S σ H _ hd he fun x H1 s1 r1 => g S σ H1 _ (hd.same s1) (he.same s1) fun xs H2 s2 r2 => hq _ _ (s1.trans s2) (.cons (r1.same (hid_same s2)) r2)
theorem e_tup {t : TA} {ds : List PyData} (h : EvL K t ρ ds) (hz : ds.length ≤ sizeLine) : EvD K (tTup t) ρ (.tuple ds) := fun S σ H Q hd he hq =>
  h S σ H _ hd he fun xs H1 s1 r1 => ⟨by rw [r1.len]; exact hz, fun p hp => hq _ _ (s1.trans (same_new hp)) (.tup (.inl (.inl (hid_at upd_same ((hd.same s1).fresh hp)))) (r1.same (hid_same (same_new hp))))⟩
theorem f_lst {t : TA} {ds : List PyData} (h : EvL K t ρ ds) (hz : ds.length ≤ sizeLine) : EvF K (tLst t) ρ ds := fun S σ H Q hd he hq =>
  h S σ H _ hd he fun xs H1 s1 r1 => ⟨by rw [r1.len]; exact hz, fun p hp => by
    refine hq p _ xs (s1.trans (same_new hp)) (s1.free hp) upd_same ?_
    refine RpAll.same ?_ r1
    intro b o hb
    have hs : b ∉ S := fun z => by
      unfold hid at hb
      rw [if_pos z] at hb
      cases hb
    have hH : H1 b = some o := hid_sub b o hb
    exact hid_at (by rw [upd_ne (ne_of_none hH hp)]; exact hH) (by
      intro z
      rcases List.mem_cons.mp z with e | e
      · exact ne_of_none hH hp e
      · exact hs e)⟩
/-- a def's promise over data -/
def spD (K : PySem.W.Frag) (pre : List PyData → Prop) (f : List PyData → PyData) : Sp := fun vs H Q _ =>
  ∃ (S : List Addr) (ds : List PyData), Dom H S ∧ RpAll K (hid H S) vs ds ∧ pre ds ∧ ∀ v H', Same H H' → Rp K (hid H' S) v (f ds) → Q v H'
theorem e_call {pre : List PyData → Prop} {f : List PyData → PyData} {E : XK} {t : TA} {ds : List PyData} (h : EvL K t ρ ds) (hp : pre ds) : EvD K (tCall (spD K pre f) [] E t) ρ (f ds) := fun S σ H Q hd he hq =>
  h S σ H _ hd he fun xs H1 s1 r1 => by
    show spD K pre f (xs ++ []) H1 Q E
    rw [List.append_nil]
    exact ⟨S, ds, hd.same s1, r1, hp, fun v H' s r => hq v H' (s1.trans s) r⟩
theorem cb_len {t : TA} {ds : List PyData} (h : EvL K t ρ [.list ds]) : EvD K (tCB (fun xs H Q => ∃ p ys, xs = [.ref p] ∧ (SqL K H p ys ∨ SqT K H p ys) ∧ Q (.int ys.length) H) t) ρ (.int ds.length) := fun S σ H Q hd he hq =>
  h S σ H _ hd he fun xs H1 s1 r1 => by
    cases r1 with
    | cons r1 r2 =>
      cases r2
      obtain ⟨a, ys, e, ha, ry⟩ := r1.lstE
      refine ⟨a, ys, by rw [e], .inl (.inl (.inl (hid_sub _ _ ha))), hq _ _ s1 ?_⟩
      rw [ry.len]
      exact .int _
theorem cb_lenT {t : TA} {ds : List PyData} (h : EvL K t ρ [.tuple ds]) : EvD K (tCB (fun xs H Q => ∃ p ys, xs = [.ref p] ∧ (SqL K H p ys ∨ SqT K H p ys) ∧ Q (.int ys.length) H) t) ρ (.int ds.length) := fun S σ H Q hd he hq =>
  h S σ H _ hd he fun xs H1 s1 r1 => by
    cases r1 with
    | cons r1 r2 =>
      cases r2
      obtain ⟨a, ys, e, ha, ry⟩ := r1.tupE
      refine ⟨a, ys, by rw [e], .inr (sqT_same hid_sub ha), hq _ _ s1 ?_⟩
      rw [ry.len]
      exact .int _
theorem cb_one {r : List V → Hp → VK → Prop} {t : TA} {d e : PyData} (h : EvL K t ρ [d]) (hs : scalD d = true) (hr : ∀ H Q, Q (vOf e) H → r [vOf d] H Q) (he' : ∀ H, Rp K H (vOf e) e) : EvD K (tCB r t) ρ e := fun S σ H Q hd he hq =>
  h S σ H _ hd he fun xs H1 s1 r1 => by
    cases r1 with
    | cons r1 r2 =>
      cases r2
      rw [r1.vEq hs]
      exact hr _ _ (hq _ _ s1 (he' _))
theorem cb_two {r : List V → Hp → VK → Prop} {t : TA} {d d' e : PyData} (h : EvL K t ρ [d, d']) (hs : scalD d = true) (hs' : scalD d' = true) (hr : ∀ H Q, Q (vOf e) H → r [vOf d, vOf d'] H Q) (he' : ∀ H, Rp K H (vOf e) e) : EvD K (tCB r t) ρ e := fun S σ H Q hd he hq =>
  h S σ H _ hd he fun xs H1 s1 r1 => by
    cases r1 with
    | cons r1 r2 =>
      cases r2 with
      | cons r2 r3 =>
        cases r3
        rw [r1.vEq hs, r2.vEq hs']
        exact hr _ _ (hq _ _ s1 (he' _))
theorem cb_int {t : TA} {i : Int} (h : EvL K t ρ [.int i]) : EvD K (tCB (fun xs H Q => (∃ i, xs = [.int i] ∧ Q (.int i) H) ∨ ∃ k, xs = [.bl k] ∧ Q (.int (if k then 1 else 0)) H) t) ρ (.int i) :=
  cb_one h rfl (fun H Q q => .inl ⟨i, rfl, q⟩) fun _ => .int i
theorem cb_intB {t : TA} {i : Bool} (h : EvL K t ρ [.bool i]) : EvD K (tCB (fun xs H Q => (∃ i, xs = [.int i] ∧ Q (.int i) H) ∨ ∃ k, xs = [.bl k] ∧ Q (.int (if k then 1 else 0)) H) t) ρ (.int (if i then 1 else 0)) :=
  cb_one h rfl (fun H Q q => .inr ⟨i, rfl, q⟩) fun _ => .int _
theorem cb_abs {t : TA} {i : Int} (h : EvL K t ρ [.int i]) : EvD K (tCB (fun xs H Q => ∃ i, xs = [.int i] ∧ Q (.int (if i < 0 then -i else i)) H) t) ρ (.int (if i < 0 then -i else i)) :=
  cb_one h rfl (fun H Q q => ⟨i, rfl, q⟩) fun _ => .int _
theorem cb_max {t : TA} {i j : Int} (h : EvL K t ρ [.int i, .int j]) : EvD K (tCB (fun xs H Q => ∃ i j, xs = [.int i, .int j] ∧ Q (.int (if j > i then j else i)) H) t) ρ (.int (if j > i then j else i)) :=
  cb_two h rfl rfl (fun H Q q => ⟨i, j, rfl, q⟩) fun _ => .int _
theorem cb_min {t : TA} {i j : Int} (h : EvL K t ρ [.int i, .int j]) : EvD K (tCB (fun xs H Q => ∃ i j, xs = [.int i, .int j] ∧ Q (.int (if j < i then j else i)) H) t) ρ (.int (if j < i then j else i)) :=
  cb_two h rfl rfl (fun H Q q => ⟨i, j, rfl, q⟩) fun _ => .int _
theorem cb_all {t : TA} {bs : List Bool} (h : EvL K t ρ [.list (bs.map PyData.bool)]) : EvD K (tCB (rAll K) t) ρ (.bool (bs.all id)) := fun S σ H Q hd he hq =>
  h S σ H _ hd he fun xs H1 s1 r1 => by
    cases r1 with
    | cons r1 r2 =>
      cases r2
      obtain ⟨a, ys, e, ha, ry⟩ := r1.lstE
      exact ⟨a, bs, by rw [e], .inl (.inl (by rw [← ry.bls]; exact hid_sub _ _ ha)), hq _ _ s1 (.bl _)⟩
theorem cb_tuple {t : TA} {ds : List PyData} (h : EvL K t ρ [.list ds]) : EvD K (tCB (fun xs H Q => ∃ p ys, xs = [.ref p] ∧ ((SqL K H p ys ∧ ∀ l, H l = none → Q (.ref l) (upd H l (.tup ys))) ∨ (SqT K H p ys ∧ Q (.ref p) H))) t) ρ (.tuple ds) := fun S σ H Q hd he hq =>
  h S σ H _ hd he fun xs H1 s1 r1 => by
    cases r1 with
    | cons r1 r2 =>
      cases r2
      obtain ⟨a, ys, e, ha, ry⟩ := r1.lstE
      refine ⟨a, ys, by rw [e], .inl ⟨.inl (.inl (hid_sub _ _ ha)), fun p hp => hq _ _ (s1.trans (same_new hp)) (.tup (.inl (.inl (hid_at upd_same ((hd.same s1).fresh hp)))) (ry.same (hid_same (same_new hp))))⟩⟩

/-! ### items and slices -/
theorem atI_rp {H : Hp} {xs : List V} {ds : List PyData} (r : RpAll K H xs ds) {i : Int} {d : PyData} (h : atI ds i = some d) : ∃ v, atI xs i = some v ∧ Rp K H v d := by
  unfold atI at h ⊢
  rw [r.len]
  cases e : ixN ds.length i with
  | none =>
    rw [e] at h
    cases h
  | some j =>
    rw [e] at h
    exact r.at h
theorem e_ixL {ta tb : TE} {ds : List PyData} {i : Int} {d : PyData} (ha : EvD K ta ρ (.list ds)) (hb : EvD K tb ρ (.int i)) (h : atI ds i = some d) : EvD K (tOp (rIxL K) ta tb) ρ d := fun S σ H Q hd he hq =>
  ha S σ H _ hd he fun x H1 s1 r1 => hb S σ H1 _ (hd.same s1) (he.same s1) fun y H2 s2 r2 => by
    obtain ⟨a, ys, e, ha, ry⟩ := (r1.same (hid_same s2)).lstE
    obtain ⟨v, hv, rv⟩ := atI_rp ry h
    exact ⟨a, ys, i, v, e, r2.intEq, .inl (.inl (hid_sub _ _ ha)), hv, hq _ _ (s1.trans s2) rv⟩
theorem e_ixT {ta tb : TE} {ds : List PyData} {i : Int} {d : PyData} (ha : EvD K ta ρ (.tuple ds)) (hb : EvD K tb ρ (.int i)) (h : atI ds i = some d) : EvD K (tOp (rIxT K) ta tb) ρ d := fun S σ H Q hd he hq =>
  ha S σ H _ hd he fun x H1 s1 r1 => hb S σ H1 _ (hd.same s1) (he.same s1) fun y H2 s2 r2 => by
    obtain ⟨a, ys, e, ha, ry⟩ := (r1.same (hid_same s2)).tupE
    obtain ⟨v, hv, rv⟩ := atI_rp ry h
    exact ⟨a, ys, i, v, e, r2.intEq, sqT_same hid_sub ha, hv, hq _ _ (s1.trans s2) rv⟩
def cutD (xs : List PyData) (lo hi : Option Int) : List PyData := (xs.drop (HT.sIx xs.length 0 lo)).take (HT.sIx xs.length xs.length hi - HT.sIx xs.length 0 lo)
theorem cut_rp {H : Hp} {xs : List V} {ds : List PyData} (r : RpAll K H xs ds) (lo hi : Option Int) : RpAll K H (cutV xs lo hi) (cutD ds lo hi) := by
  unfold cutV cutD
  rw [r.len]
  exact (r.drop _).take _
def EvO (K : PySem.W.Frag) (t : TO) (ρ : Env) (o : Option Int) : Prop :=
  ∀ (S : List Addr) (σ : L2.St) (H : Hp) (Q : Option Int → Hp → Prop), Dom H S → EnvD K H S σ ρ → (∀ H', Same H H' → Q o H') → t σ H Q
theorem o_none : EvO K tNoPart ρ none := fun S σ H Q hd he hq => hq _ (Same.refl _)
theorem o_some {t : TE} {i : Int} (h : EvD K t ρ (.int i)) : EvO K (tPart t) ρ (some i) := fun S σ H Q hd he hq => h S σ H _ hd he fun v H' s r => ⟨i, r.intEq, hq _ s⟩
theorem fresh_list {H H1 : Hp} {S : List Addr} {p : Addr} {xs : List V} {ds : List PyData} (hp : H1 p = none) (r1 : RpAll K (hid H1 S) xs ds) {o : HO} : RpAll K (hid (upd H1 p o) (p :: S)) xs ds := by
  refine RpAll.same ?_ r1
  intro b o hb
  have hs : b ∉ S := fun z => by
    unfold hid at hb
    rw [if_pos z] at hb
    cases hb
  have hH : H1 b = some o := hid_sub b o hb
  exact hid_at (by rw [upd_ne (ne_of_none hH hp)]; exact hH) (by
    intro z
    rcases List.mem_cons.mp z with e | e
    · exact ne_of_none hH hp e
    · exact hs e)
theorem f_slL {ta : TE} {tl th : TO} {ds : List PyData} {lo hi : Option Int} (ha : EvD K ta ρ (.list ds)) (hl : EvO K tl ρ lo) (hh : EvO K th ρ hi) : EvF K (tSl (rSlL K) ta tl th) ρ (cutD ds lo hi) := fun S σ H Q hd he hq =>
  ha S σ H _ hd he fun x H1 s1 r1 => hl S σ H1 _ (hd.same s1) (he.same s1) fun H2 s2 => by
    have s12 := s1.trans s2
    refine hh S σ H2 _ (hd.same s12) (he.same s12) fun H3 s3 => ?_
    have s := s12.trans s3
    obtain ⟨a, ys, e, ha, ry⟩ := (r1.same (hid_same (s2.trans s3))).lstE
    refine ⟨a, ys, e, .inl (.inl (hid_sub _ _ ha)), fun p hp => ?_⟩
    exact hq p _ _ (s.trans (same_new hp)) (s.free hp) upd_same (fresh_list (H := H) hp (cut_rp ry lo hi))
theorem e_slT {ta : TE} {tl th : TO} {ds : List PyData} {lo hi : Option Int} (ha : EvD K ta ρ (.tuple ds)) (hl : EvO K tl ρ lo) (hh : EvO K th ρ hi) : EvD K (tSl (rSlA K) ta tl th) ρ (.tuple (cutD ds lo hi)) := fun S σ H Q hd he hq =>
  ha S σ H _ hd he fun x H1 s1 r1 => hl S σ H1 _ (hd.same s1) (he.same s1) fun H2 s2 => by
    have s12 := s1.trans s2
    refine hh S σ H2 _ (hd.same s12) (he.same s12) fun H3 s3 => ?_
    have s := s12.trans s3
    have r3 := r1.same (hid_same (s2.trans s3))
    obtain ⟨a, ys, e, ha, ry⟩ := r3.tupE
    refine ⟨a, ys, e, sqT_same hid_sub ha, fun w => ?_, fun _ p hp => ?_⟩
    · have ec : cutD ds lo hi = ds := by
        rw [ry.len] at w
        unfold cutD
        rw [w.1, w.2]
        simp
      rw [← e]
      exact hq _ _ s (by rw [ec]; exact r3)
    · exact hq _ _ (s.trans (same_new hp)) (.tup (.inl (.inl (hid_at upd_same ((hd.same s).fresh hp)))) ((cut_rp ry lo hi).same (hid_same (same_new hp))))
theorem f_cat {ta tb : TE} {ds es : List PyData} (ha : EvD K ta ρ (.list ds)) (hb : EvD K tb ρ (.list es)) (hz : ds.length + es.length ≤ sizeLine) : EvF K (tOp rCat ta tb) ρ (ds ++ es) := fun S σ H Q hd he hq =>
  ha S σ H _ hd he fun x H1 s1 r1 => hb S σ H1 _ (hd.same s1) (he.same s1) fun y H2 s2 r2 => by
    have s := s1.trans s2
    obtain ⟨a, xs, e, ha, rx⟩ := (r1.same (hid_same s2)).lstE
    obtain ⟨b, ys, e', hb, ry⟩ := r2.lstE
    refine ⟨a, b, xs, ys, e, e', hid_sub _ _ ha, hid_sub _ _ hb, by rw [rx.len, ry.len]; exact hz, fun p hp => ?_⟩
    exact hq p _ _ (s.trans (same_new hp)) (s.free hp) upd_same (fresh_list (H := H) hp (rx.app ry))
theorem e_catT {ta tb : TE} {ds es : List PyData} (ha : EvD K ta ρ (.tuple ds)) (hb : EvD K tb ρ (.tuple es)) (hz : ds.length + es.length ≤ sizeLine) : EvD K (tOp (rCatA K) ta tb) ρ (.tuple (ds ++ es)) := fun S σ H Q hd he hq =>
  ha S σ H _ hd he fun x H1 s1 r1 => hb S σ H1 _ (hd.same s1) (he.same s1) fun y H2 s2 r2 => by
    have s := s1.trans s2
    have q1 := r1.same (hid_same s2)
    obtain ⟨a, xs, e, ha, rx⟩ := q1.tupE
    obtain ⟨b, ys, e', hb, ry⟩ := r2.tupE
    refine ⟨a, b, xs, ys, e, e', sqT_same hid_sub ha, sqT_same hid_sub hb, by rw [rx.len, ry.len]; exact hz, fun z => ?_, fun _ z => ?_, fun _ _ p hp => ?_⟩
    · subst z
      cases rx
      rw [← e']
      exact hq _ _ s r2
    · subst z
      cases ry
      rw [← e]
      exact hq _ _ s (by rw [List.append_nil]; exact q1)
    · exact hq _ _ (s.trans (same_new hp)) (.tup (.inl (.inl (hid_at upd_same ((hd.same s).fresh hp)))) ((rx.app ry).same (hid_same (same_new hp))))
theorem int_inj : ∀ (a b : List Int), a.map PyData.int = b.map PyData.int → a = b
  | [], [], _ => rfl
  | [], _ :: _, h => by cases h
  | _ :: _, [], h => by cases h
  | x :: a, y :: b, h => by
    simp only [List.map_cons, List.cons.injEq, PyData.int.injEq] at h
    rw [h.1, int_inj a b h.2]
theorem Rp.scrE {H : Hp} {v : V} {ns : List Int} (r : Rp K H v (scrD ns)) : ∃ a, v = V.ref a ∧ ScrAt K H a (ns.map V.int) := by
  generalize e : scrD ns = d at r
  cases r with
  | scr h =>
    rename_i a ms
    unfold scrD at e
    injection e with e
    injection e with e1 e2
    injection e1 with e1 e3
    injection e1 with e1
    rw [int_inj _ _ e1]
    exact ⟨a, rfl, h⟩
  | non => cases e
  | bl => cases e
  | int => cases e
  | str => cases e
  | lst => cases e
  | tup => cases e
theorem ScrAt.out {H : Hp} {S : List Addr} {a : Addr} {xs : List V} (h : ScrAt K (hid H S) a xs) : SqL K H a xs :=
  h.elim (fun ⟨o, y⟩ => .inl (.inr ⟨o, hid_sub _ _ y⟩)) .inr
/-- len(script), script[k] -/
theorem cb_lenS {t : TA} {ns : List Int} (h : EvL K t ρ [scrD ns]) : EvD K (tCB (fun xs H Q => ∃ p ys, xs = [.ref p] ∧ (SqL K H p ys ∨ SqT K H p ys) ∧ Q (.int ys.length) H) t) ρ (.int ns.length) := fun S σ H Q hd he hq =>
  h S σ H _ hd he fun xs H1 s1 r1 => by
    cases r1 with
    | cons r1 r2 =>
      cases r2
      obtain ⟨a, e, ha⟩ := r1.scrE
      refine ⟨a, _, by rw [e], .inl ha.out, hq _ _ s1 ?_⟩
      rw [List.length_map]
      exact .int _
theorem e_ixS {ta tb : TE} {ns : List Int} {i k : Int} (ha : EvD K ta ρ (scrD ns)) (hb : EvD K tb ρ (.int i)) (h : atI ns i = some k) : EvD K (tOp (rIxL K) ta tb) ρ (.int k) := fun S σ H Q hd he hq =>
  ha S σ H _ hd he fun x H1 s1 r1 => hb S σ H1 _ (hd.same s1) (he.same s1) fun y H2 s2 r2 => by
    obtain ⟨a, e, ha⟩ := (r1.same (hid_same s2)).scrE
    refine ⟨a, _, i, .int k, e, r2.intEq, ha.out, ?_, hq _ _ (s1.trans s2) (.int k)⟩
    unfold atI at h ⊢
    rw [List.length_map]
    cases e : ixN ns.length i with
    | none =>
      rw [e] at h
      cases h
    | some j =>
      rw [e] at h
      have h' : ns[j]? = some k := h
      show (ns.map V.int)[j]? = some (.int k)
      rw [List.getElem?_map, h']
      rfl
end Dx
namespace Dx
open PySem PySem.Spec L2
open PyProof.Rows hiding St
variable {K : PySem.W.Frag} {ρ : Env}

/-! ### what is walked -/
def Wk (K : PySem.W.Frag) (J : It) (S : List Addr) (ds : List PyData) (H : Hp) : Prop :=
  ∀ i T H2, Dom H2 T → Same (hid H S) (hid H2 T) → (∀ d, ds[i]? = some d → J.go i H2 ∧ ∀ x H3, J.yld i H2 x H3 → Same H2 H3 ∧ Rp K (hid H3 T) x d) ∧ (ds.length ≤ i → J.stop i H2)
def EvI (K : PySem.W.Frag) (wi : TI) (ρ : Env) (ds : List PyData) : Prop :=
  ∀ (S : List Addr) (σ : L2.St) (H : Hp) (R : It → Hp → Prop), Dom H S → EnvD K H S σ ρ → (∀ J H', Same H H' → Wk K J S ds H' → R J H') → wi σ H R
theorem i_list {tl : TE} {ds : List PyData} (h : EvD K tl ρ (.list ds)) : EvI K (iList K tl) ρ ds := fun S σ H R hd he hq =>
  h S σ H _ hd he fun v H1 s r => by
    obtain ⟨a, xs, e, ha, rx⟩ := r.lstE
    refine ⟨a, e, ⟨xs, .inl (.inl (hid_sub _ _ ha))⟩, hq _ _ s ?_⟩
    intro i T H2 hT s2
    have h2 : SqL K H2 a xs := .inl (.inl (hid_sub _ _ (s2 _ _ ha)))
    refine ⟨fun d hd => ?_, fun hi => ⟨xs, h2, by rw [rx.len]; exact hi⟩⟩
    obtain ⟨x, hx, rv⟩ := rx.at hd
    refine ⟨⟨xs, x, h2, hx⟩, fun y H3 hy => ?_⟩
    obtain ⟨rfl, f⟩ := hy
    have ey : y = x := Option.some.inj ((f xs h2).symm.trans hx)
    rw [ey]
    exact ⟨Same.refl _, rv.same s2⟩
theorem i_tup {tl : TE} {ds : List PyData} (h : EvD K tl ρ (.tuple ds)) : EvI K (iTup K tl) ρ ds := fun S σ H R hd he hq =>
  h S σ H _ hd he fun v H1 s r => by
    obtain ⟨a, xs, e, ha, rx⟩ := r.tupE
    refine ⟨a, e, ⟨xs, sqT_same hid_sub ha⟩, hq _ _ s ?_⟩
    intro i T H2 hT s2
    have h2 : SqT K H2 a xs := sqT_same hid_sub (sqT_same s2 ha)
    refine ⟨fun d hd => ?_, fun hi => ⟨xs, h2, by rw [rx.len]; exact hi⟩⟩
    obtain ⟨x, hx, rv⟩ := rx.at hd
    refine ⟨⟨xs, x, h2, hx⟩, fun y H3 hy => ?_⟩
    obtain ⟨rfl, f⟩ := hy
    have ey : y = x := Option.some.inj ((f xs h2).symm.trans hx)
    rw [ey]
    exact ⟨Same.refl _, rv.same s2⟩
def rng (lo : Int) (n : Nat) : List PyData := (List.range n).map fun k => PyData.int (lo + (k : Nat))
theorem rng_len (lo : Int) (n : Nat) : (rng lo n).length = n := by simp [rng]
theorem rng_at {lo : Int} {n k : Nat} {d : PyData} (h : (rng lo n)[k]? = some d) : k < n ∧ d = .int (lo + k) := by
  unfold rng at h
  rw [List.getElem?_map] at h
  by_cases hk : k < n
  · rw [List.getElem?_range hk] at h
    exact ⟨hk, (Option.some.inj h).symm⟩
  · rw [List.getElem?_eq_none (by simpa using hk)] at h
    cases h
theorem i_rng1 {ta : TA} {j : Int} (h : EvL K ta ρ [.int j]) (h1 : -(2 ^ 62) ≤ j) (h2 : j < 2 ^ 62) : EvI K (iRng1 ta) ρ (rng 0 j.toNat) := fun S σ H R hd he hq =>
  h S σ H _ hd he fun vs H1 s r => by
    cases r with
    | cons r1 r2 =>
      cases r2
      refine ⟨j, by rw [r1.intEq], h1, h2, hq _ _ s ?_⟩
      intro i T H2 hT s2
      refine ⟨fun d hd => ?_, fun hi => by rw [rng_len] at hi; exact hi⟩
      obtain ⟨hk, rfl⟩ := rng_at hd
      refine ⟨hk, fun y H3 hy => ?_⟩
      obtain ⟨rfl, rfl⟩ := hy
      exact ⟨Same.refl _, .int _⟩
theorem i_rng2 {ta : TA} {i j : Int} (h : EvL K ta ρ [.int i, .int j]) (h1 : -(2 ^ 62) ≤ i ∧ i < 2 ^ 62 ∧ -(2 ^ 62) ≤ j ∧ j < 2 ^ 62) : EvI K (iRng2 ta) ρ (rng i (j - i).toNat) := fun S σ H R hd he hq =>
  h S σ H _ hd he fun vs H1 s r => by
    cases r with
    | cons r1 r2 =>
      cases r2 with
      | cons r2 r3 =>
        cases r3
        refine ⟨i, j, by rw [r1.intEq, r2.intEq], h1, hq _ _ s ?_⟩
        intro k T H2 hT s2
        refine ⟨fun d hd => ?_, fun hi => by rw [rng_len] at hi; exact hi⟩
        obtain ⟨hk, rfl⟩ := rng_at hd
        refine ⟨hk, fun y H3 hy => ?_⟩
        obtain ⟨rfl, rfl⟩ := hy
        exact ⟨Same.refl _, .int _⟩
/-- range(n, -1, -1) and its like -/
def rngD (lo : Int) (n : Nat) : List PyData := (List.range n).map fun k => PyData.int (lo + ((k : Nat) : Int) * (-1))
theorem rngD_len (lo : Int) (n : Nat) : (rngD lo n).length = n := by simp [rngD]
theorem rngD_at {lo : Int} {n k : Nat} {d : PyData} (h : (rngD lo n)[k]? = some d) : k < n ∧ d = .int (lo + ((k : Nat) : Int) * (-1)) := by
  unfold rngD at h
  rw [List.getElem?_map] at h
  by_cases hk : k < n
  · rw [List.getElem?_range hk] at h
    exact ⟨hk, (Option.some.inj h).symm⟩
  · rw [List.getElem?_eq_none (by simpa using hk)] at h
    cases h

/-! ### targets -/
def setV : L2.St → List Nat → List V → L2.St
  | σ, i :: is, v :: vs => setV (σ.set i (some v)) is vs
  | σ, _, _ => σ
def setE : Env → List (Nat × PyData) → Env
  | ρ, (i, d) :: r => setE (ρ.set i (some d)) r
  | ρ, [] => ρ
def EvG (K : PySem.W.Frag) (g : TG) (d : PyData) (L : List (Nat × PyData)) : Prop :=
  ∀ (S : List Addr) (H : Hp) (v : V), Rp K (hid H S) v d → ∃ ws : List V, RpAll K (hid H S) ws (L.map (·.2)) ∧ ∀ σ (Q : L2.St → Hp → Prop), Q (setV σ (L.map (·.1)) ws) H → g v σ H Q
theorem g_name {i : Nat} {d : PyData} : EvG K (gName i) d [(i, d)] := fun S H v r => ⟨[v], .cons r .nil, fun σ Q h => h⟩
def EvGs (K : PySem.W.Frag) (g : TGs) (ds : List PyData) (L : List (Nat × PyData)) : Prop :=
  ∀ (S : List Addr) (H : Hp) (vs : List V), RpAll K (hid H S) vs ds → ∃ ws : List V, RpAll K (hid H S) ws (L.map (·.2)) ∧ ∀ σ (Q : L2.St → Hp → Prop), Q (setV σ (L.map (·.1)) ws) H → g vs σ H Q
theorem gs_nil : EvGs K gNil [] [] := fun S H vs r => by
  cases r
  exact ⟨[], .nil, fun σ Q h => ⟨rfl, h⟩⟩
theorem gs_name {i : Nat} {g : TGs} {d : PyData} {ds : List PyData} {L : List (Nat × PyData)} (h : EvGs K g ds L) : EvGs K (gCons (gName i) g) (d :: ds) ((i, d) :: L) := fun S H vs r => by
  cases r with
  | cons r1 r2 =>
    obtain ⟨ws, q, f⟩ := h S H _ r2
    exact ⟨_ :: ws, .cons r1 q, fun σ Q h => ⟨_, _, rfl, f _ Q h⟩⟩
theorem g_tup {n : Nat} {g : TGs} {ds : List PyData} {L : List (Nat × PyData)} (h : EvGs K g ds L) (hn : ds.length = n) : EvG K (gTup K n g) (.tuple ds) L := fun S H v r => by
  obtain ⟨a, xs, e, ha, rx⟩ := r.tupE
  obtain ⟨ws, q, f⟩ := h S H _ rx
  exact ⟨ws, q, fun σ Q h => ⟨a, xs, e, sqT_same hid_sub ha, by rw [rx.len]; exact hn, f σ Q h⟩⟩
theorem EnvD.setV {H : Hp} {S : List Addr} : ∀ {L : List (Nat × PyData)} {σ : L2.St} {ρ : Env} {ws : List V}, EnvD K H S σ ρ → RpAll K (hid H S) ws (L.map (·.2)) → EnvD K H S (setV σ (L.map (·.1)) ws) (setE ρ L)
  | [], _, _, _, h, r => by
    cases r
    exact h
  | (i, d) :: L, _, _, _, h, r => by
    cases r with
    | cons r1 r2 => exact EnvD.setV (L := L) (EnvD.set h r1) r2
theorem wipe_set {x : Option V} : ∀ {vs : List Nat} {σ : L2.St} {i : Nat}, i ∈ vs → wipe (σ.set i x) vs = wipe σ vs
  | [], _, _, h => by cases h
  | v :: vs, σ, i, h => by
    have key : ∀ (vs : List Nat) (σ : L2.St), i ≠ v ∨ True → (wipe (σ.set i x) vs) = (wipe σ vs).set i x ∨ wipe (σ.set i x) vs = wipe σ vs := by
      intro vs
      induction vs with
      | nil => intro σ _; exact .inl rfl
      | cons u us ih =>
        intro σ hh
        by_cases e : i = u
        · subst e
          rcases ih σ hh with q | q
          · right
            unfold wipe
            rw [q, List.set_set]
          · right
            unfold wipe
            rw [q]
        · rcases ih σ hh with q | q
          · left
            unfold wipe
            rw [q, List.set_comm _ _ e]
          · right
            unfold wipe
            rw [q]
    by_cases e : i = v
    · subst e
      rcases key vs σ (.inr trivial) with q | q
      · unfold wipe
        rw [q, List.set_set]
      · unfold wipe
        rw [q]
    · have hm : i ∈ vs := by
        rcases List.mem_cons.mp h with z | z
        · exact absurd z e
        · exact z
      unfold wipe
      rw [wipe_set hm]
theorem wipe_setV {vs : List Nat} : ∀ {is : List Nat} {ws : List V} {σ : L2.St}, (∀ i ∈ is, i ∈ vs) → wipe (setV σ is ws) vs = wipe σ vs
  | [], _, _, _ => by simp [setV]
  | i :: is, [], _, _ => by simp [setV]
  | i :: is, w :: ws, σ, h => by
    show wipe (setV (σ.set i (some w)) is ws) vs = wipe σ vs
    rw [wipe_setV (fun j hj => h j (List.mem_cons_of_mem _ hj)), wipe_set (h i List.mem_cons_self)]
theorem wipe_wipe {vs : List Nat} {σ : L2.St} : wipe (wipe σ vs) vs = wipe σ vs := by
  have : ∀ (us : List Nat), (∀ u ∈ us, u ∈ vs) → wipe (wipe σ us) vs = wipe σ vs := by
    intro us
    induction us with
    | nil => intro _; rfl
    | cons u us ih =>
      intro h
      show wipe ((wipe σ us).set u none) vs = _
      rw [wipe_set (h u List.mem_cons_self), ih fun u hu => h u (List.mem_cons_of_mem _ hu)]
  exact this vs fun _ h => h
def wipeE (ρ : Env) : List Nat → Env
  | [] => ρ
  | v :: vs => (wipeE ρ vs).set v none
theorem EnvD.unset {H : Hp} {S : List Addr} {σ : L2.St} {i : Nat} {x : Option V} (h : EnvD K H S σ ρ) : EnvD K H S (σ.set i x) (ρ.set i none) :=
  ⟨by rw [List.length_set, List.length_set]; exact h.1, fun j e q => by
    by_cases hj : i = j
    · subst hj
      have hi : i < ρ.length := by
        have := (List.getElem?_eq_some_iff.mp q).1
        rwa [List.length_set] at this
      rw [List.getElem?_set_self (by simpa using hi)] at q
      cases q
    · rw [List.getElem?_set_ne hj] at q ⊢
      exact h.2 j e q⟩
theorem EnvD.wipe {H : Hp} {S : List Addr} {σ : L2.St} (h : EnvD K H S σ ρ) : ∀ vs, EnvD K H S (wipe σ vs) (wipeE ρ vs)
  | [] => h
  | v :: vs => (EnvD.wipe h vs).unset
theorem EnvD.hide {H H' : Hp} {S T : List Addr} {σ : L2.St} (h : EnvD K H T σ ρ) (e : Same (hid H T) (hid H' S)) : EnvD K H' S σ ρ :=
  ⟨h.1, fun i d q => by
    obtain ⟨v, a, r⟩ := h.2 i d q
    exact ⟨v, a, r.same e⟩⟩

/-! ### comprehensions: keep says which items are kept, out what of them -/
def lcOut (keep : Nat → Bool) (out : Nat → PyData) : Nat → List PyData
  | 0 => []
  | n + 1 => lcOut keep out n ++ (if keep n then [out n] else [])
theorem lcOut_len (keep : Nat → Bool) (out : Nat → PyData) : ∀ n, (lcOut keep out n).length ≤ n
  | 0 => Nat.le_refl _
  | n + 1 => by
    unfold lcOut
    rw [List.length_append]
    have := lcOut_len keep out n
    split <;> simp <;> omega
theorem f_lc {wi : TI} {g : TG} {tt : TT} {te : TE} {vs : List Nat} {ds : List PyData} {L : Nat → List (Nat × PyData)} {keep : Nat → Bool} {out : Nat → PyData} (hi : EvI K wi ρ ds) (hz : ds.length ≤ sizeLine)
    (hg : ∀ i d, ds[i]? = some d → EvG K g d (L i) ∧ ∀ j ∈ (L i).map (·.1), j ∈ vs)
    (ht : ∀ i d, ds[i]? = some d → EvB K tt (setE (wipeE ρ vs) (L i)) (keep i))
    (he : ∀ i d, ds[i]? = some d → keep i = true → EvD K te (setE (wipeE ρ vs) (L i)) (out i)) : EvF K (tLc wi g tt te vs) ρ (lcOut keep out ds.length) := fun S σ H Q hd hen hq =>
  hi S σ H _ hd hen fun J H1 s1 wk D nD => by
    have d1 : Dom H1 S := hd.same s1
    have e1 : EnvD K H1 S σ ρ := hen.same s1
    -- the invariant
    let Pv : Nat → Hp → Prop := fun i H2 => i ≤ ds.length ∧ (∀ b o, H1 b = some o → H2 b = some o) ∧ ∃ acc, H2 D = some (.lst acc) ∧ RpAll K (hid H2 (D :: S)) acc (lcOut keep out i)
    refine ⟨fun i m H2 => m = ds.length - i ∧ Pv i H2, ⟨_, rfl, Nat.zero_le _, fun b o e => same_new nD b o e, [], upd_same, .nil⟩, ?_⟩
    rintro i m H2 ⟨rfl, hi, sm, acc, hD, ra⟩
    have smS : Same H1 H2 := sm
    have nDS : D ∉ S := d1.fresh nD
    have dT : Dom H2 (D :: S) := (d1.same smS).cons hD
    have sh : ∀ (H3 : Hp), Same H2 H3 → Same (hid H1 S) (hid H3 (D :: S)) := fun H3 s3 b o hb => by
      have hH : H1 b = some o := hid_sub b o hb
      refine hid_at (s3 _ _ (sm _ _ hH)) fun z => ?_
      rcases List.mem_cons.mp z with e | e
      · exact ne_of_none hH nD e
      · unfold hid at hb
        rw [if_pos e] at hb
        cases hb
    by_cases hlt : i < ds.length
    · have hdi := List.getElem?_eq_getElem hlt
      obtain ⟨w1, w2⟩ := (wk i (D :: S) H2 dT (sh _ (Same.refl _))).1 _ hdi
      refine .inr ⟨w1, fun H' => Pv (i + 1) H', fun H' p => ⟨_, by omega, rfl, p⟩, fun x H3 hy => ?_⟩
      obtain ⟨s3, r3⟩ := w2 x H3 hy
      obtain ⟨gi, gl⟩ := hg i _ hdi
      have hD3 : H3 D = some (.lst acc) := s3 _ _ hD
      have d3 : Dom H3 (D :: S) := dT.same s3
      obtain ⟨ws, rw_, f⟩ := gi (D :: S) H3 x r3
      refine f _ _ ⟨by rw [wipe_setV gl, wipe_wipe], ?_⟩
      have e3 : EnvD K H3 (D :: S) (setV (wipe σ vs) ((L i).map (·.1)) ws) (setE (wipeE ρ vs) (L i)) := ((e1.wipe vs).hide (sh _ s3)).setV rw_
      refine ht i _ hdi (D :: S) _ H3 _ d3 e3 fun H4 s4 => ?_
      have hl : (lcOut keep out (i + 1)) = lcOut keep out i ++ (if keep i then [out i] else []) := rfl
      cases hk : keep i with
      | false =>
        refine L2.iteF ⟨hlt, fun b o e => s4 _ _ (s3 _ _ (sm _ _ e)), acc, s4 _ _ hD3, ?_⟩
        rw [hl, hk]
        simp only [Bool.false_eq_true, if_false, List.append_nil]
        exact ra.same (hid_same (s3.trans s4))
      | true =>
        refine L2.iteT ?_
        refine he i _ hdi hk (D :: S) _ H4 _ (d3.same s4) (e3.same s4) fun y H5 s5 r5 => ?_
        have hD5 : H5 D = some (.lst acc) := s5 _ _ (s4 _ _ hD3)
        have hal : acc.length < sizeLine := by
          have h1 := ra.len
          have h2 := lcOut_len keep out i
          omega
        refine ⟨acc, hD5, hal, hlt, fun b o e => ?_, acc ++ [y], upd_same, ?_⟩
        · rw [upd_ne (ne_of_none e nD)]
          exact s5 _ _ (s4 _ _ (s3 _ _ (sm _ _ e)))
        · rw [hl, hk]
          simp only [if_true]
          refine RpAll.same (hid_upd List.mem_cons_self) ?_
          exact (ra.same (hid_same (s3.trans (s4.trans s5)))).app (.cons r5 .nil)
    · exact .inl ⟨(wk i (D :: S) H2 dT (sh _ (Same.refl _))).2 (by omega), by
        have ei : i = ds.length := by omega
        subst ei
        exact hq D H2 acc (s1.trans smS) (s1.free nD) hD ra⟩
theorem b_yes : EvB K tYes ρ true := fun S σ H Q hd he hq => hq _ (Same.refl _)
theorem lcOut_all {out : Nat → PyData} : ∀ n, lcOut (fun _ => true) out n = (List.range n).map out
  | 0 => rfl
  | n + 1 => by
    unfold lcOut
    rw [lcOut_all n, List.range_succ, List.map_append]
    rfl
/-- [e for x in ds] -/
theorem f_map {wi : TI} {j : Nat} {te : TE} {ds : List PyData} {f : PyData → PyData} (hi : EvI K wi ρ ds) (hz : ds.length ≤ sizeLine)
    (he : ∀ d, d ∈ ds → EvD K te (ρ.set j (some d)) (f d)) : EvF K (tLc wi (gName j) tYes te [j]) ρ (ds.map f) := by
  have h := f_lc (K := K) (ρ := ρ) (wi := wi) (g := gName j) (tt := tYes) (te := te) (vs := [j]) (ds := ds) (L := fun i => [(j, ds.getD i .none)]) (keep := fun _ => true) (out := fun i => f (ds.getD i .none)) hi hz
    (fun i d hd => by
      have e : ds.getD i .none = d := by rw [List.getD_eq_getElem?_getD, hd]; rfl
      rw [e]
      exact ⟨g_name, by simp⟩)
    (fun i d hd => b_yes)
    (fun i d hd _ => by
      have e : ds.getD i .none = d := by rw [List.getD_eq_getElem?_getD, hd]; rfl
      rw [e]
      show EvD K te ((ρ.set j none).set j (some d)) (f d)
      rw [List.set_set]
      exact he d (List.mem_of_getElem? hd))
  refine h.cast ?_
  rw [lcOut_all]
  refine List.ext_getElem? fun i => ?_
  rw [List.getElem?_map, List.getElem?_map]
  by_cases hi : i < ds.length
  · rw [List.getElem?_range hi, List.getElem?_eq_getElem hi]
    simp [hi]
  · rw [List.getElem?_eq_none (by simpa using hi), List.getElem?_eq_none (by simpa using hi)]
    rfl
end Dx
namespace Dx
open PySem PySem.Spec L2
open PyProof.Rows hiding St
variable {K : PySem.W.Frag}

/-! ### statements: slots hold data, or a list of one's own -/
inductive Sl
  | no
  | dat (d : PyData)
  | own (ds : List PyData)
abbrev STt := List Sl
def Sl.view : Sl → Option PyData
  | .dat d => some d
  | .own ds => some (.list ds)
  | .no => none
def Sl.strict : Sl → Option PyData
  | .dat d => some d
  | _ => none
abbrev vw (ρ : STt) : Env := ρ.map Sl.view
abbrev vs (ρ : STt) : Env := ρ.map Sl.strict
structure StD (K : PySem.W.Frag) (H0 : Hp) (S : List Addr) (O : List Addr) (ρ : STt) (σ : L2.St) (H : Hp) : Prop where
  len : σ.length = ρ.length
  dat : ∀ (i : Nat) (d : PyData), ρ[i]? = some (.dat d) → ∃ v, σ[i]? = some (some v) ∧ Rp K (hid H (O ++ S)) v d
  own : ∀ (i : Nat) (ds : List PyData), ρ[i]? = some (.own ds) → ∃ a xs, a ∈ O ∧ σ[i]? = some (some (.ref a)) ∧ H a = some (.lst xs) ∧ RpAll K (hid H (O ++ S)) xs ds
  ap : ∀ (i j : Nat) (ds es : List PyData) (a : Addr), ρ[i]? = some (.own ds) → ρ[j]? = some (.own es) → σ[i]? = some (some (.ref a)) → σ[j]? = some (some (.ref a)) → i = j
  lst : ∀ a ∈ O, H0 a = none ∧ ∃ xs, H a = some (.lst xs)
  sm : Same H0 H
structure Post where
  nx : STt → Prop
  rt : PyData → Prop := fun _ => False
  bk : STt → Prop := fun _ => False
  ct : STt → Prop := fun _ => False
  rf : List PyData → Prop := fun _ => False
structure PostOK (K : PySem.W.Frag) (H0 : Hp) (S : List Addr) (P : Post) (D : Ends) : Prop where
  nx : ∀ O ρ σ H, P.nx ρ → StD K H0 S O ρ σ H → D.nx σ H
  rt : ∀ d v H, P.rt d → Same H0 H → Rp K (hid H S) v d → D.rt v H
  bk : ∀ O ρ σ H, P.bk ρ → StD K H0 S O ρ σ H → D.bk σ H
  ct : ∀ O ρ σ H, P.ct ρ → StD K H0 S O ρ σ H → D.ct σ H
  rf : ∀ ds p xs H, P.rf ds → Same H0 H → H0 p = none → H p = some (.lst xs) → RpAll K (hid H (p :: S)) xs ds → D.rt (.ref p) H
def ExD (K : PySem.W.Frag) (t : TS) (ρ : STt) (P : Post) : Prop :=
  ∀ (S O : List Addr) (H0 : Hp) (D : Ends) (σ : L2.St) (H : Hp), Dom H0 S → StD K H0 S O ρ σ H → PostOK K H0 S P D → t D σ H

theorem StD.domO {H0 : Hp} {S O : List Addr} {ρ : STt} {σ : L2.St} {H : Hp} (h : StD K H0 S O ρ σ H) (hd : Dom H0 S) : Dom H (O ++ S) := fun a ha => by
  rcases List.mem_append.mp ha with z | z
  · obtain ⟨_, xs, e⟩ := h.lst a z
    rw [e]
    intro q
    cases q
  · exact (hd.same h.sm) a z
theorem StD.same {H0 : Hp} {S O : List Addr} {ρ : STt} {σ : L2.St} {H H' : Hp} (h : StD K H0 S O ρ σ H) (e : Same H H') : StD K H0 S O ρ σ H' :=
  ⟨h.len, fun i d q => by
    obtain ⟨v, a, r⟩ := h.dat i d q
    exact ⟨v, a, r.same (hid_same e)⟩, fun i ds q => by
    obtain ⟨a, xs, h1, h2, h3, h4⟩ := h.own i ds q
    exact ⟨a, xs, h1, h2, e _ _ h3, h4.same (hid_same e)⟩, h.ap, fun a ha => by
    obtain ⟨h1, xs, h2⟩ := h.lst a ha
    exact ⟨h1, xs, e _ _ h2⟩, h.sm.trans e⟩
theorem StD.env {H0 : Hp} {S O : List Addr} {ρ : STt} {σ : L2.St} {H : Hp} (h : StD K H0 S O ρ σ H) : EnvD K H (O ++ S) σ (vs ρ) :=
  ⟨by rw [h.len]; simp [vs], fun i d q => by
    unfold vs at q
    rw [List.getElem?_map] at q
    cases e : ρ[i]? with
    | none =>
      rw [e] at q
      cases q
    | some x =>
      rw [e] at q
      cases x with
      | dat d' =>
        cases q
        exact h.dat i d e
      | own ds => cases q
      | no => cases q⟩
theorem StD.envW {H0 : Hp} {S O : List Addr} {ρ : STt} {σ : L2.St} {H : Hp} (h : StD K H0 S O ρ σ H) (hd : Dom H0 S) : EnvD K H S σ (vw ρ) :=
  ⟨by rw [h.len]; simp [vw], fun i d q => by
    have hl : Same (hid H (O ++ S)) (hid H S) := hid_less fun a ha => List.mem_append_right _ ha
    unfold vw at q
    rw [List.getElem?_map] at q
    cases e : ρ[i]? with
    | none =>
      rw [e] at q
      cases q
    | some x =>
      rw [e] at q
      cases x with
      | dat d' =>
        cases q
        obtain ⟨v, a, r⟩ := h.dat i d e
        exact ⟨v, a, r.same hl⟩
      | own ds =>
        cases q
        obtain ⟨a, xs, h1, h2, h3, h4⟩ := h.own i ds e
        refine ⟨_, h2, .lst (hid_at h3 fun z => ?_) (h4.same hl)⟩
        exact hd a z (h.lst a h1).1
      | no => cases q⟩
mutual
def noL : PyData → Bool
  | .list _ => false
  | .tuple ds => noLs ds
  | _ => true
def noLs : List PyData → Bool
  | [] => true
  | d :: ds => noL d && noLs ds
end
theorem sqT_hide {H : Hp} {S O : List Addr} {a : Addr} {xs : List V} (hO : ∀ a ∈ O, ∃ ys, H a = some (.lst ys)) (h : SqT K (hid H S) a xs) : SqT K (hid H (O ++ S)) a xs := by
  have key : ∀ (o : HO), hid H S a = some o → (∀ ys, o ≠ .lst ys) → hid H (O ++ S) a = some o := fun o e ne => by
    have hH := hid_sub a o e
    refine hid_at hH fun z => ?_
    rcases List.mem_append.mp z with z | z
    · obtain ⟨ys, q⟩ := hO a z
      rw [hH] at q
      exact ne ys (Option.some.inj q)
    · unfold hid at e
      rw [if_pos z] at e
      cases e
  rcases h with (h | ⟨o, h⟩) | h
  · exact .inl (.inl (key _ h fun ys z => by cases z))
  · exact .inl (.inr ⟨o, key _ h fun ys z => by cases z⟩)
  · exact .inr h
theorem scr_hide {H : Hp} {S O : List Addr} {a : Addr} {xs : List V} (hO : ∀ a ∈ O, ∃ ys, H a = some (.lst ys)) (h : ScrAt K (hid H S) a xs) : ScrAt K (hid H (O ++ S)) a xs := by
  rcases h with ⟨o, h⟩ | h
  · refine .inl ⟨o, hid_at (hid_sub _ _ h) fun z => ?_⟩
    rcases List.mem_append.mp z with z | z
    · obtain ⟨ys, q⟩ := hO a z
      rw [hid_sub _ _ h] at q
      cases q
    · unfold hid at h
      rw [if_pos z] at h
      cases h
  · exact .inr h
mutual
theorem rp_hide {H : Hp} {S O : List Addr} (hO : ∀ a ∈ O, ∃ ys, H a = some (.lst ys)) : ∀ {v : V} {d : PyData}, noL d = true → Rp K (hid H S) v d → Rp K (hid H (O ++ S)) v d
  | _, _, _, .non => .non
  | _, _, _, .bl b => .bl b
  | _, _, _, .int i => .int i
  | _, _, _, .str x => .str x
  | _, _, n, .lst h r => by simp [noL] at n
  | _, _, n, .tup h r => .tup (sqT_hide hO h) (rpAll_hide hO (by simpa [noL] using n) r)
  | _, _, n, .scr h => .scr (scr_hide hO h)
theorem rpAll_hide {H : Hp} {S O : List Addr} (hO : ∀ a ∈ O, ∃ ys, H a = some (.lst ys)) : ∀ {v : List V} {d : List PyData}, noLs d = true → RpAll K (hid H S) v d → RpAll K (hid H (O ++ S)) v d
  | _, _, _, .nil => .nil
  | _, _, n, .cons h r => by
    simp only [noLs, Bool.and_eq_true] at n
    exact .cons (rp_hide hO n.1 h) (rpAll_hide hO n.2 r)
end
theorem StD.put {H0 : Hp} {S O : List Addr} {ρ : STt} {σ : L2.St} {H : Hp} {i : Nat} {v : V} {d : PyData} (h : StD K H0 S O ρ σ H) (r : Rp K (hid H (O ++ S)) v d) : StD K H0 S O (ρ.set i (.dat d)) (σ.set i (some v)) H := by
  refine ⟨by rw [List.length_set, List.length_set]; exact h.len, fun j e q => ?_, fun j ds q => ?_, fun j k ds es a q q' z z' => ?_, h.lst, h.sm⟩
  · by_cases hj : i = j
    · subst hj
      have hi : i < ρ.length := by
        have := (List.getElem?_eq_some_iff.mp q).1
        rwa [List.length_set] at this
      rw [List.getElem?_set_self hi] at q
      cases q
      exact ⟨v, List.getElem?_set_self (by rw [h.len]; exact hi), r⟩
    · rw [List.getElem?_set_ne hj] at q ⊢
      exact h.dat j e q
  · by_cases hj : i = j
    · subst hj
      have hi : i < ρ.length := by
        have := (List.getElem?_eq_some_iff.mp q).1
        rwa [List.length_set] at this
      rw [List.getElem?_set_self hi] at q
      cases q
    · rw [List.getElem?_set_ne hj] at q ⊢
      exact h.own j ds q
  · have g : ∀ (j : Nat) (ds : List PyData), (ρ.set i (.dat d))[j]? = some (Sl.own ds) → i ≠ j := fun j ds q e => by
      subst e
      have hi : i < ρ.length := by
        have := (List.getElem?_eq_some_iff.mp q).1
        rwa [List.length_set] at this
      rw [List.getElem?_set_self hi] at q
      cases q
    have g1 := g j ds q
    have g2 := g k es q'
    rw [List.getElem?_set_ne g1] at q z
    rw [List.getElem?_set_ne g2] at q' z'
    exact h.ap j k ds es a q q' z z'
theorem StD.own_new {H0 : Hp} {S O : List Addr} {ρ : STt} {σ : L2.St} {H H' : Hp} {i : Nat} {p : Addr} {xs : List V} {ds : List PyData} (hd : Dom H0 S) (h : StD K H0 S O ρ σ H) (e : Same H H') (hn : H p = none) (hp : H' p = some (.lst xs)) (r : RpAll K (hid H' (p :: (O ++ S))) xs ds) :
    StD K H0 S (p :: O) (ρ.set i (.own ds)) (σ.set i (some (.ref p))) H' := by
  have h' := h.same e
  have np : ∀ a ∈ O, a ≠ p := fun a ha z => by
    obtain ⟨_, ys, q⟩ := h.lst a ha
    rw [z, hn] at q
    cases q
  have up : Same (hid H (O ++ S)) (hid H' (p :: O ++ S)) := fun b o hb => by
    have hH := hid_sub b o hb
    refine hid_at (e _ _ hH) fun z => ?_
    rcases List.mem_cons.mp z with z | z
    · rw [z, hn] at hH
      cases hH
    · unfold hid at hb
      rw [if_pos (show b ∈ O ++ S from z)] at hb
      cases hb
  refine ⟨by rw [List.length_set, List.length_set]; exact h.len, fun j d q => ?_, fun j es q => ?_, fun j k ds' es a q q' z z' => ?_, fun a ha => ?_, h'.sm⟩
  · by_cases hj : i = j
    · subst hj
      have hi : i < ρ.length := by
        have := (List.getElem?_eq_some_iff.mp q).1
        rwa [List.length_set] at this
      rw [List.getElem?_set_self hi] at q
      cases q
    · rw [List.getElem?_set_ne hj] at q ⊢
      obtain ⟨v, z, rv⟩ := h.dat j d q
      exact ⟨v, z, rv.same up⟩
  · by_cases hj : i = j
    · subst hj
      have hi : i < ρ.length := by
        have := (List.getElem?_eq_some_iff.mp q).1
        rwa [List.length_set] at this
      rw [List.getElem?_set_self hi] at q
      cases q
      exact ⟨p, xs, List.mem_cons_self, List.getElem?_set_self (by rw [h.len]; exact hi), hp, r⟩
    · rw [List.getElem?_set_ne hj] at q ⊢
      obtain ⟨a, ys, h1, h2, h3, h4⟩ := h.own j es q
      exact ⟨a, ys, List.mem_cons_of_mem _ h1, h2, e _ _ h3, h4.same up⟩
  · have g : ∀ (j : Nat) (es : List PyData), (ρ.set i (.own ds))[j]? = some (Sl.own es) → (σ.set i (some (V.ref p)))[j]? = some (some (.ref a)) → (j = i ∧ a = p) ∨ (j ≠ i ∧ ρ[j]? = some (.own es) ∧ σ[j]? = some (some (.ref a)) ∧ a ≠ p) := fun j es q z => by
      by_cases hj : i = j
      · subst hj
        have hi : i < ρ.length := by
          have := (List.getElem?_eq_some_iff.mp q).1
          rwa [List.length_set] at this
        rw [List.getElem?_set_self (by rw [h.len]; exact hi)] at z
        cases z
        exact .inl ⟨rfl, rfl⟩
      · rw [List.getElem?_set_ne hj] at q z
        obtain ⟨b, ys, h1, h2, h3, h4⟩ := h.own j es q
        rw [z] at h2
        cases h2
        exact .inr ⟨fun e => hj e.symm, q, z, np _ h1⟩
    rcases g j ds' q z with ⟨a1, a2⟩ | ⟨a1, a2, a3, a4⟩ <;> rcases g k es q' z' with ⟨b1, b2⟩ | ⟨b1, b2, b3, b4⟩
    · rw [a1, b1]
    · exact absurd a2 b4
    · exact absurd b2 a4
    · exact h.ap j k ds' es a a2 b2 a3 b3
  · rcases List.mem_cons.mp ha with z | z
    · rw [z]
      exact ⟨h.sm.free hn, xs, hp⟩
    · exact h'.lst a z
theorem StD.own_upd {H0 : Hp} {S O : List Addr} {ρ : STt} {σ : L2.St} {H : Hp} {i : Nat} {a : Addr} {xs : List V} {ds es : List PyData} (h : StD K H0 S O ρ σ H) (ho : ρ[i]? = some (.own es)) (ha : a ∈ O) (hs : σ[i]? = some (some (.ref a))) (r : RpAll K (hid H (O ++ S)) xs ds) :
    StD K H0 S O (ρ.set i (.own ds)) σ (upd H a (.lst xs)) := by
  have up : Same (hid H (O ++ S)) (hid (upd H a (.lst xs)) (O ++ S)) := hid_upd (List.mem_append_left _ ha)
  have hi : i < ρ.length := (List.getElem?_eq_some_iff.mp ho).1
  refine ⟨by rw [List.length_set]; exact h.len, fun j d q => ?_, fun j es' q => ?_, fun j k ds' es' b q q' z z' => ?_, fun b hb => ?_, fun b o e => ?_⟩
  · by_cases hj : i = j
    · subst hj
      rw [List.getElem?_set_self hi] at q
      cases q
    · rw [List.getElem?_set_ne hj] at q
      obtain ⟨v, z, rv⟩ := h.dat j d q
      exact ⟨v, z, rv.same up⟩
  · by_cases hj : i = j
    · subst hj
      rw [List.getElem?_set_self hi] at q
      cases q
      exact ⟨a, xs, ha, hs, upd_same, r.same up⟩
    · rw [List.getElem?_set_ne hj] at q
      obtain ⟨b, ys, h1, h2, h3, h4⟩ := h.own j es' q
      refine ⟨b, ys, h1, h2, ?_, h4.same up⟩
      rw [upd_ne (fun e => hj (h.ap i j es es' b ho q (by rw [e]; exact hs) h2))]
      exact h3
  · have g : ∀ (j : Nat) (es'' : List PyData), (ρ.set i (.own ds))[j]? = some (Sl.own es'') → ∃ es', ρ[j]? = some (.own es') := fun j es'' q => by
      by_cases hj : i = j
      · subst hj
        exact ⟨es, ho⟩
      · rw [List.getElem?_set_ne hj] at q
        exact ⟨_, q⟩
    obtain ⟨e1, g1⟩ := g j ds' q
    obtain ⟨e2, g2⟩ := g k es' q'
    exact h.ap j k e1 e2 b g1 g2 z z'
  · obtain ⟨h1, ys, h2⟩ := h.lst b hb
    refine ⟨h1, ?_⟩
    by_cases e : b = a
    · exact ⟨xs, by rw [e]; exact upd_same⟩
    · exact ⟨ys, by rw [upd_ne e]; exact h2⟩
  · have hb : b ≠ a := fun z => by
      rw [z, (h.lst a ha).1] at e
      cases e
    rw [upd_ne hb]
    exact h.sm _ _ e
theorem StD.frz {H0 : Hp} {S O : List Addr} {ρ : STt} {σ : L2.St} {H : Hp} {i : Nat} {ds : List PyData} (hd : Dom H0 S) (h : StD K H0 S O ρ σ H) (ho : ρ[i]? = some (.own ds)) : ∃ O', StD K H0 S O' (ρ.set i (.dat (.list ds))) σ H := by
  obtain ⟨a, xs, ha, hs, hH, rx⟩ := h.own i ds ho
  have hi : i < ρ.length := (List.getElem?_eq_some_iff.mp ho).1
  have less : Same (hid H (O ++ S)) (hid H (O.filter (fun b => !decide (b = a)) ++ S)) := hid_less fun b hb => by
    rcases List.mem_append.mp hb with z | z
    · exact List.mem_append_left _ (List.mem_filter.mp z).1
    · exact List.mem_append_right _ z
  refine ⟨O.filter (fun b => !decide (b = a)), by rw [List.length_set]; exact h.len, fun j d q => ?_, fun j es' q => ?_, fun j k ds' es' b q q' z z' => ?_, fun b hb => h.lst b (List.mem_filter.mp hb).1, h.sm⟩
  · by_cases hj : i = j
    · subst hj
      rw [List.getElem?_set_self hi] at q
      cases q
      refine ⟨_, hs, .lst (hid_at hH fun z => ?_) (rx.same less)⟩
      rcases List.mem_append.mp z with z | z
      · have := (List.mem_filter.mp z).2
        simp at this
      · exact hd a z (h.lst a ha).1
    · rw [List.getElem?_set_ne hj] at q
      obtain ⟨v, z, rv⟩ := h.dat j d q
      exact ⟨v, z, rv.same less⟩
  · by_cases hj : i = j
    · subst hj
      rw [List.getElem?_set_self hi] at q
      cases q
    · rw [List.getElem?_set_ne hj] at q
      obtain ⟨b, ys, h1, h2, h3, h4⟩ := h.own j es' q
      refine ⟨b, ys, List.mem_filter.mpr ⟨h1, ?_⟩, h2, h3, h4.same less⟩
      simp only [Bool.not_eq_true', decide_eq_false_iff_not]
      exact fun e => hj (h.ap i j ds es' b ho q (by rw [e]; exact hs) h2)
  · have g : ∀ (j : Nat) (es'' : List PyData), (ρ.set i (.dat (.list ds)))[j]? = some (Sl.own es'') → ρ[j]? = some (.own es'') := fun j es'' q => by
      by_cases hj : i = j
      · subst hj
        rw [List.getElem?_set_self hi] at q
        cases q
      · rw [List.getElem?_set_ne hj] at q
        exact q
    exact h.ap j k ds' es' b (g j ds' q) (g k es' q') z z'

/-! ### the rules of statements -/
variable {ρ : STt} {P : Post}
theorem x_nil (h : P.nx ρ) : ExD K tNext ρ P := fun S O H0 D σ H hd st p => p.nx O ρ σ H h st
theorem x_seq {t u : TS} {M : STt → Prop} (h : ExD K t ρ { P with nx := M }) (g : ∀ ρ', M ρ' → ExD K u ρ' P) : ExD K (tSeq t u) ρ P := fun S O H0 D σ H hd st p =>
  h S O H0 { D with nx := u D } σ H hd st ⟨fun O' ρ' σ' H' m st' => g ρ' m S O' H0 D σ' H' hd st' p, p.rt, p.bk, p.ct, p.rf⟩
/-- straight on -/
theorem x_sq {t u : TS} {ρ' : STt} (h : ExD K t ρ { P with nx := fun z => z = ρ' }) (g : ExD K u ρ' P) : ExD K (tSeq t u) ρ P :=
  x_seq h fun z e => by
    subst e
    exact g
theorem x_frz (i : Nat) {t : TS} {ds : List PyData} (ho : ρ[i]? = some (.own ds)) (h : ExD K t (ρ.set i (.dat (.list ds))) P) : ExD K t ρ P := fun S O H0 D σ H hd st p => by
  obtain ⟨O', st'⟩ := st.frz hd ho
  exact h S O' H0 D σ H hd st' p
theorem x_set {i : Nat} {te : TE} {d : PyData} (h : EvD K te (vw ρ) d) (hn : noL d = true) (hp : P.nx (ρ.set i (.dat d))) : ExD K (tAsg te (gName i)) ρ P := fun S O H0 D σ H hd st p =>
  h S σ H _ (hd.same st.sm) (st.envW hd) fun v H' s r => p.nx O _ _ H' hp ((st.same s).put (rp_hide (fun a ha => ((st.same s).lst a ha).2) hn r))
theorem x_setL {i : Nat} {te : TE} {d : PyData} (h : EvD K te (vs ρ) d) (hp : P.nx (ρ.set i (.dat d))) : ExD K (tAsg te (gName i)) ρ P := fun S O H0 D σ H hd st p =>
  h (O ++ S) σ H _ (st.domO hd) st.env fun v H' s r => p.nx O _ _ H' hp ((st.same s).put r)
theorem x_own {i : Nat} {te : TE} {ds : List PyData} (h : EvF K te (vs ρ) ds) (hp : P.nx (ρ.set i (.own ds))) : ExD K (tAsg te (gName i)) ρ P := fun S O H0 D σ H hd st p =>
  h (O ++ S) σ H _ (st.domO hd) st.env fun q H' xs s hn hq r => p.nx (q :: O) _ _ H' hp (st.own_new hd s hn hq r)
theorem x_if {c : TT} {t u : TS} {b : Bool} (h : EvB K c (vw ρ) b) (h1 : b = true → ExD K t ρ P) (h2 : b = false → ExD K u ρ P) : ExD K (tIfS c t u) ρ P := fun S O H0 D σ H hd st p =>
  h S σ H _ (hd.same st.sm) (st.envW hd) fun H' s => by
    cases b with
    | true => exact h1 rfl S O H0 D σ H' hd (st.same s) p
    | false => exact h2 rfl S O H0 D σ H' hd (st.same s) p
theorem x_ret {te : TE} {d : PyData} (h : EvD K te (vw ρ) d) (hp : P.rt d) : ExD K (tRet te) ρ P := fun S O H0 D σ H hd st p =>
  h S σ H _ (hd.same st.sm) (st.envW hd) fun v H' s r => p.rt d v H' hp (st.sm.trans s) r
theorem x_retF {te : TE} {ds : List PyData} (h : EvF K te (vw ρ) ds) (hp : P.rf ds) : ExD K (tRet te) ρ P := fun S O H0 D σ H hd st p =>
  h S σ H _ (hd.same st.sm) (st.envW hd) fun q H' xs s hn hq r => p.rf ds q xs H' hp (st.sm.trans s) (st.sm.free hn) hq r
theorem x_retO {i : Nat} {ds : List PyData} (ho : ρ[i]? = some (.own ds)) (hp : P.rf ds) : ExD K (tRet (tVar i)) ρ P := fun S O H0 D σ H hd st p => by
  obtain ⟨a, xs, ha, hs, hH, rx⟩ := st.own i ds ho
  refine ⟨_, hs, p.rf ds a xs H hp st.sm (st.lst a ha).1 hH (rx.same (hid_less fun b hb => ?_))⟩
  rcases List.mem_cons.mp hb with e | e
  · rw [e]
    exact List.mem_append_left _ ha
  · exact List.mem_append_right _ e
theorem x_retN (hp : P.rt .none) : ExD K tRetN ρ P := fun S O H0 D σ H hd st p => p.rt .none .non H hp st.sm .non
theorem x_drop {te : TE} {d : PyData} (h : EvD K te (vw ρ) d) (hp : P.nx ρ) : ExD K (tDrop te) ρ P := fun S O H0 D σ H hd st p =>
  h S σ H _ (hd.same st.sm) (st.envW hd) fun v H' s r => p.nx O ρ σ H' hp (st.same s)
theorem x_brk (hp : P.bk ρ) : ExD K tBreak ρ P := fun S O H0 D σ H hd st p => p.bk O ρ σ H hp st
theorem x_cont (hp : P.ct ρ) : ExD K tCont ρ P := fun S O H0 D σ H hd st p => p.ct O ρ σ H hp st
theorem x_par {i j : Nat} {ta : TA} {d e : PyData} (h : EvL K ta (vs ρ) [d, e]) (hp : P.nx ((ρ.set i (.dat d)).set j (.dat e))) : ExD K (tPar i j ta) ρ P := fun S O H0 D σ H hd st p =>
  h (O ++ S) σ H _ (st.domO hd) st.env fun xs H' s r => by
    cases r with
    | cons r1 r2 =>
      cases r2 with
      | cons r2 r3 =>
        cases r3
        exact ⟨_, _, rfl, p.nx O _ _ H' hp (((st.same s).put r1).put r2)⟩
theorem x_parW {i j : Nat} {ta : TA} {d e : PyData} (h : EvL K ta (vw ρ) [d, e]) (h1 : noL d = true) (h2 : noL e = true) (hp : P.nx ((ρ.set i (.dat d)).set j (.dat e))) : ExD K (tPar i j ta) ρ P := fun S O H0 D σ H hd st p =>
  h S σ H _ (hd.same st.sm) (st.envW hd) fun xs H' s r => by
    cases r with
    | cons r1 r2 =>
      cases r2 with
      | cons r2 r3 =>
        cases r3
        exact ⟨_, _, rfl, p.nx O _ _ H' hp (((st.same s).put (rp_hide (fun a ha => ((st.same s).lst a ha).2) h1 r1)).put (rp_hide (fun a ha => ((st.same s).lst a ha).2) h2 r2))⟩
theorem x_par3 {i j k : Nat} {ta : TA} {d e f : PyData} (h : EvL K ta (vs ρ) [d, e, f]) (hp : P.nx (((ρ.set i (.dat d)).set j (.dat e)).set k (.dat f))) : ExD K (tPar3 i j k ta) ρ P := fun S O H0 D σ H hd st p =>
  h (O ++ S) σ H _ (st.domO hd) st.env fun xs H' s r => by
    cases r with
    | cons r1 r2 =>
      cases r2 with
      | cons r2 r3 =>
        cases r3 with
        | cons r3 r4 =>
          cases r4
          exact ⟨_, _, _, rfl, p.nx O _ _ H' hp ((((st.same s).put r1).put r2).put r3)⟩
def putL : STt → List (Nat × PyData) → STt
  | ρ, (i, d) :: r => putL (ρ.set i (.dat d)) r
  | ρ, [] => ρ
theorem StD.putV {H0 : Hp} {S O : List Addr} {H : Hp} : ∀ {L : List (Nat × PyData)} {ρ : STt} {σ : L2.St} {ws : List V}, StD K H0 S O ρ σ H → RpAll K (hid H (O ++ S)) ws (L.map (·.2)) → StD K H0 S O (putL ρ L) (setV σ (L.map (·.1)) ws) H
  | [], _, _, _, h, r => by
    cases r
    exact h
  | (i, d) :: L, _, _, _, h, r => by
    cases r with
    | cons r1 r2 => exact StD.putV (L := L) (StD.put h r1) r2
/-- a, b = e -/
theorem x_asg {te : TE} {g : TG} {d : PyData} {L : List (Nat × PyData)} (h : EvD K te (vs ρ) d) (hg : EvG K g d L) (hp : P.nx (putL ρ L)) : ExD K (tAsg te g) ρ P := fun S O H0 D σ H hd st p =>
  h (O ++ S) σ H _ (st.domO hd) st.env fun v H' s r => by
    obtain ⟨ws, rw_, f⟩ := hg (O ++ S) H' v r
    exact f σ _ (p.nx O _ _ H' hp ((st.same s).putV rw_))
theorem x_asgW {te : TE} {g : TG} {d : PyData} {L : List (Nat × PyData)} (h : EvD K te (vw ρ) d) (hn : noL d = true) (hg : EvG K g d L) (hp : P.nx (putL ρ L)) : ExD K (tAsg te g) ρ P := fun S O H0 D σ H hd st p =>
  h S σ H _ (hd.same st.sm) (st.envW hd) fun v H' s r => by
    obtain ⟨ws, rw_, f⟩ := hg (O ++ S) H' v (rp_hide (fun a ha => ((st.same s).lst a ha).2) hn r)
    exact f σ _ (p.nx O _ _ H' hp ((st.same s).putV rw_))
/-- xs.append(e) of a list of one's own -/
theorem x_app {i : Nat} {te : TE} {ds : List PyData} {d : PyData} (ho : ρ[i]? = some (.own ds)) (h : EvD K te (vs ρ) d) (hz : ds.length < sizeLine) (hp : P.nx (ρ.set i (.own (ds ++ [d])))) :
    ExD K (tDrop (tBM K "list" rAppend (tVar i) (tCons te tNil))) ρ P := fun S O H0 D σ H hd st p => by
  obtain ⟨a, xs, ha, hs, hH, rx⟩ := st.own i ds ho
  refine ⟨_, hs, .inl ⟨rfl, _, .inl (.inl hH)⟩, ?_⟩
  refine h (O ++ S) σ H _ (st.domO hd) st.env fun v H' s r => ?_
  refine ⟨a, xs, v, rfl, rfl, s _ _ hH, by rw [rx.len]; exact hz, ?_⟩
  exact p.nx O _ _ _ hp ((st.same s).own_upd ho ha hs ((rx.same (hid_same s)).app (.cons r .nil)))
theorem x_appW {i : Nat} {te : TE} {ds : List PyData} {d : PyData} (ho : ρ[i]? = some (.own ds)) (h : EvD K te (vw ρ) d) (hn : noL d = true) (hz : ds.length < sizeLine) (hp : P.nx (ρ.set i (.own (ds ++ [d])))) :
    ExD K (tDrop (tBM K "list" rAppend (tVar i) (tCons te tNil))) ρ P := fun S O H0 D σ H hd st p => by
  obtain ⟨a, xs, ha, hs, hH, rx⟩ := st.own i ds ho
  refine ⟨_, hs, .inl ⟨rfl, _, .inl (.inl hH)⟩, ?_⟩
  refine h S σ H _ (hd.same st.sm) (st.envW hd) fun v H' s r => ?_
  refine ⟨a, xs, v, rfl, rfl, s _ _ hH, by rw [rx.len]; exact hz, ?_⟩
  exact p.nx O _ _ _ hp ((st.same s).own_upd ho ha hs ((rx.same (hid_same s)).app (.cons (rp_hide (fun a ha => ((st.same s).lst a ha).2) hn r) .nil)))
/-! ### loops -/
theorem StD.base {H0 H1 : Hp} {S O : List Addr} {σ : L2.St} {H : Hp} (h : StD K H1 S O ρ σ H) (e : Same H0 H1) : StD K H0 S O ρ σ H :=
  ⟨h.len, h.dat, h.own, h.ap, fun a ha => ⟨e.free (h.lst a ha).1, (h.lst a ha).2⟩, e.trans h.sm⟩
/-- the base moved up to all that stands, but the owned lists -/
theorem StD.up {H0 : Hp} {S O : List Addr} {σ : L2.St} {H : Hp} (h : StD K H0 S O ρ σ H) : StD K (hid H O) S O ρ σ H ∧ Same H0 (hid H O) :=
  ⟨⟨h.len, h.dat, h.own, h.ap, fun a ha => ⟨by unfold hid; rw [if_pos ha], (h.lst a ha).2⟩, hid_sub⟩, fun b o e => hid_at (h.sm _ _ e) fun z => by
    rw [(h.lst b z).1] at e
    cases e⟩
theorem PostOK.base {H0 H1 : Hp} {S : List Addr} {D : Ends} (p : PostOK K H0 S P D) (e : Same H0 H1) : PostOK K H1 S P D :=
  ⟨fun O ρ σ H h st => p.nx O ρ σ H h (st.base e), fun d v H h s r => p.rt d v H h (e.trans s) r, fun O ρ σ H h st => p.bk O ρ σ H h (st.base e), fun O ρ σ H h st => p.ct O ρ σ H h (st.base e), fun ds q xs H h s n z r => p.rf ds q xs H h (e.trans s) (e.free n) z r⟩
theorem StD.walk {S O O2 : List Addr} {σ : L2.St} {H H2 : Hp} (h : StD K (hid H O) S O2 ρ σ H2) : Same (hid H (O ++ S)) (hid H2 (O2 ++ S)) := fun b o e => by
  have hH := hid_sub b o e
  have nO : b ∉ O := fun z => by
    unfold hid at e
    rw [if_pos (List.mem_append_left _ z)] at e
    cases e
  have nS : b ∉ S := fun z => by
    unfold hid at e
    rw [if_pos (List.mem_append_right _ z)] at e
    cases e
  have h1 : hid H O b = some o := hid_at hH nO
  refine hid_at (h.sm _ _ h1) fun z => ?_
  rcases List.mem_append.mp z with z | z
  · rw [(h.lst b z).1] at h1
    cases h1
  · exact nS z
theorem dom_up {H0 : Hp} {S O : List Addr} {σ : L2.St} {H : Hp} (hd : Dom H0 S) (h : StD K H0 S O ρ σ H) : Dom (hid H O) S := hd.same h.up.2
/-- for x in ..: I i holds ahead of turn i -/
theorem x_for {wi : TI} {g : TG} {tb : TS} {ds : List PyData} (I : Nat → STt → Prop) (hw : EvI K wi (vs ρ) ds) (h0 : I 0 ρ)
    (hs : ∀ i d ρ', ds[i]? = some d → I i ρ' → ∃ L, EvG K g d L ∧ ExD K tb (putL ρ' L) { nx := I (i + 1), ct := I (i + 1), bk := P.nx, rt := P.rt, rf := P.rf })
    (he : ∀ ρ', I ds.length ρ' → P.nx ρ') : ExD K (tFor wi g tb) ρ P := fun S O H0 D σ H hd st p => by
  refine hw (O ++ S) σ H _ (st.domO hd) st.env fun J H1 s1 wk => ?_
  have st1 := st.same s1
  obtain ⟨stu, eu⟩ := st1.up
  have hdu := hd.same eu
  have pu := p.base eu
  refine ⟨fun i m σ2 H2 => m = ds.length - i ∧ i ≤ ds.length ∧ ∃ ρ2 O2, I i ρ2 ∧ StD K (hid H1 O) S O2 ρ2 σ2 H2, ⟨_, rfl, Nat.zero_le _, ρ, O, h0, stu⟩, ?_⟩
  rintro i m σ2 H2 ⟨rfl, hi, ρ2, O2, hI, st2⟩
  have wk2 := wk i (O2 ++ S) H2 (st2.domO hdu) st2.walk
  by_cases hlt : i < ds.length
  · have hdi := List.getElem?_eq_getElem hlt
    obtain ⟨w1, w2⟩ := wk2.1 _ hdi
    obtain ⟨L, hg, hb⟩ := hs i _ ρ2 hdi hI
    refine .inr ⟨w1, fun σ' H' => ∃ ρ' O', I (i + 1) ρ' ∧ StD K (hid H1 O) S O' ρ' σ' H', fun σ' H' ⟨ρ', O', q1, q2⟩ => ⟨_, by omega, rfl, hlt, ρ', O', q1, q2⟩, fun x H3 hy => ?_⟩
    obtain ⟨s3, r3⟩ := w2 x H3 hy
    obtain ⟨ws, rw_, f⟩ := hg (O2 ++ S) H3 x r3
    refine f σ2 _ ?_
    refine hb S O2 (hid H1 O) _ _ H3 hdu ((st2.same s3).putV rw_) ⟨fun O' ρ' σ' H' q1 q2 => ⟨ρ', O', q1, q2⟩, pu.rt, fun O' ρ' σ' H' q1 q2 => pu.nx O' ρ' σ' H' q1 q2, fun O' ρ' σ' H' q1 q2 => ⟨ρ', O', q1, q2⟩, pu.rf⟩
  · have ei : i = ds.length := by omega
    exact .inl ⟨wk2.2 (by omega), pu.nx O2 ρ2 σ2 H2 (he ρ2 (by rw [← ei]; exact hI)) st2⟩
/-- while: I with a measure -/
theorem x_while {c : TT} {tb : TS} (I : STt → Prop) (μ : STt → Nat) (h0 : I ρ) (hs : ∀ ρ', I ρ' → ∃ b, EvB K c (vw ρ') b ∧
      (b = true → ExD K tb ρ' { nx := fun z => I z ∧ μ z < μ ρ', ct := fun z => I z ∧ μ z < μ ρ', bk := P.nx, rt := P.rt, rf := P.rf }) ∧ (b = false → P.nx ρ')) : ExD K (tWhile c tb) ρ P := fun S O H0 D σ H hd st p => by
  refine ⟨fun m σ2 H2 => ∃ ρ2 O2, m = μ ρ2 ∧ I ρ2 ∧ StD K H0 S O2 ρ2 σ2 H2, ⟨_, ρ, O, rfl, h0, st⟩, ?_⟩
  rintro m σ2 H2 ⟨ρ2, O2, rfl, hI, st2⟩
  obtain ⟨b, hc, ht, hf⟩ := hs ρ2 hI
  refine hc S σ2 H2 _ (hd.same st2.sm) (st2.envW hd) fun H3 s3 => ?_
  cases b with
  | false => exact L2.iteF (p.nx O2 ρ2 σ2 H3 (hf rfl) (st2.same s3))
  | true =>
    refine L2.iteT ⟨fun σ' H' => ∃ ρ' O', (I ρ' ∧ μ ρ' < μ ρ2) ∧ StD K H0 S O' ρ' σ' H', fun σ' H' ⟨ρ', O', q1, q2⟩ => ⟨_, q1.2, ρ', O', rfl, q1.1, q2⟩, ?_⟩
    exact ht rfl S O2 H0 _ σ2 H3 hd (st2.same s3) ⟨fun O' ρ' σ' H' q1 q2 => ⟨ρ', O', q1, q2⟩, p.rt, fun O' ρ' σ' H' q1 q2 => p.nx O' ρ' σ' H' q1 q2, fun O' ρ' σ' H' q1 q2 => ⟨ρ', O', q1, q2⟩, p.rf⟩

/-! ### a def -/
def startE (N : List Str) (ds : List PyData) : STt := ds.map .dat ++ List.replicate (N.length - ds.length) .no
theorem start_ok {N : List Str} {H : Hp} {S : List Addr} {xs : List V} {ds : List PyData} (r : RpAll K (hid H S) xs ds) : StD K H S [] (startE N ds) (L2.start N xs) H := by
  have hl := r.len
  refine ⟨by unfold startE L2.start; simp [hl], fun i d q => ?_, fun i es q => ?_, fun i j es fs a q _ _ _ => ?_, fun a ha => (by cases ha), Same.refl _⟩
  · unfold startE at q
    by_cases hi : i < ds.length
    · rw [List.getElem?_append_left (by simpa using hi), List.getElem?_map, List.getElem?_eq_getElem hi] at q
      cases q
      obtain ⟨v, hv, rv⟩ := r.at (List.getElem?_eq_getElem hi)
      refine ⟨v, ?_, rv⟩
      unfold L2.start
      rw [List.getElem?_append_left (by rw [List.length_map, hl]; exact hi), List.getElem?_map, hv]
      rfl
    · rw [List.getElem?_append_right (by simpa using hi)] at q
      rw [List.getElem?_replicate] at q
      split at q <;> cases q
  · exfalso
    unfold startE at q
    by_cases hi : i < ds.length
    · rw [List.getElem?_append_left (by simpa using hi), List.getElem?_map, List.getElem?_eq_getElem hi] at q
      cases q
    · rw [List.getElem?_append_right (by simpa using hi), List.getElem?_replicate] at q
      split at q <;> cases q
  · exfalso
    unfold startE at q
    by_cases hi : i < ds.length
    · rw [List.getElem?_append_left (by simpa using hi), List.getElem?_map, List.getElem?_eq_getElem hi] at q
      cases q
    · rw [List.getElem?_append_right (by simpa using hi), List.getElem?_replicate] at q
      split at q <;> cases q
/-- from a def's body to its promise -/
theorem fn_ok {Pg : Program} {w : World} {mg : Str → Option Value} {base : Heap} {x qual : Str} {st : Stmt} {f : Addr} {fd : FuncData} {N ps : List Str} {k : Nat} {pre : List PyData → Prop} {g : List PyData → PyData}
    (F : Fun K x qual st f fd) (Sc : FnScope N ps (defScope st)) (len : ∀ ds, pre ds → ds.length = ps.length)
    (hbody : ∀ (cdv : Value) (A : Around) (outer : List PySem.Env) (s : Shared) (H : Hp) (E : XK), Room k (A.deeper (envOfC qual (defScope st) s.heap.objs.size f cdv)) →
      ∃ t, PSs (cxOf CX0 Pg w K mg base N qual (defScope st) f cdv A outer s H E).nox (defBody st) t ∧ ∀ ds, pre ds → ExD K t (startE N ds) { nx := fun _ => g ds = .none, rt := fun d => d = g ds }) : FnOk Pg w K mg base CX0 (k + 1) f fd ps (spD K pre g) := by
  refine F.ok Sc (fun vs H Q E h => ?_) fun cdv A outer s H vs Q E hr h => ?_
  · obtain ⟨S, ds, _, r, hp, _⟩ := h
    rw [r.len]
    exact len ds hp
  · obtain ⟨S, ds, hd, r, hp, hQ⟩ := h
    obtain ⟨t, ht, hx⟩ := hbody cdv A outer s H E hr
    refine ⟨t, ht, hx ds hp S [] H _ _ H hd (start_ok r) ⟨fun O ρ σ H' h st => ?_, fun d v H' h s r => ?_, fun _ _ _ _ h => h.elim, fun _ _ _ _ h => h.elim, fun _ _ _ _ h => h.elim⟩⟩
    · refine hQ _ _ st.sm ?_
      rw [h]
      exact .non
    · rw [h] at r
      exact hQ v H' s r
/-! ### the law's own end -/
def spLaw (K : PySem.W.Frag) : Sp := fun vs H Q _ => ∃ (a : Addr) (ns : List Int), vs = [.ref a] ∧ SqL K H a (ns.map V.int) ∧ Only H ∧ ns.length ≤ 63 ∧ ∀ H', Q (.bl true) H'
theorem law_ok {Pg : Program} {w : World} {mg : Str → Option Value} {base : Heap} {f : Addr} {fd : FuncData} {k : Nat} {g : List PyData → PyData}
    (F : FnOk Pg w K mg base CX0 k f fd ["script"] (spD K (fun ds => ∃ ns : List Int, ds = [scrD ns] ∧ ns.length ≤ 63) g)) (hg : ∀ ns : List Int, ns.length ≤ 63 → g [scrD ns] = .bool true) :
    FnOk Pg w K mg base CX0 k f fd ["script"] (spLaw K) := by
  refine F.imp (fun vs H Q E h => ?_)
  obtain ⟨a, ns, rfl, hS, hO, hl, q⟩ := h
  have hs : ScrAt K H a (ns.map V.int) := by
    rcases hS with (z | ⟨o, z⟩) | z
    · rcases hO a with y | ⟨o, xs, y⟩
      · rw [y] at z
        cases z
      · rw [y] at z
        cases z
    · exact .inl ⟨o, z⟩
    · exact .inr z
  have hh : hid H [] = H := by
    funext b
    unfold hid
    rw [if_neg (by simp)]
  refine ⟨[], [scrD ns], fun a h => (by cases h), RpAll.cons (by rw [hh]; exact Rp.scr hs) RpAll.nil, ⟨ns, rfl, hl⟩, fun v H' s r => ?_⟩
  rw [hg ns hl] at r
  rw [r.blEq]
  exact q H'
end Dx
namespace Dx
open PySem PySem.Spec L2
open PyProof.Rows hiding St
/-! ### set(xs) of a list of ints -/
def ledOf (w : World) : Bool := !w.params.followText "set-order"
def newSet (w : World) : Obj := { cls := .type "set", dict := none, data := .set #[] 0 (.fresh 0 0 (ledOf w)) }
section
variable {P : Program} {w : World} {A : Around} {E : Value → Shared → Prop} {s : Shared}
theorem set_new_led (v : Value) {Q₁ : Value → Shared → Prop} (h : Q₁ (.ref s.heap.objs.size) { s with heap := s.heap.push (newSet w) }) :
    codeAny (model P w) A (.call (.builtin "set.__new__") ⟨[.type "set", v], []⟩) (wants Q₁ E) s := code_set_led1 v h
set_option maxRecDepth 100000 in
set_option maxHeartbeats 3200000 in
theorem call_setI {l : Addr} {its : Array Value} (ns : List Int) {Q : Value → Shared → Prop} (nh : A.handled = none) (isl : s.heap.IsList l its) (hints : IntsAre its.toList ns) (room : ns.length + 1 < scanBound)
    (k : ∀ (g : Heap) (t c : Nat), SetR w g s.heap.objs.size (fun j => decide (j ∈ ns)) c → c ≤ ns.length → (∀ b o, s.heap.get? b = some o → g.get? b = some o) → Q (.ref s.heap.objs.size) { s with heap := g, toks := t }) :
    wpAny (model P w) A (call (.type "set") [.ref l]) Q E s := by
  have sz : its.size = ns.length := by
    rw [← Array.length_toList]
    exact IntsAre.length hints
  obtain ⟨c0, t0, m0⟩ := F.called_set.mro
  have x1 := F.called_set.made
  have x2 := F.called_set.sub
  refine wpAny_call <| codeAny_of_tree ?_
  show wpAny _ _ (callAny (.type "set") _) _ _ s
  refine wpAny_pure ⟨Code.quiet_builtin _ (by decide +kernel),
    codeAny_builtin F.entry_type_call ?_⟩
  rw [Around.under_plain (weight_type_call_type "set" [Value.ref l] []) (by rfl)]
  have x3 := F.called_set.notType
  have x4 := F.called_set.canCreate
  have x5 := F.typeCall_set_1 (.ref l)
  repeat any_goals (first | assumption | wp_step)
  refine codeAny_mono (set_new_led (Value.ref l) (E := E) (Q₁ := fun ob s₁ => ob = .ref s.heap.objs.size ∧ s₁ = { s with heap := s.heap.push (newSet w) }) ⟨rfl, rfl⟩) fun r s₁ hr => ?_
  cases r with
  | error e => exact hr
  | ok fl =>
    cases fl with
    | ret ob =>
      obtain ⟨rfl, rfl⟩ := hr
      have a1 : (s.heap.push (newSet w)).get? s.heap.objs.size = some (newSet w) := Heap.get?_push_size _ rfl
      have a2 : Shared.TypeIs { s with heap := s.heap.push (newSet w) } (.ref s.heap.objs.size) "set" := ⟨_, a1, rfl⟩
      have x6 := F.called_set.init.lookup
      have x7 := F.called_set.init.bind (.ref s.heap.objs.size)
      repeat any_goals (first | assumption | wp_step)
      refine codeAny_mono (codeAny_call_builtin (R := wants (fun r s₂ => r = .none ∧ ∃ g t c, s₂ = { s with heap := g, toks := t } ∧ SetR w g s.heap.objs.size (fun j => decide (j ∈ ns)) c ∧ c ≤ ns.length ∧ (∀ b o, s.heap.get? b = some o → g.get? b = some o)) E) F.called_set.init.plain F.entry_set_init (check_set_init_1 a2 ?_)) fun r₂ s₂ q₂ => ?_
      · obtain ⟨ol, p1, p2, nl, p3⟩ := isl
        obtain ⟨ocl, odi, oda, osl⟩ := ol
        simp only at p2 p3
        subst p2 p3
        have p4 : (s.heap.push (newSet w)).get? l = some { cls := .type "list", dict := odi, data := .seq its nl, slots := osl } := Heap.get?_push_of_some _ p1
        have y1 := F.sub_list_set
        have y2 := F.sub_list_frozenset
        have y3 : (Value.type "list" == Value.type "dict") = false := by rfl
        have p5 : (s.heap.push (newSet w)).IsList l its := ⟨_, p4, rfl, nl, rfl⟩
        unfold Builtin.«set.__init__» noKeywords
        unfold Builtin.Frozenset.updateFrom
        generalize pit : pyIter = PI
        wp_walk
        subst pit
        refine wpAny_pyIter_list p5 ?_
        refine wpAny_bind <| wpAny_runValue ?_
        have below : l < s.heap.objs.size := Heap.lt_size p1
        have nh3 : A.in1.in1.in1.handled = none := by simp [nh]
        have nz : (s.heap.push (newSet w)).objs.size = s.heap.objs.size + 1 := Heap.size_push ..
        have d1 : l ≠ (s.heap.push (newSet w)).objs.size := by
          rw [nz]
          exact Nat.ne_of_lt (Nat.lt_succ_of_lt below)
        have d2 : s.heap.objs.size ∉ [(s.heap.push (newSet w)).objs.size, l] := by
          rw [nz]
          simp only [List.mem_cons, List.not_mem_nil, or_false, not_or]
          exact ⟨Nat.ne_of_lt (Nat.lt_succ_self _), Nat.ne_of_gt below⟩
        have vals : ∀ (i : Nat) (v : Value), its[i]? = some v → ∃ z t, ns[i]? = some z ∧ v = .int z t := fun i v hv => by
          have hi : i < ns.length := by
            rw [← sz]
            exact (Array.getElem?_eq_some_iff.mp hv).1
          obtain ⟨t, e⟩ := hints.int_at i v (by rw [Array.getElem?_toList]; exact hv)
          exact ⟨ns[i], t, List.getElem?_eq_getElem hi, by rw [e, List.getD_eq_getElem?_getD, List.getElem?_eq_getElem hi]; rfl⟩
        refine set_update_ints ((Walks.list nh3 _ l d1 its).toS) s.heap.objs.size d2 ns sz room vals (its.size - 0) 0 _ rfl (Nat.zero_le _) ⟨⟨_, Heap.get?_push_size _ rfl, rfl, rfl⟩, p5.push _⟩ ?s0 ?s1
        case s0 => exact ⟨0, Nat.le_refl 0, setR_new_at (Heap.get?_push_of_some _ a1)⟩
        case s1 =>
          intro s' c' mv hc' hS'
          obtain ⟨g, g2, d', t', os'⟩ := s'
          have e1 : g2 = s.gens := mv.gens
          have e2 : d' = s.drawn := mv.drawn
          have e3 : os' = s.os := mv.os
          subst e1 e2 e3
          refine wpAny_pure ?_
          show wpAny _ _ (ret Value.none) _ _ _
          refine wpAny_pure ⟨rfl, g, t', c', rfl, hS', by rw [← sz]; exact hc', fun b o e => ?_⟩
          have lt := Heap.lt_size e
          refine mv.heap b o ?_ (Heap.get?_push_of_some _ (Heap.get?_push_of_some _ e))
          rw [nz]
          simp only [List.mem_cons, List.not_mem_nil, or_false, not_or]
          exact ⟨Nat.ne_of_lt lt, Nat.ne_of_lt (Nat.lt_succ_of_lt lt)⟩
      · cases r₂ with
        | error e => exact q₂
        | ok fl₂ =>
          cases fl₂ with
          | ret r =>
            obtain ⟨rfl, g, t, c', rfl, u1, u2, u3⟩ := q₂
            repeat any_goals (first | assumption | wp_step)
            exact k _ _ _ u1 u2 u3
          | _ => exact q₂.elim
    | _ => exact hr.elim
end
end Dx
namespace Dx
open PySem PySem.Spec L2
open PyProof.Rows hiding St

/-! ### t[lo::-1] of a tuple -/
theorem places_back (m : Nat) : Builtin.Slice.slicePlaces ((m : Int) - 1) (-1) (-1) = m := by
  unfold Builtin.Slice.slicePlaces
  rw [if_neg (by decide)]
  by_cases h : m = 0
  · subst h
    decide
  · rw [if_pos (by omega)]
    show (((m : Int) - 1 - -1 - 1) / 1 + 1).toNat = m
    rw [Int.ediv_one]
    omega
theorem pick_back {α : Type} (xs : List α) : ∀ (m : Nat), m ≤ xs.length → (List.range m).filterMap (fun (k : Nat) => xs[((m : Int) - 1 + (k : Int) * (-1)).toNat]?) = (xs.take m).reverse
  | 0, _ => by simp
  | m + 1, hm => by
    have ih := pick_back xs m (by omega)
    have hg : xs[m]? = some xs[m] := List.getElem?_eq_getElem (by omega)
    have e0 : (((m + 1 : Nat) : Int) - 1 + ((0 : Nat) : Int) * (-1)).toNat = m := by omega
    rw [List.range_succ_eq_map, List.filterMap_cons, List.filterMap_map, List.take_add_one, List.reverse_append, e0, hg]
    have e1 : ((fun (k : Nat) => xs[(((m + 1 : Nat) : Int) - 1 + (k : Int) * (-1)).toNat]?) ∘ Nat.succ) = fun (k : Nat) => xs[((m : Int) - 1 + (k : Int) * (-1)).toNat]? := by
      funext k
      show xs[(((m + 1 : Nat) : Int) - 1 + ((k + 1 : Nat) : Int) * (-1)).toNat]? = _
      congr 1
      omega
    rw [e1, ih]
    rfl
section
variable {prog : Program} {w : World} {A : Around} {E : Value → Shared → Prop} {s : Shared}
theorem applied_back {sl : Addr} {vl vu vk : Value} {lo : Option Int} {n m : Nat} {Q : Int × Int × Nat → Shared → Prop} (hs : s.heap.IsSliceOf sl vl vu vk) (pl : IsPart vl lo) (pu : IsPart vu none) (pk : IsPart vk (some (-1)))
    (hm : Builtin.Slice.sliceAdjust lo none (-1) (n : Int) = ((m : Int) - 1, -1)) (h : Q ((m : Int) - 1, -1, m) s) : wpAny (model prog w) A (Builtin.Slice.sliceApplied (.ref sl) (pure (n : Int))) Q E s := by
  obtain ⟨os, o1, o2, o3⟩ := id hs
  unfold Builtin.Slice.sliceApplied
  unfold Builtin.Slice.sliceFields
  refine wpAny_bind (wpAny_bind (wpAny_field o1 o3 (x := vl) rfl ?_))
  refine wpAny_bind (wpAny_field o1 o3 (x := vu) rfl ?_)
  refine wpAny_bind (wpAny_field o1 o3 (x := vk) rfl (wpAny_pure ?_))
  refine wpAny_bind (HT.slicePart_ pk ?_)
  show wpAny _ _ (if ((-1 : Int) == 0) = true then _ else _) _ _ s
  rw [if_neg (by decide)]
  refine wpAny_bind (HT.slicePart_ pl ?_)
  refine wpAny_bind (HT.slicePart_ pu ?_)
  refine wpAny_bind (wpAny_pure ?_)
  show wpAny _ _ (match Builtin.Slice.sliceAdjust lo none (-1) (n : Int) with | (a, b) => pure (a, (-1 : Int), Builtin.Slice.slicePlaces a b (-1))) _ _ s
  rw [hm]
  show wpAny _ _ (pure (((m : Int) - 1), (-1 : Int), Builtin.Slice.slicePlaces ((m : Int) - 1) (-1) (-1))) _ _ s
  rw [places_back]
  exact wpAny_pure h
theorem item_back {t sl : Addr} {its : Array Value} {vl vu vk : Value} {lo : Option Int} {m : Nat} {Q : Value → Shared → Prop} (ht : IsTup s.heap t its) (hs : s.heap.IsSliceOf sl vl vu vk) (pl : IsPart vl lo) (pu : IsPart vu none) (pk : IsPart vk (some (-1)))
    (hm : Builtin.Slice.sliceAdjust lo none (-1) (its.size : Int) = ((m : Int) - 1, -1)) (hl : m ≤ its.size) (hz : its.size ≤ sizeLine)
    (h : Q (.ref s.heap.objs.size) { s with heap := s.heap.push { cls := .type "tuple", data := .seq (its.toList.take m).reverse.toArray } }) : wpAny (model prog w) A (getItem (.ref t) (.ref sl)) Q E s := by
  have fits : sizeOk (.seq (its.toList.take m).reverse.toArray) := by
    show (its.toList.take m).reverse.toArray.size ≤ sizeLine
    rw [List.size_toArray, List.length_reverse, List.length_take, Array.length_toList]
    omega
  obtain ⟨os, o1, o2, o3⟩ := id hs
  have isS : s.TypeIs (.ref sl) "slice" := ⟨os, o1, o2⟩
  unfold getItem
  try with_reducible refine wpAny_holding ?_
  try refine wpAny_bind (wpAny_pure ?_)
  refine wpAny_bind <| wpAny_sequenceKey ht.typeIs (by decide) ?_
  refine wpAny_bind <| wpAny_callSpecial?_slot (name := Str.ofString "__getitem__") ht.typeIs slot_tuple_getitem ?_
  refine wpAny_call_entry slot_tuple_getitem ht.typeIs entry_tuple_getitem ?_ (args_tuple_getitem _ _)
  show wpAny _ _ (Builtin.Tuple.tupleItemsOf (Value.ref t) >>= _) _ _ s
  refine wpAny_bind <| tupleItemsOf_ ht ?_
  refine wpAny_bind <| wpAny_typeOf isS ?_
  rw [if_pos (by decide)]
  refine wpAny_bind <| applied_back hs pl pu pk hm ?_
  have nw : ¬ ((((m : Int) - 1 == 0) && ((-1 : Int) == 1) && (m == its.size)) = true) := by
    intro z
    rw [Bool.and_eq_true, Bool.and_eq_true] at z
    exact absurd z.1.2 (by decide)
  show wpAny _ _ (if ((((m : Int) - 1 == 0) && ((-1 : Int) == 1) && (m == its.size)) = true) then _ else _) _ _ s
  rw [if_neg nw]
  have ep : (List.range m).filterMap (fun (k : Nat) => its[((m : Int) - 1 + (k : Int) * (-1)).toNat]?) = (its.toList.take m).reverse := by
    rw [← pick_back its.toList m (by rw [Array.length_toList]; exact hl)]
    congr 1
    funext k
    rw [Array.getElem?_toList]
  rw [ep]
  first
    | exact wpAny_bind (m := Builtin.Tuple.tupleExact _) (wpAny_newObj_type (wpAny_pure ⟨_, rfl, wpAny_pure h⟩) fits)
    | exact wpAny_bind (wpAny_bind (m := Builtin.Tuple.tupleExact _) (wpAny_newObj_type (wpAny_pure (wpAny_pure ⟨_, rfl, wpAny_pure h⟩)) fits))
    | exact wpAny_bind (wpAny_bind (m := Builtin.Tuple.tupleExact _) (wpAny_newObj_type (wpAny_pure ⟨_, rfl, wpAny_pure h⟩) fits))
    | exact wpAny_bind (m := Builtin.Tuple.tupleExact _) (wpAny_newObj_type (wpAny_bind (wpAny_pure (wpAny_pure ⟨_, rfl, wpAny_pure h⟩))) fits)
end
section
variable {X : Cx}
def tStepT (K : PySem.W.Frag) (te : TE) (tl th tk : TO) : TE := fun σ H Q => te σ H fun x H1 => tl σ H1 fun l H2 => th σ H2 fun u H3 => tk σ H3 fun o H4 => u = none ∧ o = some (-1) ∧ ∃ a xs m, x = .ref a ∧ SqT K H4 a xs ∧
  Builtin.Slice.sliceAdjust l none (-1) ((xs.length : Nat) : Int) = (((m : Nat) : Int) - 1, -1) ∧ m ≤ xs.length ∧ ∀ p, H4 p = none → Q (.ref p) (upd H4 p (.tup (xs.take m).reverse))
theorem pe_stepT {e : Expr} {te : TE} {lo hi : Option Expr} {st : Expr} {tl th tk : TO} {p3 pos : Pos} (he : PE X e te) (hl : PO X lo tl) (hh : PO X hi th) (hk : PO X (some st) tk) : PE X (.Subscript e (.Slice lo hi (some st) p3) pos) (tStepT X.K te tl th tk) := by
  refine ⟨fun pins s σ H Q I h => ?_⟩
  refine Subscript_ <| thn (he.run pins s σ H _ I h) fun v s1 ⟨x, H1, I1, r1, q1⟩ => ?_
  refine wpAny_Slice <| thn (hl.run pins s1 σ H1 _ I1 q1) fun vl s2 ⟨l, H2, I2, pl, q2⟩ => ?_
  refine thn (hh.run pins s2 σ H2 _ I2 q2) fun vu s3 ⟨u, H3, I3, pu, q3⟩ => ?_
  refine thn (hk.run pins s3 σ H3 _ I3 q3) fun vk s4 ⟨o, H4, I4, pk, q4⟩ => ?_
  obtain ⟨eu, eo, a, xs, m, ex, hx, hm, hl, q⟩ := q4
  subst ex eu eo
  cases r1
  have I5 : Inv X pins σ H4 { s4 with heap := s4.heap.push { cls := .type "slice", data := .fields #[vl, vu, vk] } } := I4.kept (t' := s4.toks) fun b ob z => Heap.get?_push_of_some _ z
  obtain ⟨its, rv, ht, hz⟩ := I5.tuple hx
  have len := rv.length
  show wpAny (model X.prog X.w) X.A (subscriptTail e (.Slice lo hi (some st) p3) (.ref a) (.ref s4.heap.objs.size)) (EP X pins σ Q) X.xe { s4 with heap := s4.heap.push { cls := .type "slice", data := .fields #[vl, vu, vk] } }
  refine tail_any (ops := [.ref a, .ref s4.heap.objs.size]) ht.typeIs (slot_tuple_getitem.lookup) ?_ (by with_unfolding_all rfl)
  refine item_back ht (Heap.IsSliceOf.new _ vl vu vk) pl pu pk (m := m) (by rw [List.size_toArray, ← len]; exact hm) (by rw [List.size_toArray, ← len]; exact hl) (by rw [List.size_toArray, ← len]; exact hz) ?_
  refine ⟨.ref _, _, I5.laid (t' := s4.toks) (o := .tup (xs.take m).reverse) (fun b ob z => Heap.get?_push_of_some _ z) (Nat.le_refl _) ?_, rfl, q _ (I5.hok.fresh (Nat.le_refl _))⟩
  exact ⟨by rw [List.length_reverse, List.length_take]; omega, _, (rv.take m).reverse, IsTup.new _ _⟩
end
variable {K : PySem.W.Frag} {ρ : Env}
theorem e_stepT {te : TE} {tl th tk : TO} {ds : List PyData} {lo : Option Int} {m : Nat} (h : EvD K te ρ (.tuple ds)) (hl : EvO K tl ρ lo) (hh : EvO K th ρ none) (hk : EvO K tk ρ (some (-1)))
    (hm : Builtin.Slice.sliceAdjust lo none (-1) ((ds.length : Nat) : Int) = (((m : Nat) : Int) - 1, -1)) (hle : m ≤ ds.length) : EvD K (tStepT K te tl th tk) ρ (.tuple (ds.take m).reverse) := fun S σ H Q hd he hq =>
  h S σ H _ hd he fun x H1 s1 r1 => hl S σ H1 _ (hd.same s1) (he.same s1) fun H2 s2 => by
    have s12 := s1.trans s2
    refine hh S σ H2 _ (hd.same s12) (he.same s12) fun H3 s3 => ?_
    have s13 := s12.trans s3
    refine hk S σ H3 _ (hd.same s13) (he.same s13) fun H4 s4 => ?_
    have s := s13.trans s4
    obtain ⟨a, xs, e, ha, rx⟩ := (r1.same (hid_same ((s2.trans s3).trans s4))).tupE
    refine ⟨rfl, rfl, a, xs, m, e, sqT_same hid_sub ha, by rw [rx.len]; exact hm, by rw [rx.len]; exact hle, fun p hp => ?_⟩
    exact hq _ _ (s.trans (same_new hp)) (.tup (.inl (.inl (hid_at upd_same ((hd.same s).fresh hp)))) (((rx.take m).rev).same (hid_same (same_new hp))))
theorem adj_none (n : Nat) : Builtin.Slice.sliceAdjust none none (-1) (n : Int) = ((n : Int) - 1, -1) := rfl
theorem adj_two (n : Nat) (h : 1 ≤ n) : Builtin.Slice.sliceAdjust (some (-2)) none (-1) (n : Int) = (((n - 1 : Nat) : Int) - 1, -1) := by
  show (((if (-2 : Int) < 0 then max (-2 + (n : Int)) (-1) else min (-2) ((n : Int) - 1)) : Int), (-1 : Int)) = _
  rw [if_pos (by decide)]
  congr 1
  omega

end Dx
namespace Dx
open PySem PySem.Spec L2
open PyProof.Rows hiding St

/-! ### a def's promise where no repr is under way around it -/
def Clr (A : Around) : Prop := A.guards = some []
structure FnG (P : Program) (w : World) (K : PySem.W.Frag) (mg : Str → Option Value) (base : Heap) (CX : CXT) (k : Nat) (f : Addr) (fd : FuncData) (ps : List Str) (sp : Sp) : Prop where
  ln : ∀ xs H Q E, sp xs H Q E → xs.length = ps.length
  go : ∀ (A : Around) (out : List PySem.Env) (s : Shared) (H : Hp) (ar : Args) (us : List Value) (xs : List V) (Q : VK) (E : XK), Clr A → Room k A → Env0 P w K mg base A out s H →
    BindsTo s fd ar (ps.zip us) → Vals xs us → sp xs H Q E → codeAny (model P w) A (.call (.ref f) ar) (CR CX out P w H s Q E) s
theorem FnG.imp {P : Program} {w : World} {K : PySem.W.Frag} {mg : Str → Option Value} {base : Heap} {CX : CXT} {k : Nat} {f : Addr} {fd : FuncData} {ps : List Str} {sp sp' : Sp} (F : FnG P w K mg base CX k f fd ps sp)
    (h : ∀ xs H Q E, sp' xs H Q E → sp xs H Q E) : FnG P w K mg base CX k f fd ps sp' :=
  ⟨fun xs H Q E z => F.ln xs H Q E (h _ _ _ _ z), fun A out s H ar us xs Q E c r e b v z => F.go A out s H ar us xs Q E c r e b v (h _ _ _ _ z)⟩
section
variable {P : Program} {w : World} {K : PySem.W.Frag} {mg : Str → Option Value} {base : Heap} {CX : CXT}
/-- by the def's body -/
theorem Fun.okG {x qual : Str} {st : Stmt} {f : Addr} {fd : FuncData} {N ps : List Str} {k : Nat} {sp : Sp} (F : Fun K x qual st f fd) (Sc : FnScope N ps (defScope st)) (ln : ∀ xs H Q E, sp xs H Q E → xs.length = ps.length)
    (body : ∀ (cdv : Value) (A : Around) (out : List PySem.Env) (s : Shared) (H : Hp) (xs : List V) (Q : VK) (E : XK), Clr (A.deeper (envOfC qual (defScope st) s.heap.objs.size f cdv)) → Room k (A.deeper (envOfC qual (defScope st) s.heap.objs.size f cdv)) → sp xs H Q E →
      ∃ t, PSs (cxOf CX P w K mg base N qual (defScope st) f cdv A out s H E) (defBody st) t ∧ t { nx := fun _ H' => Q .non H', rt := Q } (L2.start N xs) H) : FnG P w K mg base CX (k + 1) f fd ps sp := by
  obtain ⟨oc, od, kV, doc, pm, an, cdv, ct, osl, rfl, lk, hcd⟩ := F.ex
  refine ⟨ln, fun A out s H ar us xs Q E clr room env bind vals z => ?_⟩
  have keep : ∀ b o, base.get? b = some o → s.heap.get? b = some o := fun b o e => (env.bs b o e).1
  have KX := env.mod.kin.keeps keep
  have NL := env.mod.nolimit.keeps keep
  have kinds : ∀ y ∈ ps.zip us, (defScope st).names.lookup y.1 = some .local ∨
      ((defScope st).names.lookup y.1 = some .cell ∧ ((cellsFrom (s.heap.objs.size + 1) (defScope st).names []).lookup y.1).isSome = true) := by
    rintro ⟨n, v⟩ hy
    refine (Sc.par n (List.of_mem_zip hy).1).imp id fun q => ⟨q, ?_⟩
    exact PySem.W.cellsFrom_some _ _ _ (Or.inl q)
  refine codeAny_call_function room.depth (KX _ _ lk) rfl Sc.co Sc.gen rfl (PySem.W.codeRec_of KX hcd) (bind _ _ _ _ ?_)
  refine wpAny_newFunctionEnv_cells Sc.kind kinds fun ev hev s1 fresh => ?_
  subst hev
  refine ⟨NL.keeps fresh.toInCall.keep, codeAny_func ?_⟩
  obtain ⟨t, run, wish⟩ := body cdv A out s H xs Q E clr (room.deeper _) z
  have I0 : Inv (cxOf CX P w K mg base N qual (defScope st) f cdv A out s H E) [] (L2.start N xs) H s1 :=
    inv_start Sc room.hd env (ln _ _ _ _ z) vals fresh
  refine wpAny_mono (run.run [] s1 (L2.start N xs) H _ I0 wish) (fun fl s' got => ?_) (fun _ _ got => got)
  cases fl with
  | next =>
    obtain ⟨σ', H', J, q⟩ := got
    exact ⟨.non, H', J.os, J.bare, J.base, J.hok, rfl, q⟩
  | ret u =>
    obtain ⟨v, σ', H', J, rv, q⟩ := got
    exact ⟨v, H', J.os, J.bare, J.base, J.hok, rv, q⟩
  | brk =>
    obtain ⟨_, _, _, q⟩ := got
    cases q
  | cont =>
    obtain ⟨_, _, _, q⟩ := got
    cases q
end
section
variable {X : Cx} {CX : CXT} {k : Nat} {f : Addr} {fd : FuncData} {ps : List Str} {sp : Sp} {E : XK} {x : Str} {p pos : Pos} {e : Expr} {es : List Expr} {t : TA}
/-- f(e, ..) -/
theorem pe_callG (F : FnG X.prog X.w X.K X.mg X.base CX k f fd ps sp) (clr : Clr X.A) (room : Room k X.A) (gl : Gl X x) (at_ : X.mg x = some (.ref f)) (kp : PySem.W.keepIn X.K (.ref f) = true) (bd : Binds X.K fd ps []) (pass : Passes CX X E)
    (ha : PA X (e :: es) t) (nodbg : (x == ("__debug__" : Str)) = false := by decide) (st1 : starEach (e :: es) X.env = (false, eval e X.env) :: starEach es X.env := by rfl) (st2 : (backTo pos (starEach es X.env)).any (·.1) = false := by rfl) :
    PE X (.Call (.Name x p) (e :: es) [] pos) (tCall sp [] E t) := by
  refine ⟨fun pins s σ H Q I h => wpAny_Call_Name_kw (ld_glob I gl at_ ?_ nodbg)⟩
  refine PySem.W.callWith_K (h₀ := X.base) I.ok.mod.kin kp (thn (ha.run pos pins s σ H _ I h) fun us s1 ⟨xs, H1, I1, rv, z⟩ => ⟨I1.kIn, ?_⟩) st1 st2
  have z' : sp xs H1 Q E := by
    have z0 : sp (xs ++ []) H1 Q E := z
    rwa [List.append_nil] at z0
  have len : us.length = ps.length := by
    rw [← rv.length]
    exact F.ln _ _ _ _ z'
  have bd1 := bd s1 us I1.kIn (by rw [List.append_nil]; exact len)
  rw [List.append_nil] at bd1
  refine wpAny_call (codeAny_mono (F.go X.A X.stack s1 H1 ⟨us, []⟩ us xs Q E clr room I1.env0 bd1 rv z') fun r s' got => ?_)
  cases r with
  | error err => exact pass pins σ H1 s1 err s' I1 got
  | ok fl =>
    cases fl with
    | ret u => exact I1.after got
    | next => cases got
    | brk => cases got
    | cont => cases got
end

/-! ### repr of data -/
section
variable {X : Cx}
def rRepr (K : PySem.W.Frag) : List V → Hp → VK → Prop := fun xs H Q => ∃ a d, xs = [.ref a] ∧ Dp K H (.ref a) d ∧ d.showable = true ∧ d.hasDict = false ∧ d.depth ≤ 60 ∧ d.shown.length ≤ sizeLine ∧ Q (.str d.shown) H
theorem cr_repr {k : Nat} (clr : Clr X.A) (room : Room k X.A) : CallR X (.builtin "repr") (rRepr X.K) := by
  intro pins s σ H xs us Q I rv h
  obtain ⟨a, d, rfl, hd, h1, h2, h3, h4, q⟩ := h
  rw [Vals.ref1 rv]
  obtain ⟨as, rd⟩ := Dp.reads I d (.ref a) (.ref a) hd rfl
  refine repr_of_reads' rd h1 (PyData.noDict_hsm h2) clr (by have := room.un; omega) (fun _ _ z => z) (fun h' u tk z => ?_) h4
  exact ⟨.str d.shown, H, I.kept z, ⟨_, rfl⟩, q⟩
end

/-! ### the law's def, called by the row -/
section
variable {P : Program} {w : World} {K : PySem.W.Frag} {mg mb : Str → Option Value} {k : Nat} {fa a : Addr} {fd : FuncData} {x : Str} {sp : Sp} {s₁ : Shared} {ws : List Value} {ns : List Int}
/-- the heap in which the script alone is tracked (where the top has not written it) -/
def scrH (K : PySem.W.Frag) (a : Addr) (ws : List Value) (ns : List Int) : Hp := fun b => if b = a ∧ K.lookup a = none then some (.frz { cls := .type "list", data := .seq ws.toArray } (.lst (ns.map V.int))) else none
theorem scrH_none {b : Addr} (h : b ≠ a) : scrH K a ws ns b = none := if_neg fun z => h z.1
theorem scrH_some {b : Addr} {o : HO} (h : scrH K a ws ns b = some o) : b = a ∧ K.lookup a = none ∧ o = .frz { cls := .type "list", data := .seq ws.toArray } (.lst (ns.map V.int)) := by
  unfold scrH at h
  by_cases c : b = a ∧ K.lookup a = none
  · rw [if_pos c] at h
    exact ⟨c.1, c.2, (Option.some.inj h).symm⟩
  · rw [if_neg c] at h
    cases h
theorem scr_only : Only (scrH K a ws ns) := fun b => by
  cases e : scrH K a ws ns b with
  | none => exact .inl rfl
  | some o => exact .inr ⟨_, _, by rw [(scrH_some e).2.2]⟩
theorem lawG_call (KX : K.In s₁.heap) (nsm : s₁.heap.Ns mainGlobals mg) (nsb : s₁.heap.Ns builtinsNs mb) (bb : ∀ y : Str, y ≠ "__name__" → mb y = bootBuiltins y) (nl : s₁.heap.NoLimit) (ng : s₁.gens = #[])
    (isl : s₁.heap.get? a = some { cls := .type "list", data := .seq ws.toArray }) (hi : IntsAre ws ns) (len : ns.length ≤ sizeLine) (room : Room k callerA)
    (F : ∀ base : Heap, K.In base → base.Ns mainGlobals mg → FnG P w K mg base CX0 k fa fd [x] sp) (bd : ∀ (s : Shared) (u : Value), BindsTo s fd ⟨[u], []⟩ [(x, u)])
    (wish : ∀ H : Hp, Only H → SqL K H a (ns.map V.int) → sp [.ref a] H (fun v _ => v = .bl true) fun _ _ _ => False) :
    codeAny (model P w) callerA (.call (.ref fa) ⟨[.ref a], []⟩) (fun r s' => r = .ok (.ret (.bool true)) ∧ OldK s₁.heap s'.heap ∧ s'.os = s₁.os ∧ AllBare s'.gens) s₁ := by
  have rv := vals_ints hi
  have eqlen := hi.length
  -- what the heap of the abstract entry hides
  have back : ∀ {b : Addr} {o : Obj}, s₁.heap.get? b = some o → scrH K a ws ns b = none → (hidT s₁.heap (scrH K a ws ns)).get? b = some o := fun e z => hidT_get e z
  have dictOut : ∀ {b : Addr} {o : Obj} {es : Array DictEntry} {ep : Nat}, s₁.heap.get? b = some o → o.data = .dict es ep → scrH K a ws ns b = none := by
    intro b o es ep e d
    refine scrH_none fun z => ?_
    rw [z, isl] at e
    cases e
    cases d
  have nsBack : ∀ {b : Addr} {m : Str → Option Value}, s₁.heap.Ns b m → (hidT s₁.heap (scrH K a ws ns)).Ns b m := by
    rintro b m ⟨o, es, ep, e, d, r⟩
    exact ⟨o, es, ep, back e (dictOut e d), d, r⟩
  have kBack : K.In (hidT s₁.heap (scrH K a ws ns)) := fun b o e => back (KX b o e) (by
    cases q : scrH K a ws ns b with
    | none => rfl
    | some u =>
      obtain ⟨z1, z2, _⟩ := scrH_some q
      rw [z1, z2] at e
      cases e)
  have held : HOk P w (scrH K a ws ns) s₁.heap := fun b o e => by
    obtain ⟨z1, z2, z3⟩ := scrH_some e
    subst z1 z3
    exact ⟨isl, by rw [List.length_map]; exact len, ws, _, rv, isl⟩
  have md : Mod K mg (hidT s₁.heap (scrH K a ws ns)) := by
    obtain ⟨mc, c1, c2⟩ := nl
    exact ⟨kBack, nsBack nsm, ⟨mb, nsBack nsb, bb⟩, ⟨mc, nsBack c1, c2⟩⟩
  have env : Env0 P w K mg (hidT s₁.heap (scrH K a ws ns)) callerA [] s₁ (scrH K a ws ns) :=
    ⟨rfl, md, fun b o e => of_hidT e, Nat.le_of_eq (hidT_size _ _), trivial, fun b z => (by cases z), held, .of_eq ng⟩
  have seen : SqL K (scrH K a ws ns) a (ns.map V.int) := by
    cases q : K.lookup a with
    | none => exact .inl (.inr ⟨_, if_pos ⟨rfl, q⟩⟩)
    | some o =>
      have e := KX a o q
      rw [isl] at e
      cases e
      exact .inr ⟨_, ws.toArray, _, q, rfl, rfl, rfl, by rw [List.size_toArray, eqlen]; exact len, by simpa using rv⟩
  refine codeAny_mono ((F _ kBack (nsBack nsm)).go callerA [] s₁ _ ⟨[.ref a], []⟩ [.ref a] [.ref a] _ _ rfl room env (bd s₁ (.ref a)) (.cons rfl .nil) (wish _ scr_only seen)) fun r s' got => ?_
  cases r with
  | error err => cases got
  | ok fl =>
    cases fl with
    | next => cases got
    | brk => cases got
    | cont => cases got
    | ret u =>
      obtain ⟨v, H', os, bare, un, hok', ru, hv⟩ := got
      have hv' : v = .bl true := hv
      subst hv'
      obtain rfl : u = Value.bool true := ru
      refine ⟨rfl, OldK.of_keep fun b o e => ?_, os, bare⟩
      cases q : scrH K a ws ns b with
      | none => exact un.keep b o e q (fun z => by cases z) (fun z => by cases z)
      | some u =>
        obtain ⟨z1, z2, z3⟩ := scrH_some q
        subst z1 z3
        have g := (hok' b _ (un.frzs b _ _ q)).1
        rw [isl] at e
        cases e
        exact g
end
theorem walkG_of {l : PySem.W.OpenLaw} {n k : Nat} {q : Program} {loose : List Str} {XP : (Str → Option Value) → Heap → Prop} {YP : World → Heap → Prop} {d : DefRec} {K : Params → PySem.W.Frag} {sp : PySem.W.Frag → Sp} {x : Str}
    (most : l.most = some n) (n2 : n ≤ sizeLine) (nodef : d.params.defaults = []) (room : Room k callerA) (hY : ∀ (w : World) (h : Heap), YP w h → (K w.params).In h)
    (F : ∀ (w : World) (mg : Str → Option Value) (fa : Addr) (h : Heap), (K w.params).In h → h.Ns mainGlobals mg → mg d.name = some (.ref fa) →
      ∃ fd : FuncData, (∀ (s : Shared) (u : Value), BindsTo s fd ⟨[u], []⟩ [(x, u)]) ∧
        ∀ base : Heap, (K w.params).In base → base.Ns mainGlobals mg → FnG l.prog w (K w.params) mg base CX0 k fa fd [x] (sp (K w.params)))
    (wish : ∀ (K : PySem.W.Frag) (H : Hp) (a : Addr) (ns : List Int), ns.length ≤ n → Only H → SqL K H a (ns.map V.int) → sp K [.ref a] H (fun v _ => v = .bl true) fun _ _ _ => False) :
    PySem.W.WalkO q loose XP YP l.row.toRowW d [] (fun f vs => PySem.call f vs) := by
  refine Att.attach_call most nodef fun w s₀ s₁ mg mb fa o pm cd doc a ws ns G Y ho hd hcd hmg hobj hints hlen hg => ?_
  have KX := hY w _ Y
  obtain ⟨fd, b1, b2⟩ := F w mg fa _ KX G.T.g hmg
  exact lawG_call KX G.T.g G.T.b G.T.builtins G.T.nolimit hg hobj hints (Nat.le_trans hlen n2) room b2 b1 fun H z1 z2 => wish _ H a ns hlen z1 z2

/-! ### over data -/
variable {K : PySem.W.Frag} {ρ : Env}
theorem fnG_ok {Pg : Program} {w : World} {mg : Str → Option Value} {base : Heap} {x qual : Str} {st : Stmt} {f : Addr} {fd : FuncData} {N ps : List Str} {k : Nat} {pre : List PyData → Prop} {g : List PyData → PyData}
    (F : Fun K x qual st f fd) (Sc : FnScope N ps (defScope st)) (len : ∀ ds, pre ds → ds.length = ps.length)
    (hbody : ∀ (cdv : Value) (A : Around) (out : List PySem.Env) (s : Shared) (H : Hp) (E : XK), Clr (A.deeper (envOfC qual (defScope st) s.heap.objs.size f cdv)) → Room k (A.deeper (envOfC qual (defScope st) s.heap.objs.size f cdv)) →
      ∃ t, PSs (cxOf CX0 Pg w K mg base N qual (defScope st) f cdv A out s H E).nox (defBody st) t ∧ ∀ ds, pre ds → ExD K t (startE N ds) { nx := fun _ => g ds = .none, rt := fun d => d = g ds }) : FnG Pg w K mg base CX0 (k + 1) f fd ps (spD K pre g) := by
  refine Fun.okG F Sc (fun vs H Q E h => ?_) fun cdv A out s H vs Q E clr hr h => ?_
  · obtain ⟨S, ds, _, r, hp, _⟩ := h
    rw [r.len]
    exact len ds hp
  · obtain ⟨S, ds, hd, r, hp, hQ⟩ := h
    obtain ⟨t, ht, hx⟩ := hbody cdv A out s H E clr hr
    refine ⟨t, ht.nox, hx ds hp S [] H _ _ H hd (start_ok r) ⟨fun O ρ σ H' h st => ?_, fun d v H' h s r => ?_, fun _ _ _ _ h => h.elim, fun _ _ _ _ h => h.elim, fun _ _ _ _ h => h.elim⟩⟩
    · refine hQ _ _ st.sm ?_
      rw [h]
      exact .non
    · rw [h] at r
      exact hQ v H' s r
/-- a promise of a new list -/
def spF (K : PySem.W.Frag) (pre : List PyData → Prop) (f : List PyData → List PyData) : Sp := fun vs H Q _ =>
  ∃ (S : List Addr) (ds : List PyData), Dom H S ∧ RpAll K (hid H S) vs ds ∧ pre ds ∧ ∀ p H' xs, Same H H' → H p = none → H' p = some (.lst xs) → RpAll K (hid H' (p :: S)) xs (f ds) → Q (.ref p) H'
theorem fnF_ok {Pg : Program} {w : World} {mg : Str → Option Value} {base : Heap} {x qual : Str} {st : Stmt} {f : Addr} {fd : FuncData} {N ps : List Str} {k : Nat} {pre : List PyData → Prop} {g : List PyData → List PyData}
    (F : Fun K x qual st f fd) (Sc : FnScope N ps (defScope st)) (len : ∀ ds, pre ds → ds.length = ps.length)
    (hbody : ∀ (cdv : Value) (A : Around) (out : List PySem.Env) (s : Shared) (H : Hp) (E : XK), Clr (A.deeper (envOfC qual (defScope st) s.heap.objs.size f cdv)) → Room k (A.deeper (envOfC qual (defScope st) s.heap.objs.size f cdv)) →
      ∃ t, PSs (cxOf CX0 Pg w K mg base N qual (defScope st) f cdv A out s H E).nox (defBody st) t ∧ ∀ ds, pre ds → ExD K t (startE N ds) { nx := fun _ => False, rf := fun l => l = g ds }) : FnG Pg w K mg base CX0 (k + 1) f fd ps (spF K pre g) := by
  refine Fun.okG F Sc (fun vs H Q E h => ?_) fun cdv A out s H vs Q E clr hr h => ?_
  · obtain ⟨S, ds, _, r, hp, _⟩ := h
    rw [r.len]
    exact len ds hp
  · obtain ⟨S, ds, hd, r, hp, hQ⟩ := h
    obtain ⟨t, ht, hx⟩ := hbody cdv A out s H E clr hr
    refine ⟨t, ht.nox, hx ds hp S [] H _ _ H hd (start_ok r) ⟨fun _ _ _ _ h => h.elim, fun _ _ _ h => h.elim, fun _ _ _ _ h => h.elim, fun _ _ _ _ h => h.elim, fun l p xs H' h s n z r => ?_⟩⟩
    rw [h] at r
    exact hQ p H' xs s n z r
theorem f_call {pre : List PyData → Prop} {f : List PyData → List PyData} {E : XK} {t : TA} {ds : List PyData} (h : EvL K t ρ ds) (hp : pre ds) : EvF K (tCall (spF K pre f) [] E t) ρ (f ds) := fun S σ H Q hd he hq =>
  h S σ H _ hd he fun xs H1 s1 r1 => by
    show spF K pre f (xs ++ []) H1 Q E
    rw [List.append_nil]
    exact ⟨S, ds, hd.same s1, r1, hp, fun p H' ys s n z r => hq p H' ys (s1.trans s) (s1.free n) z r⟩
theorem lawG_ok {Pg : Program} {w : World} {mg : Str → Option Value} {base : Heap} {f : Addr} {fd : FuncData} {k : Nat} {g : List PyData → PyData}
    (F : FnG Pg w K mg base CX0 k f fd ["script"] (spD K (fun ds => ∃ ns : List Int, ds = [scrD ns] ∧ ns.length ≤ 63) g)) (hg : ∀ ns : List Int, ns.length ≤ 63 → g [scrD ns] = .bool true) :
    FnG Pg w K mg base CX0 k f fd ["script"] (spLaw K) := by
  refine F.imp (fun vs H Q E h => ?_)
  obtain ⟨a, ns, rfl, hS, hO, hl, q⟩ := h
  have hs : ScrAt K H a (ns.map V.int) := by
    rcases hS with (z | ⟨o, z⟩) | z
    · rcases hO a with y | ⟨o, xs, y⟩
      · rw [y] at z
        cases z
      · rw [y] at z
        cases z
    · exact .inl ⟨o, z⟩
    · exact .inr z
  have hh : hid H [] = H := by
    funext b
    unfold hid
    rw [if_neg (by simp)]
  refine ⟨[], [scrD ns], fun a h => (by cases h), RpAll.cons (by rw [hh]; exact Rp.scr hs) RpAll.nil, ⟨ns, rfl, hl⟩, fun v H' s r => ?_⟩
  rw [hg ns hl] at r
  rw [r.blEq]
  exact q H'
theorem isRef {H : Hp} {v : V} {d : PyData} (r : Rp K H v d) (h : scalD d = false) : ∃ a, v = .ref a := by
  cases r <;> first | exact ⟨_, rfl⟩ | cases h
theorem cb_repr {t : TA} {d : PyData} (h : EvL K t ρ [d]) (h0 : scalD d = false) (hx : noX d = true) (h1 : d.showable = true) (h2 : d.hasDict = false) (h3 : d.depth ≤ 60) (h4 : d.shown.length ≤ sizeLine) : EvD K (tCB (rRepr K) t) ρ (.str d.shown) := fun S σ H Q hd he hq =>
  h S σ H _ hd he fun xs H1 s1 r1 => by
    cases r1 with
    | cons r1 r2 =>
      cases r2
      obtain ⟨a, e⟩ := isRef r1 h0
      subst e
      exact ⟨a, d, rfl, (r1.same hid_sub).dp hx, h1, h2, h3, h4, hq _ _ s1 (.str _)⟩
end Dx
namespace Dx
open PySem PySem.Spec L2
open PyProof.Rows hiding St
variable {K : PySem.W.Frag} {ρ : Env}

/-! ### sorted(set(xs)) of ints -/
def ins (x : Int) : List Int → List Int
  | [] => [x]
  | y :: r => if x < y then x :: y :: r else if x = y then y :: r else y :: ins x r
def usort : List Int → List Int
  | [] => []
  | x :: r => ins x (usort r)
theorem mem_ins {x z : Int} : ∀ {l : List Int}, z ∈ ins x l ↔ z = x ∨ z ∈ l
  | [] => by simp [ins]
  | y :: r => by
    unfold ins
    split
    · simp
    · split
      · rename_i h
        subst h
        simp
      · rw [List.mem_cons, mem_ins, List.mem_cons]
        constructor
        · rintro (h | h | h)
          · exact .inr (.inl h)
          · exact .inl h
          · exact .inr (.inr h)
        · rintro (h | h | h)
          · exact .inr (.inl h)
          · exact .inl h
          · exact .inr (.inr h)
theorem mem_usort {z : Int} : ∀ {l : List Int}, z ∈ usort l ↔ z ∈ l
  | [] => Iff.rfl
  | x :: r => by
    unfold usort
    rw [mem_ins, mem_usort, List.mem_cons]
theorem ins_sorted {x : Int} : ∀ {l : List Int}, l.Pairwise (· < ·) → (ins x l).Pairwise (· < ·)
  | [], _ => by simp [ins]
  | y :: r, h => by
    obtain ⟨h1, h2⟩ := List.pairwise_cons.mp h
    unfold ins
    split
    · rename_i lt
      refine List.pairwise_cons.mpr ⟨fun z hz => ?_, h⟩
      rcases List.mem_cons.mp hz with e | e
      · rw [e]; exact lt
      · exact Int.lt_trans lt (h1 z e)
    · split
      · exact h
      · rename_i n1 n2
        refine List.pairwise_cons.mpr ⟨fun z hz => ?_, ins_sorted h2⟩
        rcases mem_ins.mp hz with e | e
        · rw [e]; omega
        · exact h1 z e
theorem usort_sorted : ∀ l : List Int, (usort l).Pairwise (· < ·)
  | [] => List.Pairwise.nil
  | x :: r => ins_sorted (usort_sorted r)
theorem sorted_ext : ∀ {l m : List Int}, l.Pairwise (· < ·) → m.Pairwise (· < ·) → (∀ z, z ∈ l ↔ z ∈ m) → l = m
  | [], [], _, _, _ => rfl
  | [], y :: m, _, _, h => by have := (h y).mpr List.mem_cons_self; cases this
  | x :: l, [], _, _, h => by have := (h x).mp List.mem_cons_self; cases this
  | x :: l, y :: m, hl, hm, h => by
    obtain ⟨a1, a2⟩ := List.pairwise_cons.mp hl
    obtain ⟨b1, b2⟩ := List.pairwise_cons.mp hm
    have exy : x = y := by
      have hx := (h x).mp List.mem_cons_self
      have hy := (h y).mpr List.mem_cons_self
      rcases List.mem_cons.mp hx with e | e
      · exact e
      · rcases List.mem_cons.mp hy with e' | e'
        · exact e'.symm
        · have := b1 x e
          have := a1 y e'
          omega
    subst exy
    rw [sorted_ext a2 b2 fun z => ?_]
    constructor
    · intro hz
      rcases List.mem_cons.mp ((h z).mp (List.mem_cons_of_mem _ hz)) with e | e
      · have := a1 z hz
        omega
      · exact e
    · intro hz
      rcases List.mem_cons.mp ((h z).mpr (List.mem_cons_of_mem _ hz)) with e | e
      · have := b1 z hz
        omega
      · exact e
theorem ins_len {x : Int} : ∀ {l : List Int}, (ins x l).length ≤ l.length + 1
  | [] => by simp [ins]
  | y :: r => by
    unfold ins
    split
    · simp
    · split
      · simp
      · have := ins_len (x := x) (l := r)
        simp; omega
theorem usort_len : ∀ l : List Int, (usort l).length ≤ l.length
  | [] => Nat.le_refl _
  | x :: r => by
    have h1 := usort_len r
    have h2 := ins_len (x := x) (l := usort r)
    show (ins x (usort r)).length ≤ r.length + 1
    omega
section
variable {X : Cx}
def rSetL (K : PySem.W.Frag) (w : World) : List V → Hp → VK → Prop := fun xs H Q => ∃ (a : Addr) (ns : List Int), xs = [.ref a] ∧ SqL K H a (ns.map V.int) ∧ ns.length ≤ 1000 ∧
  ∀ (p : Addr) (c : Nat), H p = none → c ≤ ns.length → Q (.ref p) (upd H p (SetO w p (fun j => decide (j ∈ ns)) c))
theorem cr_setL (hc : X.calm = true) : CallR X (.type "set") (rSetL X.K X.w) := by
  intro pins s σ H xs us Q I rv h
  obtain ⟨a, ns, rfl, hs, hl, q⟩ := h
  rw [Vals.ref1 rv]
  obtain ⟨its, r, isl, hz⟩ := I.list hs
  refine call_setI (its := its.toArray) ns (I.ok.hd hc) isl.isList (intsAre_of r) (by show ns.length + 1 < 4096; omega) fun g t c z1 z2 z3 => ?_
  have J := I.laid (t' := t) (o := SetO X.w s.heap.objs.size (fun j => decide (j ∈ ns)) c) z3 (Nat.le_refl _) (setO_new z1)
  exact ⟨.ref _, _, J, rfl, q _ c (I.hok.fresh (Nat.le_refl _)) z2⟩
end
theorem f_sortset {w : World} {ta : TA} {ns : List Int} (h : EvL K ta ρ [.list (ns.map PyData.int)]) (hl : ns.length < 64) : EvF K (tCB (rSortedSet w) (tCons (tCB (rSetL K w) ta) tNil)) ρ ((usort ns).map PyData.int) := fun S σ H Q hd he hq =>
  h S σ H _ hd he fun xs H1 s1 r1 => by
    cases r1 with
    | cons r1 r2 =>
      cases r2
      obtain ⟨a, ys, e, ha, ry⟩ := r1.lstE
      refine ⟨a, ns, by rw [e], .inl (.inl (by rw [← ry.ints]; exact hid_sub _ _ ha)), by omega, fun p c hp hc => ?_⟩
      refine ⟨p, fun j => decide (j ∈ ns), c, rfl, upd_same, by omega, fun ms q hs hm hn hq2 => ?_⟩
      have em : ms = usort ns := sorted_ext hs (usort_sorted ns) fun z => by rw [hm, mem_usort]; simp
      subst em
      have s2 := s1.trans (same_new (o := SetO w p (fun j => decide (j ∈ ns)) c) hp)
      exact hq q _ _ (s2.trans (same_new hq2)) (s2.free hq2) upd_same (RpAll.ofInts _)

/-! ### isinstance(x, T) of data, T a built-in type -/
def tyD : PyData → String
  | .none => "NoneType"
  | .bool _ => "bool"
  | .int _ => "int"
  | .str _ => "str"
  | .list _ => "list"
  | .tuple _ => "tuple"
  | .dict _ => "dict"
theorem rp_ty {H : Hp} {S : List Addr} {v : V} {d : PyData} (r : Rp K (hid H S) v d) (hx : noX d = true) : TyX K H v (.type (tyD d)) := by
  cases r with
  | non => exact .base .non
  | bl b => exact .base (.bl b)
  | int i => exact .base (.int i)
  | str x => exact .base (.str x)
  | lst h r => exact .base (.lst (hid_sub _ _ h))
  | tup h r =>
    rcases h with (h | ⟨o, h⟩) | ⟨o, its, n, h1, h2, _⟩
    · exact .base (.tup (hid_sub _ _ h))
    · exact .fTuple (hid_sub _ _ h)
    · exact .kTuple h1 h2
  | scr h => simp [noX] at hx
theorem cb_isi {te : TE} {d : PyData} {n : String} {b : Bool} (h : EvD K te ρ d) (hx : noX d = true) (hk : kitB (tyD d) n = some b) : EvD K (tCB (rIsi K) (tCons te (tCons (tC (.ty n)) tNil))) ρ (.bool b) := fun S σ H Q hd he hq =>
  h S σ H _ hd he fun v H1 s1 r1 => ⟨v, .ty n, _, _, b, rfl, .ty n, rp_ty r1 hx, kit_ty hk, hq _ _ s1 (.bl b)⟩

/-! ### in, not in over flat items -/
def flatD : PyData → Bool
  | .none | .bool _ | .int _ | .str _ => true
  | _ => false
theorem flat_v {H : Hp} {v : V} {d : PyData} (r : Rp K H v d) (h : flatD d = true) : v = vOf d ∧ flatV v = true := by
  cases r <;> first | exact ⟨rfl, rfl⟩ | cases h
theorem flat_vs {H : Hp} : ∀ {vs : List V} {ds : List PyData}, RpAll K H vs ds → ds.all flatD = true → vs = ds.map vOf ∧ vs.all flatV = true
  | _, _, .nil, _ => ⟨rfl, rfl⟩
  | _, _, .cons h r, z => by
    rw [List.all_cons, Bool.and_eq_true] at z
    obtain ⟨a1, a2⟩ := flat_v h z.1
    obtain ⟨b1, b2⟩ := flat_vs r z.2
    exact ⟨by rw [List.map_cons, ← a1, ← b1], by rw [List.all_cons, a2, b2]; rfl⟩
theorem e_inT {ta tb : TE} {d : PyData} {ds : List PyData} {neg : Bool} (ha : EvD K ta ρ d) (hb : EvD K tb ρ (.tuple ds)) (h1 : flatD d = true) (h2 : ds.all flatD = true) : EvD K (tOp (rIn K neg) ta tb) ρ (.bool (if neg then !inV (vOf d) (ds.map vOf) else inV (vOf d) (ds.map vOf))) := fun S σ H Q hd he hq =>
  ha S σ H _ hd he fun x H1 s1 r1 => hb S σ H1 _ (hd.same s1) (he.same s1) fun y H2 s2 r2 => by
    obtain ⟨a, ys, e, ha, ry⟩ := r2.tupE
    obtain ⟨f1, f2⟩ := flat_v r1 h1
    obtain ⟨g1, g2⟩ := flat_vs ry h2
    refine ⟨a, ys, e, .inr (sqT_same hid_sub ha), f2, g2, ?_⟩
    rw [f1, g1]
    exact hq _ _ (s1.trans s2) (.bl _)
theorem e_inL {ta tb : TE} {d : PyData} {ds : List PyData} {neg : Bool} (ha : EvD K ta ρ d) (hb : EvD K tb ρ (.list ds)) (h1 : flatD d = true) (h2 : ds.all flatD = true) : EvD K (tOp (rIn K neg) ta tb) ρ (.bool (if neg then !inV (vOf d) (ds.map vOf) else inV (vOf d) (ds.map vOf))) := fun S σ H Q hd he hq =>
  ha S σ H _ hd he fun x H1 s1 r1 => hb S σ H1 _ (hd.same s1) (he.same s1) fun y H2 s2 r2 => by
    obtain ⟨a, ys, e, ha, ry⟩ := r2.lstE
    obtain ⟨f1, f2⟩ := flat_v r1 h1
    obtain ⟨g1, g2⟩ := flat_vs ry h2
    refine ⟨a, ys, e, .inl (.inl (.inl (hid_sub _ _ ha))), f2, g2, ?_⟩
    rw [f1, g1]
    exact hq _ _ (s1.trans s2) (.bl _)
/-! ### xs.insert(i, e) of a list of one's own -/
theorem x_insert {ρ : STt} {P : Post} {i : Nat} {ti te : TE} {ds : List PyData} {d : PyData} {k : Nat} (ho : ρ[i]? = some (.own ds)) (hi : EvD K ti (vw ρ) (.int k)) (hki : (k : Int) < 2 ^ 63) (h : EvD K te (vw ρ) d) (hn : noL d = true) (hz : ds.length < sizeLine) (hp : P.nx (ρ.set i (.own (ds.take k ++ [d] ++ ds.drop k)))) :
    ExD K (tDrop (tBM K "list" (fun x vs H Q => ∃ (l : Addr) (xs : List V) (i : Int) (y : V), x = .ref l ∧ vs = [.int i, y] ∧ H l = some (.lst xs) ∧ xs.length < sizeLine ∧ 0 ≤ i ∧ i < 2 ^ 63 ∧ Q .non (upd H l (.lst (xs.take i.toNat ++ [y] ++ xs.drop i.toNat)))) (tVar i) (tCons ti (tCons te tNil)))) ρ P := fun S O H0 D σ H hd st p => by
  obtain ⟨a, xs, ha, hs, hH, rx⟩ := st.own i ds ho
  refine ⟨_, hs, .inl ⟨rfl, _, .inl (.inl hH)⟩, ?_⟩
  refine hi S σ H _ (hd.same st.sm) (st.envW hd) fun vi H1 s1 r1 => ?_
  have st1 := st.same s1
  refine h S σ H1 _ (hd.same st1.sm) (st1.envW hd) fun v H' s2 r => ?_
  have s := s1.trans s2
  refine ⟨a, xs, k, v, rfl, by rw [r1.intEq], s _ _ hH, by rw [rx.len]; exact hz, by omega, hki, ?_⟩
  refine p.nx O _ _ _ hp ((st.same s).own_upd ho ha hs ?_)
  have rx' := rx.same (hid_same s)
  rw [Int.toNat_natCast]
  exact ((rx'.take k).app (.cons (rp_hide (fun a ha => ((st.same s).lst a ha).2) hn r) .nil)).app (rx'.drop k)
end Dx
namespace Dx
open PySem PySem.Spec L2
open PyProof.Rows hiding St
variable {K : PySem.W.Frag} {ρ : STt} {P : Post}
theorem x_sif {c : TT} {t u : TS} {b : Bool} (h : EvB K c (vw ρ) b) (h1 : b = true → ExD K (tSeq t u) ρ P) (h2 : b = false → ExD K u ρ P) : ExD K (tSeq (tIfS c t tNext) u) ρ P := fun S O H0 D σ H hd st p =>
  h S σ H _ (hd.same st.sm) (st.envW hd) fun H' s => by
    cases b with
    | true => exact h1 rfl S O H0 D σ H' hd (st.same s) p
    | false => exact h2 rfl S O H0 D σ H' hd (st.same s) p
theorem x_sif2 {c : TT} {t v u : TS} {b : Bool} (h : EvB K c (vw ρ) b) (h1 : b = true → ExD K (tSeq t u) ρ P) (h2 : b = false → ExD K (tSeq v u) ρ P) : ExD K (tSeq (tIfS c t v) u) ρ P := fun S O H0 D σ H hd st p =>
  h S σ H _ (hd.same st.sm) (st.envW hd) fun H' s => by
    cases b with
    | true => exact h1 rfl S O H0 D σ H' hd (st.same s) p
    | false => exact h2 rfl S O H0 D σ H' hd (st.same s) p
theorem x_sret {te : TE} {u : TS} {d : PyData} (h : EvD K te (vw ρ) d) (hp : P.rt d) : ExD K (tSeq (tRet te) u) ρ P := fun S O H0 D σ H hd st p =>
  h S σ H _ (hd.same st.sm) (st.envW hd) fun v H' s r => p.rt d v H' hp (st.sm.trans s) r
theorem x_sset {i : Nat} {te : TE} {u : TS} {d : PyData} (h : EvD K te (vw ρ) d) (hn : noL d = true) (g : ExD K u (ρ.set i (.dat d)) P) : ExD K (tSeq (tAsg te (gName i)) u) ρ P := x_sq (x_set h hn rfl) g
theorem x_ssetL {i : Nat} {te : TE} {u : TS} {d : PyData} (h : EvD K te (vs ρ) d) (g : ExD K u (ρ.set i (.dat d)) P) : ExD K (tSeq (tAsg te (gName i)) u) ρ P := x_sq (x_setL h rfl) g
theorem x_sown {i : Nat} {te : TE} {u : TS} {ds : List PyData} (h : EvF K te (vs ρ) ds) (g : ExD K u (ρ.set i (.own ds)) P) : ExD K (tSeq (tAsg te (gName i)) u) ρ P := x_sq (x_own h rfl) g
theorem x_sdrop {te : TE} {u : TS} {d : PyData} (h : EvD K te (vw ρ) d) (g : ExD K u ρ P) : ExD K (tSeq (tDrop te) u) ρ P := x_sq (x_drop h rfl) g
theorem x_spar {i j : Nat} {ta : TA} {u : TS} {d e : PyData} (h : EvL K ta (vs ρ) [d, e]) (g : ExD K u ((ρ.set i (.dat d)).set j (.dat e)) P) : ExD K (tSeq (tPar i j ta) u) ρ P := x_sq (x_par h rfl) g
theorem x_spar3 {i j k : Nat} {ta : TA} {u : TS} {d e f : PyData} (h : EvL K ta (vs ρ) [d, e, f]) (g : ExD K u (((ρ.set i (.dat d)).set j (.dat e)).set k (.dat f)) P) : ExD K (tSeq (tPar3 i j k ta) u) ρ P := x_sq (x_par3 h rfl) g
theorem x_sasg {te : TE} {g : TG} {u : TS} {d : PyData} {L : List (Nat × PyData)} (h : EvD K te (vs ρ) d) (hg : EvG K g d L) (k : ExD K u (putL ρ L) P) : ExD K (tSeq (tAsg te g) u) ρ P := x_sq (x_asg h hg rfl) k
theorem x_sfor {wi : TI} {g : TG} {tb u : TS} {ds : List PyData} (I : Nat → STt → Prop) (hw : EvI K wi (vs ρ) ds) (h0 : I 0 ρ)
    (hs : ∀ i d ρ', ds[i]? = some d → I i ρ' → ∃ L, EvG K g d L ∧ ExD K tb (putL ρ' L) { nx := I (i + 1), ct := I (i + 1), bk := fun z => ExD K u z P, rt := P.rt, rf := P.rf })
    (he : ∀ ρ', I ds.length ρ' → ExD K u ρ' P) : ExD K (tSeq (tFor wi g tb) u) ρ P :=
  x_seq (M := fun z => ExD K u z P) (x_for (P := { P with nx := fun z => ExD K u z P }) I hw h0 hs he) fun _ h => h
theorem x_swhile {c : TT} {tb u : TS} (I : STt → Prop) (μ : STt → Nat) (h0 : I ρ) (hs : ∀ ρ', I ρ' → ∃ b, EvB K c (vw ρ') b ∧
      (b = true → ExD K tb ρ' { nx := fun z => I z ∧ μ z < μ ρ', ct := fun z => I z ∧ μ z < μ ρ', bk := fun z => ExD K u z P, rt := P.rt, rf := P.rf }) ∧ (b = false → ExD K u ρ' P)) : ExD K (tSeq (tWhile c tb) u) ρ P :=
  x_seq (M := fun z => ExD K u z P) (x_while (P := { P with nx := fun z => ExD K u z P }) I μ h0 hs) fun _ h => h
theorem e_gt {ρ : Env} {ta tb : TE} {i j : Int} (ha : EvD K ta ρ (.int i)) (hb : EvD K tb ρ (.int j)) : EvD K (tOp (rI0 fun i j => .bl (decide (j < i))) ta tb) ρ (.bool (decide (j < i))) := e_opI0 ha hb fun _ => .bl _
theorem e_ge {ρ : Env} {ta tb : TE} {i j : Int} (ha : EvD K ta ρ (.int i)) (hb : EvD K tb ρ (.int j)) : EvD K (tOp (rI0 fun i j => .bl (decide (j ≤ i))) ta tb) ρ (.bool (decide (j ≤ i))) := e_opI0 ha hb fun _ => .bl _
/-- one def of many data -/
theorem i_for {wi : TI} {ρ : Env} {ds : List PyData} (h : EvI K wi ρ ds) : EvI K wi ρ ds := h
end Dx
namespace Dx
open PySem PySem.Spec L2
open PyProof.Rows hiding St
variable {K : PySem.W.Frag} {ρ : Env}

/-! ### data that repr serves -/
mutual
def okD : PyData → Bool
  | .int i => decide (i.natAbs.log2 < 1920)
  | .str x => x.cps.toList.all fun c => decide (c < 16 ^ 8)
  | .list ds => okDs ds
  | .tuple ds => okDs ds
  | .dict _ => false
  | _ => true
def okDs : List PyData → Bool
  | [] => true
  | d :: ds => okD d && okDs ds
end
mutual
theorem okD.noX : ∀ {d : PyData}, okD d = true → noX d = true
  | .none, _ => rfl
  | .bool _, _ => rfl
  | .int _, _ => rfl
  | .str _, _ => rfl
  | .list ds, h => by
    simp only [okD] at h
    simp only [Dx.noX]
    exact okDs.noX h
  | .tuple ds, h => by
    simp only [okD] at h
    simp only [Dx.noX]
    exact okDs.noX h
  | .dict _, h => by simp [okD] at h
theorem okDs.noX : ∀ {d : List PyData}, okDs d = true → noXs d = true
  | [], _ => rfl
  | d :: ds, h => by
    simp only [okDs, Bool.and_eq_true] at h
    simp only [noXs, Bool.and_eq_true]
    exact ⟨okD.noX h.1, okDs.noX h.2⟩
end
mutual
theorem okD.show : ∀ {d : PyData}, okD d = true → d.showable = true
  | .none, _ => by simp [PyData.showable]
  | .bool _, _ => by simp [PyData.showable]
  | .int i, h => by simpa [PyData.showable, okD] using h
  | .str _, _ => by simp [PyData.showable]
  | .list ds, h => by
    simp only [okD] at h
    simp only [PyData.showable]
    exact okDs.show h
  | .tuple ds, h => by
    simp only [okD] at h
    simp only [PyData.showable]
    exact okDs.show h
  | .dict _, h => by simp [okD] at h
theorem okDs.show : ∀ {d : List PyData}, okDs d = true → PyData.showableAll d = true
  | [], _ => by simp [PyData.showableAll]
  | d :: ds, h => by
    simp only [okDs, Bool.and_eq_true] at h
    simp only [PyData.showableAll, Bool.and_eq_true]
    exact ⟨okD.show h.1, okDs.show h.2⟩
end
mutual
theorem okD.nodict : ∀ {d : PyData}, okD d = true → d.hasDict = false
  | .none, _ => by simp [PyData.hasDict]
  | .bool _, _ => by simp [PyData.hasDict]
  | .int i, h => by simp [PyData.hasDict]
  | .str _, _ => by simp [PyData.hasDict]
  | .list ds, h => by
    simp only [okD] at h
    simp only [PyData.hasDict]
    exact okDs.nodict h
  | .tuple ds, h => by
    simp only [okD] at h
    simp only [PyData.hasDict]
    exact okDs.nodict h
  | .dict _, h => by simp [okD] at h
theorem okDs.nodict : ∀ {d : List PyData}, okDs d = true → PyData.hasDictAll d = false
  | [], _ => by simp [PyData.hasDictAll]
  | d :: ds, h => by
    simp only [okDs, Bool.and_eq_true] at h
    simp only [PyData.hasDictAll, okD.nodict h.1, okDs.nodict h.2, Bool.or_self]
end
mutual
theorem okD.short : ∀ {d : PyData}, okD d = true → d.leavesShort 1921 = true
  | .none, _ => by simp [PyData.leavesShort]
  | .bool _, _ => by simp [PyData.leavesShort]
  | .int i, h => by
    simp only [okD, decide_eq_true_eq] at h
    simp only [PyData.leavesShort, decide_eq_true_eq]
    exact int_text_len_1921 h
  | .str _, h => by simpa [PyData.leavesShort, okD] using h
  | .list ds, h => by
    simp only [okD] at h
    simp only [PyData.leavesShort]
    exact okDs.short h
  | .tuple ds, h => by
    simp only [okD] at h
    simp only [PyData.leavesShort]
    exact okDs.short h
  | .dict _, h => by simp [okD] at h
theorem okDs.short : ∀ {d : List PyData}, okDs d = true → PyData.leavesShortAll 1921 d = true
  | [], _ => by simp [PyData.leavesShortAll]
  | d :: ds, h => by
    simp only [okDs, Bool.and_eq_true] at h
    simp only [PyData.leavesShortAll, Bool.and_eq_true]
    exact ⟨okD.short h.1, okDs.short h.2⟩
end
theorem fits {d : PyData} (h : okD d = true) (hb : d.bulk ≤ 8000) : d.shown.length ≤ sizeLine := by
  have h1 := PyData.shown_le_bulk 1921 (by decide) d (okD.short h)
  have h2 : (1921 + 2) * d.bulk ≤ 1923 * 8000 := Nat.mul_le_mul (Nat.le_refl _) hb
  have h3 : sizeLine = 16777216 := rfl
  omega
theorem cb_rep {t : TA} {d : PyData} (h : EvL K t ρ [d]) (h0 : scalD d = false) (h1 : okD d = true) (h2 : d.bulk ≤ 8000) (h3 : d.depth ≤ 60) : EvD K (tCB (rRepr K) t) ρ (.str d.shown) :=
  cb_repr h h0 (okD.noX h1) (okD.show h1) (okD.nodict h1) h3 (fits h1 h2)
theorem okDs_map {ns : List Int} (h : ∀ n ∈ ns, n.natAbs < 2 ^ 200) : okDs (ns.map PyData.int) = true := by
  induction ns with
  | nil => rfl
  | cons n ns ih =>
    rw [List.map_cons]
    simp only [okDs, Bool.and_eq_true]
    refine ⟨?_, ih fun m hm => h m (List.mem_cons_of_mem _ hm)⟩
    have h1 := h n List.mem_cons_self
    simp only [okD, decide_eq_true_eq]
    by_cases h0 : n.natAbs = 0
    · rw [h0]
      decide
    · have := (Nat.log2_lt h0).mpr (Nat.lt_of_lt_of_le h1 (Nat.pow_le_pow_right (by decide) (by decide : 200 ≤ 1920)))
      exact this
theorem bulk_map (ns : List Int) : PyData.bulkAll (ns.map PyData.int) = ns.length := by
  induction ns with
  | nil => simp [PyData.bulkAll]
  | cons n ns ih =>
    rw [List.map_cons]
    simp only [PyData.bulkAll, PyData.bulk, ih, List.length_cons]
    omega
theorem depth_map (ns : List Int) : PyData.depthAll (ns.map PyData.int) = 0 := by
  induction ns with
  | nil => simp [PyData.depthAll]
  | cons n ns ih =>
    rw [List.map_cons]
    simp only [PyData.depthAll, PyData.depth, ih]
    rfl
/-! ### range(a, b, -1) -/
theorem i_rng3 {ta : TA} {i j : Int} (h : EvL K ta ρ [.int i, .int j, .int (-1)]) (h1 : -(2 ^ 62) ≤ i ∧ i < 2 ^ 62 ∧ -(2 ^ 62) ≤ j ∧ j < 2 ^ 62) : EvI K (iRng3 ta) ρ (rngD i (i - j).toNat) := fun S σ H R hd he hq =>
  h S σ H _ hd he fun vs H1 s r => by
    cases r with
    | cons r1 r2 =>
      cases r2 with
      | cons r2 r3 =>
        cases r3 with
        | cons r3 r4 =>
          cases r4
          refine ⟨i, j, -1, (i - j).toNat, by rw [r1.intEq, r2.intEq, r3.intEq], RgC.neg h1.1 h1.2.1 h1.2.2.1 h1.2.2.2, hq _ _ s ?_⟩
          intro k T H2 hT s2
          refine ⟨fun d hd => ?_, fun hi => by rw [rngD_len] at hi; exact hi⟩
          obtain ⟨hk, rfl⟩ := rngD_at hd
          refine ⟨hk, fun y H3 hy => ?_⟩
          obtain ⟨rfl, rfl⟩ := hy
          exact ⟨Same.refl _, .int _⟩
theorem cb_is {te : TE} {d : PyData} {n T : String} {b : Bool} (h : EvD K te ρ d) (hx : noX d = true) (hT : tyD d = T) (hk : kitB T n = some b) : EvD K (tCB (rIsi K) (tCons te (tCons (tC (.ty n)) tNil))) ρ (.bool b) :=
  cb_isi h hx (hT ▸ hk)
theorem e_chle {ta tb tc : TE} {i j k : Int} (ha : EvD K ta ρ (.int i)) (hb : EvD K tb ρ (.int j)) (hc : EvD K tc ρ (.int k)) :
    EvD K (tChain (rI0 fun i j => .bl (decide (i ≤ j))) (rI0 fun i j => .bl (decide (i ≤ j))) ta tb tc) ρ (.bool (decide (i ≤ j) && decide (j ≤ k))) :=
  e_chain (f := fun i j => decide (i ≤ j)) (f' := fun i j => decide (i ≤ j)) ha hb (fun _ => hc) (fun H Q q => ⟨_, _, rfl, rfl, q⟩) fun H Q q => ⟨_, _, rfl, rfl, q⟩
end Dx
namespace K12
open Dx
def fl (p n : Int) : Int := n / p * p
def ce (p n : Int) : Int := -(-n / p) * p
theorem ce_eq {p : Int} (n : Int) (h : 0 < p) : ce p n = (n / p + (if n / p * p < n then 1 else 0)) * p := by
  unfold ce
  have h1 := Int.mul_ediv_add_emod n p
  have h2 := Int.emod_nonneg n (b := p) (by omega)
  have h3 := Int.emod_lt_of_pos n h
  generalize hq : n / p = q at h1 ⊢
  generalize hr : n % p = r at h1 h2 h3
  have e0 : p * q = q * p := Int.mul_comm _ _
  congr 1
  by_cases hr0 : r = 0
  · rw [if_neg (by omega)]
    have : -n = p * (-q) := by rw [Int.mul_neg]; omega
    rw [this, Int.mul_ediv_cancel_left _ (by omega)]
    omega
  · rw [if_pos (by omega)]
    have : -n = (p - r) + p * (-q - 1) := by rw [Int.mul_sub, Int.mul_neg]; omega
    rw [this, Int.add_mul_ediv_left _ _ (by omega), Int.ediv_eq_zero_of_lt (by omega) (by omega)]
    omega
theorem fl_le {p n : Int} (h : 0 < p) : fl p n ≤ n := by
  unfold fl
  have h1 := Int.mul_ediv_add_emod n p
  have h2 := Int.emod_nonneg n (b := p) (by omega)
  rw [Int.mul_comm] at h1
  omega
theorem fl_gt {p n : Int} (h : 0 < p) : n < fl p n + p := by
  unfold fl
  have h1 := Int.mul_ediv_add_emod n p
  have h3 := Int.emod_lt_of_pos n h
  rw [Int.mul_comm] at h1
  omega
theorem ce_neg (p n : Int) : ce p n = -fl p (-n) := by
  unfold ce fl
  rw [Int.neg_mul]
theorem ce_ge {p n : Int} (h : 0 < p) : n ≤ ce p n := by
  have := fl_le (p := p) (n := -n) h
  rw [ce_neg]
  omega
theorem ce_lt {p n : Int} (h : 0 < p) : ce p n < n + p := by
  have := fl_gt (p := p) (n := -n) h
  rw [ce_neg]
  omega
theorem fl_dvd (p n : Int) : p ∣ fl p n := ⟨n / p, by unfold fl; rw [Int.mul_comm]⟩
theorem ce_dvd (p n : Int) : p ∣ ce p n := by
  rw [ce_neg]
  exact Int.dvd_neg.mpr (fl_dvd _ _)
theorem fl_mono {p a b : Int} (h : 0 < p) (hab : a ≤ b) : fl p a ≤ fl p b :=
  Int.mul_le_mul_of_nonneg_right (Int.ediv_le_ediv h hab) (Int.le_of_lt h)
theorem ce_mono {p a b : Int} (h : 0 < p) (hab : a ≤ b) : ce p a ≤ ce p b := by
  have := fl_mono (p := p) (a := -b) (b := -a) h (by omega)
  rw [ce_neg, ce_neg]
  omega
theorem fl_of_dvd {p d : Int} (h : 0 < p) (hd : p ∣ d) : fl p d = d := by
  unfold fl
  exact Int.ediv_mul_cancel hd
theorem fl_add {p a b : Int} (h : 0 < p) : fl p a + fl p b ≤ fl p (a + b) := by
  have h1 := fl_mono (p := p) (a := fl p a + fl p b) (b := a + b) h (by have := fl_le (p := p) (n := a) h; have := fl_le (p := p) (n := b) h; omega)
  rwa [fl_of_dvd h (Int.dvd_add (fl_dvd p a) (fl_dvd p b))] at h1
theorem ce_add {p a b : Int} (h : 0 < p) : ce p (a + b) ≤ ce p a + ce p b := by
  have := fl_add (p := p) (a := -a) (b := -b) h
  rw [ce_neg, ce_neg, ce_neg, Int.neg_add]
  omega
theorem fl_nonneg {p n : Int} (h : 0 < p) (hn : 0 ≤ n) : 0 ≤ fl p n :=
  Int.mul_nonneg (Int.ediv_nonneg hn (Int.le_of_lt h)) (Int.le_of_lt h)

def rstep (l : List Int) (p : Int) : List Int := l.map (fl p) ++ l.map (ce p)
def dlater (l : List Int) (p : Int) : List Int := l.flatMap fun n => [n / p * p, (n / p + (if n / p * p < n then 1 else 0)) * p]
def dstep (l : List Int) (p : Int) : List Int := usort (dlater l p)
def lowC (qs : List Int) (n : Int) : Int := qs.foldl (fun n p => fl p n) n
def highC (qs : List Int) (n : Int) : Int := qs.foldl (fun n p => ce p n) n
abbrev Per (qs : List Int) : Prop := ∀ p ∈ qs, 1 ≤ p ∧ p ≤ 60
theorem mem_rstep {l : List Int} {p z : Int} : z ∈ rstep l p ↔ ∃ n ∈ l, z = fl p n ∨ z = ce p n := by
  unfold rstep
  rw [List.mem_append, List.mem_map, List.mem_map]
  constructor
  · rintro (⟨n, h, e⟩ | ⟨n, h, e⟩)
    · exact ⟨n, h, .inl e.symm⟩
    · exact ⟨n, h, .inr e.symm⟩
  · rintro ⟨n, h, e | e⟩
    · exact .inl ⟨n, h, e.symm⟩
    · exact .inr ⟨n, h, e.symm⟩
theorem mem_dstep {l : List Int} {p z : Int} (hp : 0 < p) : z ∈ dstep l p ↔ ∃ n ∈ l, z = fl p n ∨ z = ce p n := by
  unfold dstep dlater
  rw [mem_usort, List.mem_flatMap]
  constructor
  · rintro ⟨n, h, e⟩
    refine ⟨n, h, ?_⟩
    rw [← ce_eq n hp] at e
    rcases List.mem_cons.mp e with e | e
    · exact .inl e
    · exact .inr (List.mem_singleton.mp e)
  · rintro ⟨n, h, e⟩
    refine ⟨n, h, ?_⟩
    rw [← ce_eq n hp]
    rcases e with e | e
    · rw [e]; exact List.mem_cons_self
    · rw [e]; exact List.mem_cons_of_mem _ List.mem_cons_self
theorem fold_mem : ∀ {qs : List Int}, Per qs → ∀ {l m : List Int}, (∀ z, z ∈ l ↔ z ∈ m) → ∀ z, z ∈ qs.foldl rstep l ↔ z ∈ qs.foldl dstep m
  | [], _, _, _, h, z => h z
  | p :: qs, hp, l, m, h, z => by
    refine fold_mem (fun q hq => hp q (List.mem_cons_of_mem _ hq)) (fun y => ?_) z
    have := hp p List.mem_cons_self
    rw [mem_rstep, mem_dstep (by omega)]
    constructor
    · rintro ⟨n, hn, e⟩; exact ⟨n, (h n).mp hn, e⟩
    · rintro ⟨n, hn, e⟩; exact ⟨n, (h n).mpr hn, e⟩
theorem dfold_sorted : ∀ {qs : List Int} {l : List Int}, l.Pairwise (· < ·) → (qs.foldl dstep l).Pairwise (· < ·)
  | [], _, h => h
  | p :: qs, _, _ => dfold_sorted (qs := qs) (usort_sorted _)
theorem dlater_len (l : List Int) (p : Int) : (dlater l p).length = 2 * l.length := by
  unfold dlater
  induction l with
  | nil => rfl
  | cons x l ih => rw [List.flatMap_cons, List.length_append, ih, List.length_cons]; simp; omega
theorem dfold_len : ∀ {qs : List Int} {l : List Int}, (qs.foldl dstep l).length ≤ 2 ^ qs.length * l.length
  | [], l => by simp
  | p :: qs, l => by
    have h1 := dfold_len (qs := qs) (l := dstep l p)
    have h2 : (dstep l p).length ≤ 2 * l.length := by
      have := usort_len (dlater l p)
      rw [dlater_len] at this
      exact this
    calc ((p :: qs).foldl dstep l).length ≤ 2 ^ qs.length * (dstep l p).length := h1
      _ ≤ 2 ^ qs.length * (2 * l.length) := Nat.mul_le_mul_left _ h2
      _ = 2 ^ (p :: qs).length * l.length := by rw [List.length_cons, Nat.pow_succ, Nat.mul_assoc]
theorem rfold_len : ∀ {qs : List Int} {l : List Int}, (qs.foldl rstep l).length = 2 ^ qs.length * l.length
  | [], l => by simp
  | p :: qs, l => by
    have h1 := rfold_len (qs := qs) (l := rstep l p)
    have h2 : (rstep l p).length = 2 * l.length := by unfold rstep; simp; omega
    rw [List.foldl_cons, h1, h2, List.length_cons, Nat.pow_succ, Nat.mul_assoc]
/-- bounds -/
theorem rfold_bd : ∀ {qs : List Int}, Per qs → ∀ {l : List Int} {B : Int}, (∀ z ∈ l, 0 ≤ z ∧ z ≤ B) → ∀ z ∈ qs.foldl rstep l, 0 ≤ z ∧ z ≤ B + 60 * qs.length
  | [], _, l, B, h, z, hz => by have := h z hz; simp; omega
  | p :: qs, hp, l, B, h, z, hz => by
    have hpp := hp p List.mem_cons_self
    have := rfold_bd (qs := qs) (fun q hq => hp q (List.mem_cons_of_mem _ hq)) (l := rstep l p) (B := B + 60) (fun y hy => by
      obtain ⟨n, hn, e⟩ := mem_rstep.mp hy
      have hb := h n hn
      rcases e with e | e
      · have h1 := fl_le (p := p) (n := n) (by omega)
        have h2 := fl_nonneg (p := p) (n := n) (by omega) hb.1
        omega
      · have h1 := ce_ge (p := p) (n := n) (by omega)
        have h2 := ce_lt (p := p) (n := n) (by omega)
        omega) z hz
    rw [List.length_cons]
    omega
theorem dfold_bd {qs : List Int} (hp : Per qs) {l : List Int} {B : Int} (h : ∀ z ∈ l, 0 ≤ z ∧ z ≤ B) (z : Int) (hz : z ∈ qs.foldl dstep l) : 0 ≤ z ∧ z ≤ B + 60 * qs.length :=
  rfold_bd hp h z ((fold_mem hp (fun _ => Iff.rfl) z).mpr hz)
/-- the least, the greatest -/
theorem low_mem : ∀ {qs : List Int} {l : List Int} {n : Int}, n ∈ l → lowC qs n ∈ qs.foldl rstep l
  | [], _, _, h => h
  | p :: qs, l, n, h => low_mem (qs := qs) (mem_rstep.mpr ⟨n, h, .inl rfl⟩)
theorem high_mem : ∀ {qs : List Int} {l : List Int} {n : Int}, n ∈ l → highC qs n ∈ qs.foldl rstep l
  | [], _, _, h => h
  | p :: qs, l, n, h => high_mem (qs := qs) (mem_rstep.mpr ⟨n, h, .inr rfl⟩)
theorem fold_between : ∀ {qs : List Int}, Per qs → ∀ {l : List Int} {a b : Int}, (∀ z ∈ l, a ≤ z ∧ z ≤ b) → ∀ z ∈ qs.foldl rstep l, lowC qs a ≤ z ∧ z ≤ highC qs b
  | [], _, _, _, _, h, z, hz => h z hz
  | p :: qs, hp, l, a, b, h, z, hz => by
    have hpp := hp p List.mem_cons_self
    refine fold_between (qs := qs) (fun q hq => hp q (List.mem_cons_of_mem _ hq)) (l := rstep l p) (a := fl p a) (b := ce p b) (fun y hy => ?_) z hz
    obtain ⟨n, hn, e⟩ := mem_rstep.mp hy
    obtain ⟨h1, h2⟩ := h n hn
    have f1 := fl_mono (p := p) (by omega) h1
    have f2 := ce_mono (p := p) (by omega) h2
    have f3 := fl_le (p := p) (n := n) (by omega)
    have f4 := ce_ge (p := p) (n := n) (by omega)
    rcases e with e | e <;> omega
theorem low_add : ∀ {qs : List Int}, Per qs → ∀ {a b : Int}, ∀ {c : Int}, a + b ≤ c → lowC qs a + lowC qs b ≤ lowC qs c
  | [], _, a, b, c, h => h
  | p :: qs, hp, a, b, c, h => by
    have hpp := hp p List.mem_cons_self
    refine low_add (qs := qs) (fun q hq => hp q (List.mem_cons_of_mem _ hq)) (a := fl p a) (b := fl p b) (c := fl p c) ?_
    exact Int.le_trans (fl_add (by omega)) (fl_mono (by omega) h)
theorem high_add : ∀ {qs : List Int}, Per qs → ∀ {a b : Int}, ∀ {c : Int}, c ≤ a + b → highC qs c ≤ highC qs a + highC qs b
  | [], _, a, b, c, h => h
  | p :: qs, hp, a, b, c, h => by
    have hpp := hp p List.mem_cons_self
    refine high_add (qs := qs) (fun q hq => hp q (List.mem_cons_of_mem _ hq)) (a := ce p a) (b := ce p b) (c := ce p c) ?_
    exact Int.le_trans (ce_mono (by omega) h) (ce_add (by omega))
/-- the last step makes multiples -/
theorem rfold_dvd {qs : List Int} {p : Int} {l : List Int} : ∀ z ∈ (qs ++ [p]).foldl rstep l, p ∣ z := fun z hz => by
  rw [List.foldl_append] at hz
  obtain ⟨n, _, e⟩ := mem_rstep.mp hz
  rcases e with e | e
  · rw [e]; exact fl_dvd _ _
  · rw [e]; exact ce_dvd _ _
theorem low_dvd {qs : List Int} {p n : Int} : p ∣ lowC (qs ++ [p]) n := by
  unfold lowC
  rw [List.foldl_append]
  exact fl_dvd _ _
theorem high_dvd {qs : List Int} {p n : Int} : p ∣ highC (qs ++ [p]) n := by
  unfold highC
  rw [List.foldl_append]
  exact ce_dvd _ _
theorem div_lt {p a b : Int} (hp : 0 < p) (ha : p ∣ a) (hb : p ∣ b) (h : a < b) : a / p < b / p := by
  obtain ⟨x, rfl⟩ := ha
  obtain ⟨y, rfl⟩ := hb
  rw [Int.mul_ediv_cancel_left _ (by omega), Int.mul_ediv_cancel_left _ (by omega)]
  exact Int.lt_of_mul_lt_mul_left h (Int.le_of_lt hp)
theorem div_map_sorted {p : Int} (hp : 0 < p) : ∀ {l : List Int}, (∀ z ∈ l, p ∣ z) → l.Pairwise (· < ·) → (l.map (· / p)).Pairwise (· < ·)
  | [], _, _ => List.Pairwise.nil
  | x :: l, h, hs => by
    obtain ⟨h1, h2⟩ := List.pairwise_cons.mp hs
    rw [List.map_cons]
    refine List.pairwise_cons.mpr ⟨fun z hz => ?_, div_map_sorted hp (fun z hz => h z (List.mem_cons_of_mem _ hz)) h2⟩
    obtain ⟨y, hy, rfl⟩ := List.mem_map.mp hz
    exact div_lt hp (h x List.mem_cons_self) (h y (List.mem_cons_of_mem _ hy)) (h1 y hy)

/-! ### rows -/
def qsOf (ps : List Int) : List Int := (ps.take (ps.length - 1)).reverse
def lastP (ps : List Int) : Int := ps.getD (ps.length - 1) 0
def headP (ps : List Int) : Int := ps.getD 0 0
def tot (ps : List Int) (m : Int) : List Int := usort (((qsOf ps).foldl rstep [m * lastP ps]).map (· / headP ps))
def due (ps : List Int) (m : Int) : List Int := ((qsOf ps).foldl dstep [m * lastP ps]).map (· / headP ps)
def endC (ps : List Int) (m : Int) (up : Bool) : Int := (if up then highC (qsOf ps) (m * lastP ps) else lowC (qsOf ps) (m * lastP ps)) / headP ps
structure Row (ps : List Int) : Prop where
  lo : 2 ≤ ps.length
  hi : ps.length ≤ 5
  per : Per ps
theorem Row.qs {ps : List Int} (r : Row ps) : ∃ qs, qsOf ps = qs ++ [headP ps] := by
  have := r.lo
  cases ps with
  | nil => simp at this
  | cons p ps =>
    cases ps with
    | nil => simp at this
    | cons q ps =>
      refine ⟨((q :: ps).take ps.length).reverse, ?_⟩
      show ((p :: q :: ps).take (ps.length + 1)).reverse = _
      rw [List.take_succ_cons, List.reverse_cons]
      rfl
theorem Row.qper {ps : List Int} (r : Row ps) : Per (qsOf ps) := fun p hp => r.per p (List.mem_of_mem_take (List.mem_reverse.mp hp))
theorem Row.qlen {ps : List Int} (r : Row ps) : (qsOf ps).length = ps.length - 1 := by
  unfold qsOf
  rw [List.length_reverse, List.length_take]
  omega
theorem Row.head {ps : List Int} (r : Row ps) : 1 ≤ headP ps ∧ headP ps ≤ 60 := by
  have := r.lo
  unfold headP
  rw [List.getD_eq_getElem?_getD, List.getElem?_eq_getElem (by omega)]
  exact r.per _ (List.getElem_mem _)
theorem Row.last {ps : List Int} (r : Row ps) : 1 ≤ lastP ps ∧ lastP ps ≤ 60 := by
  have := r.lo
  unfold lastP
  rw [List.getD_eq_getElem?_getD, List.getElem?_eq_getElem (by omega)]
  exact r.per _ (List.getElem_mem _)
theorem Row.rev {ps : List Int} (r : Row ps) : Row ps.reverse := ⟨by rw [List.length_reverse]; exact r.lo, by rw [List.length_reverse]; exact r.hi, fun p hp => r.per p (List.mem_reverse.mp hp)⟩
theorem due_sorted {ps : List Int} (r : Row ps) (m : Int) : (due ps m).Pairwise (· < ·) := by
  have hh := r.head
  refine div_map_sorted (by omega) (fun z hz => ?_) (dfold_sorted (by simp))
  have hz' := (fold_mem r.qper (fun _ => Iff.rfl) z).mpr hz
  obtain ⟨qs, e⟩ := r.qs
  rw [e] at hz'
  exact rfold_dvd z hz'
theorem tot_due {ps : List Int} (r : Row ps) (m : Int) : tot ps m = due ps m := by
  refine sorted_ext (usort_sorted _) (due_sorted r m) fun z => ?_
  unfold tot due
  rw [mem_usort, List.mem_map, List.mem_map]
  constructor
  · rintro ⟨y, hy, e⟩; exact ⟨y, (fold_mem r.qper (fun _ => Iff.rfl) y).mp hy, e⟩
  · rintro ⟨y, hy, e⟩; exact ⟨y, (fold_mem r.qper (fun _ => Iff.rfl) y).mpr hy, e⟩
theorem due_mem {ps : List Int} (r : Row ps) (m : Int) {z : Int} (h : z ∈ due ps m) : endC ps m false ≤ z ∧ z ≤ endC ps m true := by
  obtain ⟨y, hy, rfl⟩ := List.mem_map.mp h
  have hy' := (fold_mem r.qper (fun _ => Iff.rfl) y).mpr hy
  have hh := r.head
  obtain ⟨h1, h2⟩ := fold_between r.qper (a := m * lastP ps) (b := m * lastP ps) (fun z hz => by rw [List.mem_singleton.mp hz]; omega) y hy'
  exact ⟨Int.ediv_le_ediv (by omega) h1, Int.ediv_le_ediv (by omega) h2⟩
theorem due_ends {ps : List Int} (r : Row ps) (m : Int) : endC ps m false ∈ due ps m ∧ endC ps m true ∈ due ps m :=
  ⟨List.mem_map.mpr ⟨_, (fold_mem r.qper (fun _ => Iff.rfl) _).mp (low_mem List.mem_cons_self), rfl⟩, List.mem_map.mpr ⟨_, (fold_mem r.qper (fun _ => Iff.rfl) _).mp (high_mem List.mem_cons_self), rfl⟩⟩
theorem first_of {l : List Int} {a : Int} (hs : l.Pairwise (· < ·)) (h : a ∈ l) (hm : ∀ z ∈ l, a ≤ z) : l[0]? = some a := by
  cases l with
  | nil => cases h
  | cons x l =>
    have h1 := hm x List.mem_cons_self
    rcases List.mem_cons.mp h with e | e
    · rw [e]; rfl
    · have := (List.pairwise_cons.mp hs).1 a e
      omega
theorem last_of {l : List Int} {a : Int} (hs : l.Pairwise (· < ·)) (h : a ∈ l) (hm : ∀ z ∈ l, z ≤ a) : l[l.length - 1]? = some a := by
  have hl : l.reverse.Pairwise (fun x y => y < x) := List.pairwise_reverse.mpr hs
  have : l.reverse[0]? = some a := by
    cases e : l.reverse with
    | nil =>
      rw [List.reverse_eq_nil_iff] at e
      rw [e] at h
      cases h
    | cons x r =>
      have hx : x ∈ l := List.mem_reverse.mp (by rw [e]; exact List.mem_cons_self)
      have h1 := hm x hx
      have ha : a ∈ x :: r := by rw [← e]; exact List.mem_reverse.mpr h
      rcases List.mem_cons.mp ha with q | q
      · rw [q]; rfl
      · rw [e] at hl
        have := (List.pairwise_cons.mp hl).1 a q
        omega
  have hpos : 0 < l.length := List.length_pos_of_mem h
  rw [List.getElem?_reverse (by omega)] at this
  simpa using this
theorem due_first {ps : List Int} (r : Row ps) (m : Int) : (due ps m)[0]? = some (endC ps m false) := first_of (due_sorted r m) (due_ends r m).1 fun z hz => (due_mem r m hz).1
theorem due_last {ps : List Int} (r : Row ps) (m : Int) : (due ps m)[(due ps m).length - 1]? = some (endC ps m true) := last_of (due_sorted r m) (due_ends r m).2 fun z hz => (due_mem r m hz).2
theorem div_add {p a b : Int} (ha : p ∣ a) : (a + b) / p = a / p + b / p := Int.add_ediv_of_dvd_left ha
theorem end_low {ps : List Int} (r : Row ps) (a b : Int) : endC ps a false + endC ps b false ≤ endC ps (a + b) false := by
  have hh := r.head
  have h := low_add r.qper (a := a * lastP ps) (b := b * lastP ps) (c := (a + b) * lastP ps) (by rw [Int.add_mul]; exact Int.le_refl _)
  obtain ⟨qs, e⟩ := r.qs
  have := Int.ediv_le_ediv (c := headP ps) (by omega) h
  rw [div_add (by rw [e]; exact low_dvd)] at this
  exact this
theorem end_high {ps : List Int} (r : Row ps) (a b : Int) : endC ps (a + b) true ≤ endC ps a true + endC ps b true := by
  have hh := r.head
  have h := high_add r.qper (a := a * lastP ps) (b := b * lastP ps) (c := (a + b) * lastP ps) (by rw [Int.add_mul]; exact Int.le_refl _)
  obtain ⟨qs, e⟩ := r.qs
  have := Int.ediv_le_ediv (c := headP ps) (by omega) h
  rw [div_add (by rw [e]; exact high_dvd)] at this
  exact this
theorem dreach_bd {ps : List Int} (r : Row ps) {m : Int} (m0 : 0 ≤ m) (m1 : m ≤ 2000) : ∀ z ∈ (qsOf ps).foldl dstep [m * lastP ps], 0 ≤ z ∧ z ≤ 130000 := fun z hz => by
  have hl := r.last
  have h0 : 0 ≤ m * lastP ps := Int.mul_nonneg m0 (by omega)
  have h1 : m * lastP ps ≤ 2000 * 60 := Int.mul_le_mul m1 hl.2 (by omega) (by omega)
  have := dfold_bd r.qper (l := [m * lastP ps]) (B := 120000) (fun z hz => by rw [List.mem_singleton.mp hz]; omega) z hz
  have hq := r.qlen
  have := r.hi
  omega
theorem due_bd {ps : List Int} (r : Row ps) {m : Int} (m0 : 0 ≤ m) (m1 : m ≤ 2000) : ∀ z ∈ due ps m, 0 ≤ z ∧ z ≤ 130000 := fun z hz => by
  obtain ⟨y, hy, rfl⟩ := List.mem_map.mp hz
  have h := dreach_bd r m0 m1 y hy
  have hh := r.head
  have h2 : y / headP ps ≤ y := Int.ediv_le_self _ h.1
  have h3 := Int.ediv_nonneg h.1 (show (0 : Int) ≤ headP ps by omega)
  show 0 ≤ y / headP ps ∧ y / headP ps ≤ 130000
  omega
theorem due_len {ps : List Int} (r : Row ps) (m : Int) : (due ps m).length ≤ 16 ∧ 1 ≤ (due ps m).length := by
  constructor
  · unfold due
    rw [List.length_map]
    have h := dfold_len (qs := qsOf ps) (l := [m * lastP ps])
    have hq := r.qlen
    have := r.hi
    have h4 : 2 ^ (qsOf ps).length ≤ 2 ^ 4 := Nat.pow_le_pow_right (by decide) (by omega)
    simp only [List.length_singleton, Nat.mul_one] at h
    omega
  · exact List.length_pos_of_mem (due_ends r m).1
end K12
namespace K12
open PySem PySem.Spec L2 Dx
open PyProof.Rows hiding St
local macro_rules | `(tactic| walk_at "sd") => `(tactic| first
  | omega
  | exact Or.inl ⟨by omega, by omega⟩
  | exact Or.inr ⟨by omega, by omega⟩
  | exact ⟨by omega, by omega⟩
  | (show CDiv _ _; exact ⟨by omega, by omega⟩)
  | (show CMul _ _; exact Or.inl ⟨by omega, by omega⟩)
  | (show CMul _ _; exact Or.inr ⟨by omega, by omega⟩)
  | rfl)
local macro_rules | `(tactic| walk_at "ev") => `(tactic| first
  | exact e_var rfl
  | exact e_int
  | exact e_bl
  | exact e_str
  | exact e_non
  | exact l_nil
  | exact b_yes
  | (apply e_add <;> first | walk_at "ev" | (intro _; walk_at "ev") | walk_at "sd" | skip)
  | (apply e_sub <;> first | walk_at "ev" | (intro _; walk_at "ev") | walk_at "sd" | skip)
  | (apply e_lt <;> first | walk_at "ev" | (intro _; walk_at "ev") | walk_at "sd" | skip)
  | (apply e_le <;> first | walk_at "ev" | (intro _; walk_at "ev") | walk_at "sd" | skip)
  | (apply e_gt <;> first | walk_at "ev" | (intro _; walk_at "ev") | walk_at "sd" | skip)
  | (apply e_ge <;> first | walk_at "ev" | (intro _; walk_at "ev") | walk_at "sd" | skip)
  | (apply e_eqI <;> first | walk_at "ev" | (intro _; walk_at "ev") | walk_at "sd" | skip)
  | (apply e_neI <;> first | walk_at "ev" | (intro _; walk_at "ev") | walk_at "sd" | skip)
  | (apply e_iop <;> first | walk_at "ev" | (intro _; walk_at "ev") | walk_at "sd" | skip)
  | (apply e_neg <;> first | walk_at "ev" | (intro _; walk_at "ev") | walk_at "sd" | skip)
  | (apply b_and <;> first | walk_at "ev" | (intro _; walk_at "ev") | walk_at "sd" | skip)
  | (apply b_or <;> first | walk_at "ev" | (intro _; walk_at "ev") | walk_at "sd" | skip)
  | (apply e_and <;> first | walk_at "ev" | (intro _; walk_at "ev") | walk_at "sd" | skip)
  | (apply e_or <;> first | walk_at "ev" | (intro _; walk_at "ev") | walk_at "sd" | skip)
  | (apply e_test <;> first | walk_at "ev" | (intro _; walk_at "ev") | walk_at "sd" | skip)
  | (apply e_tB <;> first | walk_at "ev" | (intro _; walk_at "ev") | walk_at "sd" | skip)
  | (apply b_not <;> first | walk_at "ev" | (intro _; walk_at "ev") | walk_at "sd" | skip)
  | (apply e_not <;> first | walk_at "ev" | (intro _; walk_at "ev") | walk_at "sd" | skip)
  | (apply cb_int <;> first | walk_at "ev" | (intro _; walk_at "ev") | walk_at "sd" | skip)
  | (apply cb_lenS <;> first | walk_at "ev" | (intro _; walk_at "ev") | walk_at "sd" | skip)
  | (apply l_cons <;> first | walk_at "ev" | (intro _; walk_at "ev") | walk_at "sd" | skip))
def top (i : Nat) : Stmt := PySem.Challenge.pw_lastcopied_k12_totals_by_choices.main.body.getD i (.Pass ⟨0, 0, 0, 0⟩)
abbrev s_is_integer : Stmt := top 6
abbrev N_is_integer : List Str := ["value"]
theorem sc_is_integer : FnScope N_is_integer ["value"] (defScope s_is_integer) := ⟨rfl, rfl, rfl, by decide +kernel, rfl, by decide +kernel, by decide +kernel⟩
abbrev s_is_within : Stmt := top 7
abbrev N_is_within : List Str := ["value", "least", "most"]
theorem sc_is_within : FnScope N_is_within ["value", "least", "most"] (defScope s_is_within) := ⟨rfl, rfl, rfl, by decide +kernel, rfl, by decide +kernel, by decide +kernel⟩
abbrev s_check_many : Stmt := top 8
abbrev N_check_many : List Str := ["many"]
theorem sc_check_many : FnScope N_check_many ["many"] (defScope s_check_many) := ⟨rfl, rfl, rfl, by decide +kernel, rfl, by decide +kernel, by decide +kernel⟩
abbrev s_ascending : Stmt := top 9
abbrev N_ascending : List Str := ["items", "found", "item", "low", "high", "middle"]
theorem sc_ascending : FnScope N_ascending ["items"] (defScope s_ascending) := ⟨rfl, rfl, rfl, by decide +kernel, rfl, by decide +kernel, by decide +kernel⟩
abbrev s_is_row : Stmt := top 14
abbrev N_is_row : List Str := ["value", "tie", "periods", "period"]
theorem sc_is_row : FnScope N_is_row ["value"] (defScope s_is_row) := ⟨rfl, rfl, rfl, by decide +kernel, rfl, by decide +kernel, by decide +kernel⟩
abbrev s_check_row : Stmt := top 15
abbrev N_check_row : List Str := ["row"]
theorem sc_check_row : FnScope N_check_row ["row"] (defScope s_check_row) := ⟨rfl, rfl, rfl, by decide +kernel, rfl, by decide +kernel, by decide +kernel⟩
abbrev s_totals : Stmt := top 17
abbrev N_totals : List Str := ["row", "many", "periods", "reached", "period", "below", "above", "number"]
theorem sc_totals : FnScope N_totals ["row", "many"] (defScope s_totals) := ⟨rfl, rfl, rfl, by decide +kernel, rfl, by decide +kernel, by decide +kernel⟩
abbrev s_loses : Stmt := top 18
abbrev N_loses : List Str := ["row"]
theorem sc_loses : FnScope N_loses ["row"] (defScope s_loses) := ⟨rfl, rfl, rfl, by decide +kernel, rfl, by decide +kernel, by decide +kernel⟩
abbrev s_repeats : Stmt := top 19
abbrev N_repeats : List Str := ["row"]
theorem sc_repeats : FnScope N_repeats ["row"] (defScope s_repeats) := ⟨rfl, rfl, rfl, by decide +kernel, rfl, by decide +kernel, by decide +kernel⟩
abbrev s_law_cell : Stmt := top 21
abbrev N_law_cell : List Str := ["script", "k"]
theorem sc_law_cell : FnScope N_law_cell ["script", "k"] (defScope s_law_cell) := ⟨rfl, rfl, rfl, by decide +kernel, rfl, by decide +kernel, by decide +kernel⟩
abbrev s_law_draw : Stmt := top 22
abbrev N_law_draw : List Str := ["cell", "k", "limit", "seed", "first", "second", "third"]
theorem sc_law_draw : FnScope N_law_draw ["cell", "k", "limit"] (defScope s_law_draw) := ⟨rfl, rfl, rfl, by decide +kernel, rfl, by decide +kernel, by decide +kernel⟩
abbrev s_law_periods : Stmt := top 24
abbrev N_law_periods : List Str := ["cell", "k", "greatest", "copiers", "many", "j"]
theorem sc_law_periods : FnScope N_law_periods ["cell", "k", "greatest", "copiers"] (defScope s_law_periods) := ⟨rfl, rfl, rfl, by decide +kernel, rfl, by decide +kernel, by decide +kernel⟩
abbrev s_law_same : Stmt := top 25
abbrev N_law_same : List Str := ["found", "due"]
theorem sc_law_same : FnScope N_law_same ["found", "due"] (defScope s_law_same) := ⟨rfl, rfl, rfl, by decide +kernel, rfl, by decide +kernel, by decide +kernel⟩
abbrev s_law_due : Stmt := top 26
abbrev N_law_due : List Str := ["periods", "length", "spans", "at", "later", "span", "low"]
theorem sc_law_due : FnScope N_law_due ["periods", "length"] (defScope s_law_due) := ⟨rfl, rfl, rfl, by decide +kernel, rfl, by decide +kernel, by decide +kernel⟩
abbrev s_law_end : Stmt := top 27
abbrev N_law_end : List Str := ["periods", "length", "up", "span", "at"]
theorem sc_law_end : FnScope N_law_end ["periods", "length", "up"] (defScope s_law_end) := ⟨rfl, rfl, rfl, by decide +kernel, rfl, by decide +kernel, by decide +kernel⟩
abbrev s_law_right : Stmt := top 28
abbrev N_law_right : List Str := ["cell", "line", "periods", "length", "due", "one", "two", "first", "second", "both", "ones"]
theorem sc_law_right : FnScope N_law_right ["cell"] (defScope s_law_right) := ⟨rfl, rfl, rfl, by decide +kernel, rfl, by decide +kernel, by decide +kernel⟩
abbrev s_law : Stmt := top 29
abbrev N_law : List Str := ["script", "k"]
theorem sc_law : FnScope N_law ["script"] (defScope s_law) := ⟨rfl, rfl, rfl, by decide +kernel, rfl, by decide +kernel, by decide +kernel⟩
/-- what the top has left -/
structure Tx (K : PySem.W.Frag) (mg : Str → Option Value) where
  a_is_integer : Addr
  d_is_integer : FuncData
  F_is_integer : Fun K "is_integer" "is_integer" s_is_integer a_is_integer d_is_integer
  b_is_integer : Binds K d_is_integer ["value"] []
  g_is_integer : mg "is_integer" = some (.ref a_is_integer)
  a_is_within : Addr
  d_is_within : FuncData
  F_is_within : Fun K "is_within" "is_within" s_is_within a_is_within d_is_within
  b_is_within : Binds K d_is_within ["value", "least", "most"] []
  g_is_within : mg "is_within" = some (.ref a_is_within)
  a_check_many : Addr
  d_check_many : FuncData
  F_check_many : Fun K "check_many" "check_many" s_check_many a_check_many d_check_many
  b_check_many : Binds K d_check_many ["many"] []
  g_check_many : mg "check_many" = some (.ref a_check_many)
  a_ascending : Addr
  d_ascending : FuncData
  F_ascending : Fun K "ascending" "ascending" s_ascending a_ascending d_ascending
  b_ascending : Binds K d_ascending ["items"] []
  g_ascending : mg "ascending" = some (.ref a_ascending)
  a_is_row : Addr
  d_is_row : FuncData
  F_is_row : Fun K "is_row" "is_row" s_is_row a_is_row d_is_row
  b_is_row : Binds K d_is_row ["value"] []
  g_is_row : mg "is_row" = some (.ref a_is_row)
  a_check_row : Addr
  d_check_row : FuncData
  F_check_row : Fun K "check_row" "check_row" s_check_row a_check_row d_check_row
  b_check_row : Binds K d_check_row ["row"] []
  g_check_row : mg "check_row" = some (.ref a_check_row)
  a_totals : Addr
  d_totals : FuncData
  F_totals : Fun K "totals" "totals" s_totals a_totals d_totals
  b_totals : Binds K d_totals ["row", "many"] []
  g_totals : mg "totals" = some (.ref a_totals)
  a_loses : Addr
  d_loses : FuncData
  F_loses : Fun K "loses" "loses" s_loses a_loses d_loses
  b_loses : Binds K d_loses ["row"] []
  g_loses : mg "loses" = some (.ref a_loses)
  a_repeats : Addr
  d_repeats : FuncData
  F_repeats : Fun K "repeats" "repeats" s_repeats a_repeats d_repeats
  b_repeats : Binds K d_repeats ["row"] []
  g_repeats : mg "repeats" = some (.ref a_repeats)
  a__law_cell : Addr
  d__law_cell : FuncData
  F__law_cell : Fun K "_law_cell" "_law_cell" s_law_cell a__law_cell d__law_cell
  b__law_cell : Binds K d__law_cell ["script", "k"] []
  g__law_cell : mg "_law_cell" = some (.ref a__law_cell)
  a__law_draw : Addr
  d__law_draw : FuncData
  F__law_draw : Fun K "_law_draw" "_law_draw" s_law_draw a__law_draw d__law_draw
  b__law_draw : Binds K d__law_draw ["cell", "k", "limit"] []
  g__law_draw : mg "_law_draw" = some (.ref a__law_draw)
  a__law_periods : Addr
  d__law_periods : FuncData
  F__law_periods : Fun K "_law_periods" "_law_periods" s_law_periods a__law_periods d__law_periods
  b__law_periods : Binds K d__law_periods ["cell", "k", "greatest", "copiers"] []
  g__law_periods : mg "_law_periods" = some (.ref a__law_periods)
  a__law_same : Addr
  d__law_same : FuncData
  F__law_same : Fun K "_law_same" "_law_same" s_law_same a__law_same d__law_same
  b__law_same : Binds K d__law_same ["found", "due"] []
  g__law_same : mg "_law_same" = some (.ref a__law_same)
  a__law_due : Addr
  d__law_due : FuncData
  F__law_due : Fun K "_law_due" "_law_due" s_law_due a__law_due d__law_due
  b__law_due : Binds K d__law_due ["periods", "length"] []
  g__law_due : mg "_law_due" = some (.ref a__law_due)
  a__law_end : Addr
  d__law_end : FuncData
  F__law_end : Fun K "_law_end" "_law_end" s_law_end a__law_end d__law_end
  b__law_end : Binds K d__law_end ["periods", "length", "up"] []
  g__law_end : mg "_law_end" = some (.ref a__law_end)
  a__law_right : Addr
  d__law_right : FuncData
  F__law_right : Fun K "_law_right" "_law_right" s_law_right a__law_right d__law_right
  b__law_right : Binds K d__law_right ["cell"] []
  g__law_right : mg "_law_right" = some (.ref a__law_right)
  a_law : Addr
  d_law : FuncData
  F_law : Fun K "law" "law" s_law a_law d_law
  b_law : Binds K d_law ["script"] []
  g_law : mg "law" = some (.ref a_law)
  t_FEWEST_COPIERS : Tok
  g_FEWEST_COPIERS : mg "FEWEST_COPIERS" = some (.int 2 t_FEWEST_COPIERS)
  t_MOST_COPIERS : Tok
  g_MOST_COPIERS : mg "MOST_COPIERS" = some (.int 5 t_MOST_COPIERS)
  t_MOST_MANY : Tok
  g_MOST_MANY : mg "MOST_MANY" = some (.int 2000 t_MOST_MANY)
  t_MOST_PERIOD : Tok
  g_MOST_PERIOD : mg "MOST_PERIOD" = some (.int 60 t_MOST_PERIOD)
  n_all : mg "all" = none
  n_bool : mg "bool" = none
  n_int : mg "int" = none
  n_isinstance : mg "isinstance" = none
  n_len : mg "len" = none
  n_max : mg "max" = none
  n_min : mg "min" = none
  n_range : mg "range" = none
  n_repr : mg "repr" = none
  n_set : mg "set" = none
  n_sorted : mg "sorted" = none
  n_str : mg "str" = none
  n_tuple : mg "tuple" = none
/-! ### what the law draws -/
def r1 (c k : Int) : Int := (c * 48271 + 7919 * k * k + 30011) % 1000000007
def r2 (s k : Int) : Int := (s * s + 60493 * k) % 2147483629
def r3 (f s : Int) : Int := (f * f + s) % 2147483587
def r4 (e f : Int) : Int := (e * e + f) % 2147483563
def rnd (c k : Int) : Int := r4 (r3 (r2 (r1 c k) k) (r1 c k)) (r2 (r1 c k) k) / 64
def draw (cell k limit : Int) : Int :=
  if 10 ^ 18 ≤ cell ∧ 0 < cell / 2 ^ (14 * k).toNat then cell / 2 ^ (14 * k).toNat % 16384 % limit else rnd cell k % limit
theorem draw_lo {cell k limit : Int} (h : 0 < limit) : 0 ≤ draw cell k limit := by
  unfold draw
  split
  · exact Int.emod_nonneg _ (by omega)
  · exact Int.emod_nonneg _ (by omega)
theorem draw_hi {cell k limit : Int} (h : 0 < limit) : draw cell k limit < limit := by
  unfold draw
  split
  · exact Int.emod_lt_of_pos _ h
  · exact Int.emod_lt_of_pos _ h
def fDraw : List PyData → PyData
  | [.int c, .int k, .int l] => .int (draw c k l)
  | _ => .none
section
variable {Pg : Program} {w : World} {K : PySem.W.Frag} {mg : Str → Option Value} {base : Heap}
theorem ok_law_draw (T : Tx K mg) : Dx.FnG Pg w K mg base CX0 1 T.a__law_draw T.d__law_draw ["cell", "k", "limit"] (spD K (fun ds => ∃ c k l : Int, ds = [.int c, .int k, .int l] ∧ 0 ≤ k ∧ k ≤ 5000 ∧ 0 < l) fDraw) := by
  refine fnG_ok T.F__law_draw sc_law_draw (fun ds ⟨_, _, _, e, _⟩ => by rw [e]; rfl) fun cdv A out s H E clr hr => ⟨_, (pss_cons (ps_if (PW.pt (pw_and (pt_cmpR op_ge (pv 0) (pe_op op_pow pe_int pe_int) (nomark _)) (pw_and1 (pt_cmpR op_gt (pe_op op_shr (pv 0) (pe_op op_mul pe_int (pv 1))) pe_int (nomark _))))) (pss_one (ps_ret (pe_op op_mod (pe_op op_mod (pe_callTy call_int1 (by rfl) T.n_int (by decide +kernel) (pa_cons (pe_op op_shr (pv 0) (pe_op op_mul pe_int (pv 1))) pa_nil)) pe_int) (pv 2)))) pss_nil) (pss_cons (ps_set (i := 3) sc_law_draw.nd rfl (Or.inl rfl) (pe_op op_mod (pe_callTy call_int1 (by rfl) T.n_int (by decide +kernel) (pa_cons (pe_op op_add (pe_op op_add (pe_op op_mul (pv 0) pe_int) (pe_op op_mul (pe_op op_mul pe_int (pv 1)) (pv 1))) pe_int) pa_nil)) pe_int)) (pss_cons (ps_set (i := 4) sc_law_draw.nd rfl (Or.inl rfl) (pe_op op_mod (pe_callTy call_int1 (by rfl) T.n_int (by decide +kernel) (pa_cons (pe_op op_add (pe_op op_mul (pv 3) (pv 3)) (pe_op op_mul pe_int (pv 1))) pa_nil)) pe_int)) (pss_cons (ps_set (i := 5) sc_law_draw.nd rfl (Or.inl rfl) (pe_op op_mod (pe_callTy call_int1 (by rfl) T.n_int (by decide +kernel) (pa_cons (pe_op op_add (pe_op op_mul (pv 4) (pv 4)) (pv 3)) pa_nil)) pe_int)) (pss_cons (ps_set (i := 6) sc_law_draw.nd rfl (Or.inl rfl) (pe_op op_mod (pe_callTy call_int1 (by rfl) T.n_int (by decide +kernel) (pa_cons (pe_op op_add (pe_op op_mul (pv 5) (pv 5)) (pv 4)) pa_nil)) pe_int)) (pss_one (ps_ret (pe_op op_mod (pe_callTy call_int1 (by rfl) T.n_int (by decide +kernel) (pa_cons (pe_op op_fdiv (pv 6) pe_int) pa_nil)) (pv 2))))))))), ?_⟩
  rintro ds ⟨c, k, l, rfl, k0, k1, l0⟩
  have e : startE N_law_draw [.int c, .int k, .int l] = [.dat (.int c), .dat (.int k), .dat (.int l), .no, .no, .no, .no] := rfl
  rw [e]
  have hg : fDraw [.int c, .int k, .int l] = .int (draw c k l) := rfl
  rw [hg]
  apply x_sif
  case h => walk_at "ev"
  case h1 =>
    intro h
    apply x_sret
    case h => walk_at "ev"
    case hp =>
      rw [Bool.and_eq_true] at h
      have h2 : 10 ^ 18 ≤ c ∧ 0 < c / 2 ^ (14 * k).toNat := ⟨of_decide_eq_true h.1, of_decide_eq_true h.2⟩
      show PyData.int (c / 2 ^ (14 * k).toNat % 16384 % l) = PyData.int (draw c k l)
      unfold draw
      rw [if_pos h2]
  case h2 =>
    intro h
    have hn : ¬ (10 ^ 18 ≤ c ∧ 0 < c / 2 ^ (14 * k).toNat) := by
      intro z
      rw [show (10 ^ Int.toNat 18 : Int) = 10 ^ 18 from rfl, decide_eq_true z.1, decide_eq_true z.2] at h
      cases h
    have er : draw c k l = rnd c k % l := by
      unfold draw
      rw [if_neg hn]
    rw [er]
    unfold rnd
    apply x_sset (d := .int (r1 c k)) (hn := rfl)
    case h => walk_at "ev"
    have b1 : 0 ≤ r1 c k := Int.emod_nonneg _ (by omega)
    have b2 : r1 c k < 1000000007 := Int.emod_lt_of_pos _ (by omega)
    generalize r1 c k = seed at b1 b2 ⊢
    apply x_sset (d := .int (r2 seed k)) (hn := rfl)
    case h => walk_at "ev"
    have b3 : 0 ≤ r2 seed k := Int.emod_nonneg _ (by omega)
    have b4 : r2 seed k < 2147483629 := Int.emod_lt_of_pos _ (by omega)
    generalize r2 seed k = first at b3 b4 ⊢
    apply x_sset (d := .int (r3 first seed)) (hn := rfl)
    case h => walk_at "ev"
    have b5 : 0 ≤ r3 first seed := Int.emod_nonneg _ (by omega)
    have b6 : r3 first seed < 2147483587 := Int.emod_lt_of_pos _ (by omega)
    generalize r3 first seed = second at b5 b6 ⊢
    apply x_sset (d := .int (r4 second first)) (hn := rfl)
    case h => walk_at "ev"
    apply x_ret
    case h => walk_at "ev"
    case hp => rfl
/-! ### the script's cells -/
def cellOf (ns : List Int) (k : Int) : Int := if k < ns.length then ns.getD k.toNat 0 else 0
def fCell : List PyData → PyData
  | [.dict [(.list ds, .none)], .int k] => .int (cellOf (ds.map fun d => match d with | .int i => i | _ => 0) k)
  | _ => .none
theorem ok_law_cell (T : Tx K mg) : Dx.FnG Pg w K mg base CX0 1 T.a__law_cell T.d__law_cell ["script", "k"] (spD K (fun ds => ∃ (ns : List Int) (k : Int), ds = [scrD ns, .int k] ∧ 0 ≤ k) fCell) := by
  refine fnG_ok T.F__law_cell sc_law_cell (fun ds ⟨_, _, e, _⟩ => by rw [e]; rfl) fun cdv A out s H E clr hr => ⟨_, (pss_cons (ps_if (pt_cmpR op_lt (pv 1) (pe_callB call_len_seq (by rfl) T.n_len (by decide +kernel) (pa_cons (pv 0) pa_nil)) (nomark _)) (pss_one (ps_ret (pe_ix (r := rIxL K) ix_list (pv 0) (pv 1) (fun _ _ => rfl)))) pss_nil) (pss_one (ps_ret pe_int))), ?_⟩
  rintro ds ⟨ns, k, rfl, k0⟩
  have e : startE N_law_cell [scrD ns, .int k] = [.dat (scrD ns), .dat (.int k)] := rfl
  rw [e]
  have hg : fCell [scrD ns, .int k] = .int (cellOf ns k) := by
    show PyData.int (cellOf ((ns.map PyData.int).map fun d => match d with | .int i => i | _ => 0) k) = _
    rw [List.map_map]
    have : ((fun d => match d with | PyData.int i => i | _ => 0) ∘ PyData.int) = (id : Int → Int) := rfl
    rw [this, List.map_id]
  rw [hg]
  apply x_sif
  case h => walk_at "ev"
  case h1 =>
    intro h
    have hl : k < ns.length := of_decide_eq_true h
    apply x_sret (d := .int (cellOf ns k)) (hp := rfl)
    refine e_ixS (e_var rfl) (e_var rfl) ?_
    unfold atI ixN cellOf
    rw [if_pos k0, if_pos hl, if_pos hl]
    show ns[k.toNat]? = _
    rw [List.getD_eq_getElem?_getD, List.getElem?_eq_getElem (by omega)]
    rfl
  case h2 =>
    intro h
    have hl : ¬ k < ns.length := of_decide_eq_false h
    apply x_ret (d := .int (cellOf ns k)) (hp := rfl)
    unfold cellOf
    rw [if_neg hl]
    exact e_int
/-! ### a row's periods -/
def perL (c k g m : Int) : List Int := (List.range (2 + draw c k (m - 1)).toNat).map fun j => 1 + draw c (k + 1 + (j : Nat)) g
def fPeriods : List PyData → PyData
  | [.int c, .int k, .int g, .int m] => .tuple ((perL c k g m).map PyData.int)
  | _ => .none
theorem ok_law_periods (T : Tx K mg) : Dx.FnG Pg w K mg base CX0 2 T.a__law_periods T.d__law_periods ["cell", "k", "greatest", "copiers"] (spD K (fun ds => ∃ c k g m : Int, ds = [.int c, .int k, .int g, .int m] ∧ 0 ≤ k ∧ k ≤ 4000 ∧ 0 < g ∧ 1 < m ∧ m ≤ 60) fPeriods) := by
  refine fnG_ok T.F__law_periods sc_law_periods (fun ds ⟨_, _, _, _, e, _⟩ => by rw [e]; rfl) fun cdv A out s H E clr hr => ⟨_, (pss_cons (ps_set (i := 4) sc_law_periods.nd rfl (Or.inl rfl) (pe_op op_add pe_int (Dx.pe_callG (ok_law_draw T) clr (hr.mono (by decide)) (by rfl) T.g__law_draw T.F__law_draw.kp T.b__law_draw pass0 (pa_cons (pv 0) (pa_cons (pv 1) (pa_cons (pe_op op_sub (pv 3) pe_int) pa_nil)))))) (pss_one (ps_ret (pe_callTy call_tuple_of (by rfl) T.n_tuple (by decide +kernel) (pa_cons (pe_lc (own := [("j", 5)]) (g := gName 5) (tt := tYes) rfl sc_law_periods.nd (pi_range1 (by rfl) T.n_range (pa_cons (pv 4) pa_nil)) (blkOk_by (own := [("j", 5)]) (N := N_law_periods) (sc := defScope s_law_periods) (by decide +kernel)) (fun _ _ _ _ _ => (pg_name (i := 5) sc_law_periods.nd rfl (Or.inl rfl))) (fun _ _ _ _ _ => pts_nil) (fun _ _ _ _ _ => (pe_op op_add pe_int (Dx.pe_callG (ok_law_draw T) clr (hr.mono (by decide)) (by rfl) T.g__law_draw T.F__law_draw.kp T.b__law_draw pass0 (pa_cons (pv 0) (pa_cons (pe_op op_add (pe_op op_add (pv 1) pe_int) (pv 5)) (pa_cons (pv 2) pa_nil))))))) pa_nil))))), ?_⟩
  rintro ds ⟨c, k, g, m, rfl, k0, k1, g0, m0, m1⟩
  have e : startE N_law_periods [.int c, .int k, .int g, .int m] = [.dat (.int c), .dat (.int k), .dat (.int g), .dat (.int m), .no, .no] := rfl
  rw [e]
  have hg : fPeriods [.int c, .int k, .int g, .int m] = .tuple ((perL c k g m).map PyData.int) := rfl
  rw [hg]
  have d0 := draw_lo (cell := c) (k := k) (limit := m - 1) (by omega)
  have d1 := draw_hi (cell := c) (k := k) (limit := m - 1) (by omega)
  apply x_sset (d := .int (2 + draw c k (m - 1))) (hn := rfl)
  case h =>
    refine e_add e_int ?_
    refine (e_call (ds := [.int c, .int k, .int (m - 1)]) ?_ ⟨_, _, _, rfl, k0, by omega, by omega⟩).cast rfl
    walk_at "ev"
  apply x_ret (d := .tuple ((perL c k g m).map PyData.int)) (hp := rfl)
  refine cb_tuple (l_cons (EvF.d ?_) l_nil)
  refine (f_map (ds := rng 0 (2 + draw c k (m - 1)).toNat) (f := fun d => match d with | .int j => .int (1 + draw c (k + 1 + j) g) | _ => .none) (i_rng1 (l_cons (e_var rfl) l_nil) (by omega) (by omega)) ?_ ?_).cast ?_
  · rw [rng_len]
    show _ ≤ 2 ^ 24
    omega
  · intro d hd
    obtain ⟨i, hi⟩ := List.mem_iff_getElem?.mp hd
    obtain ⟨h1, rfl⟩ := rng_at hi
    refine e_add e_int ?_
    refine (e_call (ds := [.int c, .int (k + 1 + (0 + (i : Int))), .int g]) ?_ ⟨_, _, _, rfl, by omega, by omega, g0⟩).cast rfl
    walk_at "ev"
  · unfold perL rng
    rw [List.map_map, List.map_map]
    refine List.map_congr_left fun j _ => ?_
    show PyData.int (1 + draw c (k + 1 + (0 + (j : Int))) g) = PyData.int (1 + draw c (k + 1 + (j : Int)) g)
    rw [Int.zero_add]
/-! ### the program: integers, rows -/
def isIntD : PyData → Bool
  | .int _ => true
  | _ => false
def fIsInt : List PyData → PyData
  | [d] => .bool (isIntD d)
  | _ => .none
theorem ok_is_integer (T : Tx K mg) : Dx.FnG Pg w K mg base CX0 1 T.a_is_integer T.d_is_integer ["value"] (spD K (fun ds => ∃ d, ds = [d] ∧ noX d = true) fIsInt) := by
  refine fnG_ok T.F_is_integer sc_is_integer (fun ds ⟨_, e, _⟩ => by rw [e]; rfl) fun cdv A out s H E clr hr => ⟨_, (pss_one (ps_ret (pe_and (pe_callB (r := rIsi K) call_isi (by rfl) T.n_isinstance (by decide +kernel) (pa_cons (pv 0) (pa_cons (pe_bltn (v := .ty "int") (u := .type "int") (by rfl) T.n_int (by decide +kernel) rfl) pa_nil))) (pe_one (pe_not (pe_callB (r := rIsi K) call_isi (by rfl) T.n_isinstance (by decide +kernel) (pa_cons (pv 0) (pa_cons (pe_bltn (v := .ty "bool") (u := .type "bool") (by rfl) T.n_bool (by decide +kernel) rfl) pa_nil)))))))), ?_⟩
  rintro ds ⟨d, rfl, hx⟩
  have e : startE N_is_integer [d] = [.dat d] := rfl
  rw [e]
  apply x_ret
  case hp => rfl
  case h =>
    cases d with
    | int i => exact (e_and (cb_is (T := "int") (b := true) (e_var rfl) rfl rfl (by decide +kernel)) fun _ => e_not (cb_is (T := "int") (b := false) (e_var rfl) rfl rfl (by decide +kernel))).cast rfl
    | bool i => exact (e_and (cb_is (T := "bool") (b := true) (e_var rfl) rfl rfl (by decide +kernel)) fun _ => e_not (cb_is (T := "bool") (b := true) (e_var rfl) rfl rfl (by decide +kernel))).cast rfl
    | none => exact (e_and (b := false) (cb_is (T := "NoneType") (b := false) (e_var rfl) rfl rfl (by decide +kernel)) fun h => nomatch h).cast rfl
    | str x => exact (e_and (b := false) (cb_is (T := "str") (b := false) (e_var rfl) rfl rfl (by decide +kernel)) fun h => nomatch h).cast rfl
    | list x => exact (e_and (b := false) (cb_is (T := "list") (b := false) (e_var rfl) hx rfl (by decide +kernel)) fun h => nomatch h).cast rfl
    | tuple x => exact (e_and (b := false) (cb_is (T := "tuple") (b := false) (e_var rfl) hx rfl (by decide +kernel)) fun h => nomatch h).cast rfl
    | dict x => simp [noX] at hx
def within (d : PyData) (a b : Int) : Bool := match d with
  | .int i => decide (a ≤ i) && decide (i ≤ b)
  | _ => false
def fWithin : List PyData → PyData
  | [d, .int a, .int b] => .bool (within d a b)
  | _ => .none
theorem ok_is_within (T : Tx K mg) : Dx.FnG Pg w K mg base CX0 2 T.a_is_within T.d_is_within ["value", "least", "most"] (spD K (fun ds => ∃ d a b, ds = [d, .int a, .int b] ∧ noX d = true) fWithin) := by
  refine fnG_ok T.F_is_within sc_is_within (fun ds ⟨_, _, _, e, _⟩ => by rw [e]; rfl) fun cdv A out s H E clr hr => ⟨_, (pss_one (ps_ret (pe_and (Dx.pe_callG (ok_is_integer T) clr (hr.mono (by decide)) (by rfl) T.g_is_integer T.F_is_integer.kp T.b_is_integer pass0 (pa_cons (pv 0) pa_nil)) (pe_one (pe_chain op_le op_le (pv 1) (pv 0) (pv 2)))))), ?_⟩
  rintro ds ⟨d, a, b, rfl, hx⟩
  have e : startE N_is_within [d, .int a, .int b] = [.dat d, .dat (.int a), .dat (.int b)] := rfl
  rw [e]
  apply x_ret (d := .bool (within d a b)) (hp := rfl)
  cases d with
  | int i => exact (e_and ((e_call (ds := [.int i]) (l_cons (e_var rfl) l_nil) ⟨_, rfl, hx⟩).cast (show fIsInt [.int i] = .bool true from rfl)) fun _ => e_chle (e_var rfl) (e_var rfl) (e_var rfl)).cast rfl
  | bool i => exact (e_and (b := false) ((e_call (ds := [.bool i]) (l_cons (e_var rfl) l_nil) ⟨_, rfl, hx⟩).cast (show fIsInt [.bool i] = .bool false from rfl)) fun h => nomatch h).cast rfl
  | none => exact (e_and (b := false) ((e_call (ds := [.none]) (l_cons (e_var rfl) l_nil) ⟨_, rfl, hx⟩).cast (show fIsInt [.none] = .bool false from rfl)) fun h => nomatch h).cast rfl
  | str x => exact (e_and (b := false) ((e_call (ds := [.str x]) (l_cons (e_var rfl) l_nil) ⟨_, rfl, hx⟩).cast (show fIsInt [.str x] = .bool false from rfl)) fun h => nomatch h).cast rfl
  | list x => exact (e_and (b := false) ((e_call (ds := [.list x]) (l_cons (e_var rfl) l_nil) ⟨_, rfl, hx⟩).cast (show fIsInt [.list x] = .bool false from rfl)) fun h => nomatch h).cast rfl
  | tuple x => exact (e_and (b := false) ((e_call (ds := [.tuple x]) (l_cons (e_var rfl) l_nil) ⟨_, rfl, hx⟩).cast (show fIsInt [.tuple x] = .bool false from rfl)) fun h => nomatch h).cast rfl
  | dict x => simp [noX] at hx
def fNone : List PyData → PyData := fun _ => .none
theorem ok_check_many (T : Tx K mg) : Dx.FnG Pg w K mg base CX0 3 T.a_check_many T.d_check_many ["many"] (spD K (fun ds => ∃ m : Int, ds = [.int m] ∧ 0 ≤ m ∧ m ≤ 2000) fNone) := by
  refine fnG_ok T.F_check_many sc_check_many (fun ds ⟨_, e, _⟩ => by rw [e]; rfl) fun cdv A out s H E clr hr => ⟨_, (pss_one (ps_if (pt_not (pt_val (Dx.pe_callG (ok_is_within T) clr (hr.mono (by decide)) (by rfl) T.g_is_within T.F_is_within.kp T.b_is_within pass0 (pa_cons (pv 0) (pa_cons pe_int (pa_cons (pe_glob (v := .int (2000)) rfl T.g_MOST_MANY ⟨T.t_MOST_MANY, rfl⟩) pa_nil)))))) (pss_one ps_never) pss_nil)), ?_⟩
  rintro ds ⟨m, rfl, m0, m1⟩
  have e : startE N_check_many [.int m] = [.dat (.int m)] := rfl
  rw [e]
  have h1 : within (.int m) 0 2000 = true := by
    show (decide (0 ≤ m) && decide (m ≤ 2000)) = true
    rw [decide_eq_true m0, decide_eq_true m1]
    rfl
  refine x_if (b := false) ?_ (fun h => nomatch h) (fun _ => x_nil rfl)
  refine (b_not (e_tB ((e_call (ds := [.int m, .int 0, .int 2000]) ?_ ⟨_, _, _, rfl, rfl⟩).cast (congrArg PyData.bool h1)))).cast rfl
  walk_at "ev"
def rowD (tie : Str) (ps : List Int) : PyData := .tuple [.str tie, .tuple (ps.map PyData.int)]
def isTie (t : Str) : Prop := t = "new" ∨ t = "old"
theorem isTie.ind {t : Str} (h : isTie t) : inV (vOf (.str t)) ([PyData.str "new", PyData.str "old"].map vOf) = true := by
  rcases h with rfl | rfl <;> decide +kernel
theorem ok_is_row (T : Tx K mg) : Dx.FnG Pg w K mg base CX0 3 T.a_is_row T.d_is_row ["value"] (spD K (fun ds => ∃ tie ps, ds = [rowD tie ps] ∧ isTie tie ∧ Row ps) (fun _ => .bool true)) := by
  refine fnG_ok T.F_is_row sc_is_row (fun ds ⟨_, _, e, _⟩ => by rw [e]; rfl) fun cdv A out s H E clr hr => ⟨_, (pss_cons (ps_if (PW.pt (pw_or (pt_not (pt_val (pe_callB (r := rIsi K) call_isi (by rfl) T.n_isinstance (by decide +kernel) (pa_cons (pv 0) (pa_cons (pe_bltn (v := .ty "tuple") (u := .type "tuple") (by rfl) T.n_tuple (by decide +kernel) rfl) pa_nil))))) (pw_or1 (pt_cmpR op_ne (pe_callB call_len_seq (by rfl) T.n_len (by decide +kernel) (pa_cons (pv 0) pa_nil)) pe_int (nomark _))))) (pss_one (ps_ret pe_bl)) pss_nil) (pss_cons (ps_asg (pv 0) (pg_tup rfl (pgs_cons (pg_name (i := 1) sc_is_row.nd rfl (Or.inl rfl)) (pgs_cons (pg_name (i := 2) sc_is_row.nd rfl (Or.inl rfl)) pgs_nil)))) (pss_cons (ps_if (PW.pt (pw_or (pt_not (pt_val (pe_callB (r := rIsi K) call_isi (by rfl) T.n_isinstance (by decide +kernel) (pa_cons (pv 1) (pa_cons (pe_bltn (v := .ty "str") (u := .type "str") (by rfl) T.n_str (by decide +kernel) rfl) pa_nil))))) (pw_or1 (pt_cmpR (r := rIn K true) op_notIn_seq (pv 1) (pe_tup (pa_cons pe_str (pa_cons pe_str pa_nil))) (by rfl))))) (pss_one (ps_ret pe_bl)) pss_nil) (pss_cons (ps_if (PW.pt (pw_or (pt_not (pt_val (pe_callB (r := rIsi K) call_isi (by rfl) T.n_isinstance (by decide +kernel) (pa_cons (pv 2) (pa_cons (pe_bltn (v := .ty "tuple") (u := .type "tuple") (by rfl) T.n_tuple (by decide +kernel) rfl) pa_nil))))) (pw_or1 (pt_not (pt_chain op_le op_le (pe_glob (v := .int (2)) rfl T.g_FEWEST_COPIERS ⟨T.t_FEWEST_COPIERS, rfl⟩) (pe_callB call_len_seq (by rfl) T.n_len (by decide +kernel) (pa_cons (pv 2) pa_nil)) (pe_glob (v := .int (5)) rfl T.g_MOST_COPIERS ⟨T.t_MOST_COPIERS, rfl⟩)))))) (pss_one (ps_ret pe_bl)) pss_nil) (pss_one (ps_ret (pe_callB (r := rAll K) (cr_all rfl) (by rfl) T.n_all (by decide +kernel) (pa_cons (pe_lc (own := [("period", 3)]) (g := gName 3) (tt := tYes) rfl sc_is_row.nd (pi_tup (pv 2)) (blkOk_by (own := [("period", 3)]) (N := N_is_row) (sc := defScope s_is_row) (by decide +kernel)) (fun _ _ _ _ _ => (pg_name (i := 3) sc_is_row.nd rfl (Or.inl rfl))) (fun _ _ _ _ _ => pts_nil) (fun _ _ _ _ _ => (Dx.pe_callG (ok_is_within T) clr (hr.mono (by decide)) (by rfl) T.g_is_within T.F_is_within.kp T.b_is_within pass0 (pa_cons (pv 3) (pa_cons pe_int (pa_cons (pe_glob (v := .int (60)) rfl T.g_MOST_PERIOD ⟨T.t_MOST_PERIOD, rfl⟩) pa_nil)))))) pa_nil)))))))), ?_⟩
  rintro ds ⟨tie, ps, rfl, ht, r⟩
  have e : startE N_is_row [rowD tie ps] = [.dat (rowD tie ps), .no, .no, .no] := rfl
  rw [e]
  have nx : noXs (ps.map PyData.int) = true := by
    clear e r
    induction ps with
    | nil => rfl
    | cons p ps ih =>
      rw [List.map_cons]
      simp only [noXs, noX, ih]
      rfl
  have hr1 : noX (rowD tie ps) = true := by
    show (noX (.str tie) && (noX (.tuple (ps.map PyData.int)) && true)) = true
    simp only [noX, nx]
    rfl
  refine x_sif (b := false) ?_ (fun h => nomatch h) (fun _ => ?_)
  · refine (b_or (b := false) (b_not (e_tB (cb_is (T := "tuple") (b := true) (e_var rfl) hr1 rfl (by decide +kernel)))) fun _ => ?_).cast rfl
    exact (e_test (e_neI (cb_lenT (l_cons (e_var rfl) l_nil)) e_int)).cast rfl
  refine x_sasg (e_var rfl) (g_tup (gs_name (gs_name gs_nil)) rfl) ?_
  show ExD K _ [.dat (rowD tie ps), .dat (.str tie), .dat (.tuple (ps.map PyData.int)), .no] _
  refine x_sif (b := false) ?_ (fun h => nomatch h) (fun _ => ?_)
  · refine (b_or (b := false) (b_not (e_tB (cb_is (T := "str") (b := true) (e_var rfl) rfl rfl (by decide +kernel)))) fun _ => ?_).cast rfl
    refine EvB.cast (e_test (e_inT (neg := true) (e_var rfl) (e_tup (l_cons e_str (l_cons e_str l_nil)) (by decide)) rfl rfl)) ?_
    show (!inV (vOf (.str tie)) ([PyData.str "new", PyData.str "old"].map vOf)) = false
    rw [ht.ind]
    rfl
  refine x_sif (b := false) ?_ (fun h => nomatch h) (fun _ => ?_)
  · refine (b_or (b := false) (b_not (e_tB (cb_is (T := "tuple") (b := true) (e_var rfl) (by simp only [noX]; exact nx) rfl (by decide +kernel)))) fun _ => ?_).cast rfl
    refine (b_not (e_test (e_chle e_int (cb_lenT (l_cons (e_var rfl) l_nil)) e_int))).cast ?_
    rw [List.length_map, decide_eq_true (by have := r.lo; omega), decide_eq_true (by have := r.hi; omega)]
    rfl
  apply x_ret (d := .bool true) (hp := rfl)
  refine (cb_all (bs := ps.map fun _ => true) (l_cons (EvF.d ?_) l_nil)).cast ?_
  · refine (f_map (ds := ps.map PyData.int) (f := fun d => .bool (within d 1 60)) (i_tup (e_var rfl)) ?_ ?_).cast ?_
    · rw [List.length_map]
      have := r.hi
      show _ ≤ 2 ^ 24
      omega
    · intro d hd
      obtain ⟨p, hp, rfl⟩ := List.mem_map.mp hd
      refine (e_call (ds := [.int p, .int 1, .int 60]) ?_ ⟨_, _, _, rfl, rfl⟩).cast rfl
      walk_at "ev"
    · rw [List.map_map, List.map_map]
      refine List.map_congr_left fun p hp => ?_
      show PyData.bool (decide (1 ≤ p) && decide (p ≤ 60)) = PyData.bool true
      rw [decide_eq_true (r.per p hp).1, decide_eq_true (r.per p hp).2]
      rfl
  · congr 1
    rw [List.all_map]
    exact List.all_eq_true.mpr fun _ _ => rfl
theorem ok_check_row (T : Tx K mg) : Dx.FnG Pg w K mg base CX0 4 T.a_check_row T.d_check_row ["row"] (spD K (fun ds => ∃ tie ps, ds = [rowD tie ps] ∧ isTie tie ∧ Row ps) fNone) := by
  refine fnG_ok T.F_check_row sc_check_row (fun ds ⟨_, _, e, _⟩ => by rw [e]; rfl) fun cdv A out s H E clr hr => ⟨_, (pss_one (ps_if (pt_not (pt_val (Dx.pe_callG (ok_is_row T) clr (hr.mono (by decide)) (by rfl) T.g_is_row T.F_is_row.kp T.b_is_row pass0 (pa_cons (pv 0) pa_nil)))) (pss_one ps_never) pss_nil)), ?_⟩
  rintro ds ⟨tie, ps, rfl, ht, r⟩
  have e : startE N_check_row [rowD tie ps] = [.dat (rowD tie ps)] := rfl
  rw [e]
  refine x_if (b := false) ?_ (fun h => nomatch h) (fun _ => x_nil rfl)
  exact (b_not (e_tB ((e_call (ds := [rowD tie ps]) (l_cons (e_var rfl) l_nil) ⟨_, _, rfl, ht, r⟩).cast rfl))).cast rfl
/-! ### ascending -/
abbrev iL (ns : List Int) : PyData := .list (ns.map PyData.int)
def fAsc : List PyData → PyData
  | [.list ds] => iL (usort (ds.map fun d => match d with | .int i => i | _ => 0))
  | _ => .none
theorem unint (ns : List Int) : ((ns.map PyData.int).map fun d => match d with | .int i => i | _ => 0) = ns := by
  rw [List.map_map]
  have : ((fun d => match d with | PyData.int i => i | _ => 0) ∘ PyData.int) = (id : Int → Int) := rfl
  rw [this, List.map_id]
theorem atI_at {l : List PyData} {j : Nat} {d : PyData} (h : l[j]? = some d) : atI l (j : Int) = some d := atI_nat h
theorem usort_snoc (l : List Int) (x : Int) : usort (l ++ [x]) = ins x (usort l) :=
  sorted_ext (usort_sorted _) (ins_sorted (usort_sorted _)) fun z => by
    rw [mem_usort, mem_ins, mem_usort, List.mem_append, List.mem_singleton]
    exact Or.comm
theorem ins_cut {F : List Int} {x : Int} {j : Nat} (hs : F.Pairwise (· < ·)) (hj : j ≤ F.length) (h1 : ∀ (i : Nat) (y : Int), i < j → F[i]? = some y → y < x) (h2 : ∀ (i : Nat) (y : Int), j ≤ i → F[i]? = some y → x ≤ y) :
    (F[j]? ≠ some x → F.take j ++ [x] ++ F.drop j = ins x F) ∧ (F[j]? = some x → ins x F = F) := by
  have m1 : ∀ y ∈ F.take j, y < x := fun y hy => by
    obtain ⟨i, hi⟩ := List.mem_iff_getElem?.mp hy
    rw [List.getElem?_take] at hi
    split at hi
    · exact h1 i y (by assumption) hi
    · cases hi
  have m2 : ∀ y ∈ F.drop j, x ≤ y := fun y hy => by
    obtain ⟨i, hi⟩ := List.mem_iff_getElem?.mp hy
    rw [List.getElem?_drop] at hi
    exact h2 (j + i) y (by omega) hi
  have split := List.take_append_drop j F
  constructor
  · intro hne
    have m3 : ∀ y ∈ F.drop j, x < y := fun y hy => by
      have hy2 := m2 y hy
      by_cases e : y = x
      · exfalso
        subst e
        cases q : F.drop j with
        | nil => rw [q] at hy; cases hy
        | cons z r =>
          have hz : F[j]? = some z := by
            have : (F.drop j)[0]? = some z := by rw [q]; rfl
            rwa [List.getElem?_drop, Nat.add_zero] at this
          rw [q] at hy
          rcases List.mem_cons.mp hy with e | e
          · exact hne (by rw [hz, e])
          · have hs2 : (F.drop j).Pairwise (· < ·) := hs.sublist (List.drop_sublist _ _)
            rw [q] at hs2
            have l1 := (List.pairwise_cons.mp hs2).1 y e
            have l2 := m2 z (by rw [q]; exact List.mem_cons_self)
            omega
      · omega
    refine sorted_ext ?_ (ins_sorted hs) fun z => ?_
    · rw [List.append_assoc, List.pairwise_append]
      refine ⟨hs.sublist (List.take_sublist _ _), List.pairwise_cons.mpr ⟨m3, hs.sublist (List.drop_sublist _ _)⟩, fun a ha b hb => ?_⟩
      have := m1 a ha
      rcases List.mem_cons.mp hb with e | e
      · rw [e]; exact this
      · have := m3 b e; omega
    · rw [mem_ins, List.mem_append, List.mem_append, List.mem_singleton]
      have : z ∈ F ↔ z ∈ F.take j ∨ z ∈ F.drop j := by
        rw [← List.mem_append, split]
      rw [this]
      constructor
      · rintro ((h | h) | h)
        · exact .inr (.inl h)
        · exact .inl h
        · exact .inr (.inr h)
      · rintro (h | h | h)
        · exact .inl (.inr h)
        · exact .inl (.inl h)
        · exact .inr h
  · intro he
    refine sorted_ext (ins_sorted hs) hs fun z => ?_
    rw [mem_ins]
    constructor
    · rintro (h | h)
      · rw [h]; exact List.mem_of_getElem? he
      · exact h
    · exact .inr
theorem map_at {ns : List Int} {j : Nat} {z : Int} (h : ns[j]? = some z) : (ns.map PyData.int)[j]? = some (.int z) := by
  rw [List.getElem?_map, h]
  rfl
theorem ok_ascending (T : Tx K mg) : Dx.FnG Pg w K mg base CX0 1 T.a_ascending T.d_ascending ["items"] (spD K (fun ds => ∃ ns : List Int, ds = [iL ns] ∧ ns.length ≤ 1000000) fAsc) := by
  refine fnG_ok T.F_ascending sc_ascending (fun ds ⟨_, e, _⟩ => by rw [e]; rfl) fun cdv A out s H E clr hr => ⟨_, (pss_cons (ps_set (i := 1) sc_ascending.nd rfl (Or.inl rfl) (pe_lst pa_nil)) (pss_cons (ps_for PassesOwn.never rfl (pi_list (pv 0)) (pg_name (i := 2) sc_ascending.nd rfl (Or.inl rfl)) (pss_cons (ps_set (i := 3) sc_ascending.nd rfl (Or.inl rfl) pe_int) (pss_cons (ps_set (i := 4) sc_ascending.nd rfl (Or.inl rfl) (pe_callB call_len_seq (by rfl) T.n_len (by decide +kernel) (pa_cons (pv 1) pa_nil))) (pss_cons (ps_while PassesOwn.never (pt_cmpR op_lt (pv 3) (pv 4) (nomark _)) (pss_cons (ps_set (i := 5) sc_ascending.nd rfl (Or.inl rfl) (pe_op op_fdiv (pe_op op_add (pv 3) (pv 4)) pe_int)) (pss_one (ps_if (pt_cmpR op_lt (pe_ix (r := rIxL K) ix_list (pv 1) (pv 5) (fun _ _ => rfl)) (pv 2) (nomark _)) (pss_one (ps_set (i := 3) sc_ascending.nd rfl (Or.inl rfl) (pe_op op_add (pv 5) pe_int))) (pss_one (ps_set (i := 4) sc_ascending.nd rfl (Or.inl rfl) (pv 5))))))) (pss_one (ps_if (PW.pt (pw_or (pt_cmpR op_eq (pv 3) (pe_callB call_len_seq (by rfl) T.n_len (by decide +kernel) (pa_cons (pv 1) pa_nil)) (nomark _)) (pw_or1 (pt_cmpR op_ne (pe_ix (r := rIxL K) ix_list (pv 1) (pv 3) (fun _ _ => rfl)) (pv 2) (nomark _))))) (pss_one (ps_expr (pe_bm PySem.F.plainAttrs_list PySem.F.slot_list_insert PySem.F.type_list_insert mt_insert (pv 1) (pa_cons (pv 3) (pa_cons (pv 2) pa_nil))))) pss_nil)))))) (pss_one (ps_ret (pv 1))))), ?_⟩
  rintro ds ⟨ns, rfl, hl⟩
  have e : startE N_ascending [iL ns] = [.dat (iL ns), .no, .no, .no, .no, .no] := rfl
  rw [e]
  have hg : fAsc [iL ns] = iL (usort ns) := congrArg (fun l => iL (usort l)) (unint ns)
  rw [hg]
  refine x_sown (f_lst l_nil (Nat.zero_le _)) ?_
  refine x_sfor (ds := ns.map PyData.int) (fun i ρ' => ∃ a b c d, ρ' = [.dat (iL ns), .own ((usort (ns.take i)).map PyData.int), a, b, c, d]) (i_list (e_var rfl)) ⟨_, _, _, _, rfl⟩ ?_ ?_
  · rintro i dd ρ' hdd ⟨a, b, c, d, rfl⟩
    rw [List.getElem?_map] at hdd
    obtain ⟨x, hx, rfl⟩ : ∃ x, ns[i]? = some x ∧ dd = .int x := by
      cases q : ns[i]? with
      | none => rw [q] at hdd; cases hdd
      | some x => rw [q] at hdd; exact ⟨x, rfl, (Option.some.inj hdd).symm⟩
    have hil : i < ns.length := (List.getElem?_eq_some_iff.mp hx).1
    have hstep : usort (ns.take (i + 1)) = ins x (usort (ns.take i)) := by
      rw [List.take_add_one, hx]
      exact usort_snoc _ _
    have hs := usort_sorted (ns.take i)
    have hFl : (usort (ns.take i)).length ≤ 1000000 := by
      have h1 := usort_len (ns.take i)
      rw [List.length_take] at h1
      omega
    rw [hstep]
    generalize usort (ns.take i) = F at hs hFl ⊢
    refine ⟨_, g_name, ?_⟩
    show ExD K _ [.dat (iL ns), .own (F.map PyData.int), .dat (.int x), b, c, d] _
    refine x_sset (d := .int 0) e_int rfl ?_
    refine x_sset (d := .int (F.length : Int)) ((cb_len (l_cons (e_var rfl) l_nil)).cast (by rw [List.length_map])) rfl ?_
    show ExD K _ [.dat (iL ns), .own (F.map PyData.int), .dat (.int x), .dat (.int 0), .dat (.int F.length), d] _
    refine x_swhile (fun ρ' => ∃ (lo hi : Nat) (m : Sl), ρ' = [.dat (iL ns), .own (F.map PyData.int), .dat (.int x), .dat (.int lo), .dat (.int hi), m] ∧ lo ≤ hi ∧ hi ≤ F.length ∧
        (∀ (i : Nat) (y : Int), i < lo → F[i]? = some y → y < x) ∧ (∀ (i : Nat) (y : Int), hi ≤ i → F[i]? = some y → x ≤ y))
      (fun ρ' => match ρ' with | [_, _, _, .dat (.int lo), .dat (.int hi), _] => (hi - lo).toNat | _ => 0) ⟨0, F.length, d, rfl, Nat.zero_le _, Nat.le_refl _, fun i y h => absurd h (Nat.not_lt_zero _), fun i y h1 h2 => by
        have := (List.getElem?_eq_some_iff.mp h2).1
        omega⟩ ?_
    rintro ρ' ⟨lo, hi, m, rfl, hlh, hhl, h1, h2⟩
    refine ⟨_, e_test (e_lt (e_var rfl) (e_var rfl)), fun hb => ?_, fun hb => ?_⟩
    · have hlt : lo < hi := by
        have := of_decide_eq_true hb
        omega
      have hmid : ((lo : Int) + hi) / 2 = (((lo + hi) / 2 : Nat) : Int) := by omega
      have hm1 : lo ≤ (lo + hi) / 2 := by omega
      have hm2 : (lo + hi) / 2 < hi := by omega
      refine x_sset (d := .int (((lo + hi) / 2 : Nat) : Int)) ?_ rfl ?_
      · refine EvD.cast (e_iop (e_add (e_var rfl) (e_var rfl)) e_int ⟨by omega, by omega⟩) ?_
        rw [hmid]
      generalize hmd : (lo + hi) / 2 = md at hm1 hm2 ⊢
      show ExD K _ [.dat (iL ns), .own (F.map PyData.int), .dat (.int x), .dat (.int lo), .dat (.int hi), .dat (.int md)] _
      obtain ⟨y, hy⟩ : ∃ y, F[md]? = some y := ⟨_, List.getElem?_eq_getElem (by omega)⟩
      refine x_if (e_test (e_lt (e_ixL (e_var rfl) (e_var rfl) (atI_at (map_at hy))) (e_var rfl))) (fun hc => ?_) (fun hc => ?_)
      · have hyx : y < x := of_decide_eq_true hc
        refine x_set (d := .int ((md + 1 : Nat) : Int)) ((e_add (e_var rfl) e_int).cast rfl) rfl ?_
        refine ⟨⟨md + 1, hi, .dat (.int md), rfl, hm2, hhl, fun i z hi2 hz => ?_, h2⟩, ?_⟩
        · by_cases q : i = md
          · subst q
            rw [hy] at hz
            cases hz
            exact hyx
          · have hi3 : i < md := by omega
            have := List.pairwise_iff_getElem.mp hs i md (by omega) (by omega) hi3
            have e1 : F[i]'(by omega) = z := by
              have := List.getElem?_eq_getElem (l := F) (i := i) (by omega)
              rw [this] at hz
              exact Option.some.inj hz
            have e2 : F[md]'(by omega) = y := by
              have := List.getElem?_eq_getElem (l := F) (i := md) (by omega)
              rw [this] at hy
              exact Option.some.inj hy
            rw [e1, e2] at this
            omega
        · show ((hi : Int) - ((md + 1 : Nat) : Int)).toNat < ((hi : Int) - (lo : Int)).toNat
          omega
      · have hyx : ¬ y < x := of_decide_eq_false hc
        refine x_set (d := .int (md : Int)) (e_var rfl) rfl ?_
        refine ⟨⟨lo, md, .dat (.int md), rfl, hm1, by omega, h1, fun i z hi2 hz => ?_⟩, ?_⟩
        · by_cases q : i = md
          · subst q
            rw [hy] at hz
            cases hz
            omega
          · have hil2 := (List.getElem?_eq_some_iff.mp hz).1
            have := List.pairwise_iff_getElem.mp hs md i (by omega) hil2 (by omega)
            have e1 : F[i]'hil2 = z := by
              have := List.getElem?_eq_getElem (l := F) (i := i) hil2
              rw [this] at hz
              exact Option.some.inj hz
            have e2 : F[md]'(by omega) = y := by
              have := List.getElem?_eq_getElem (l := F) (i := md) (by omega)
              rw [this] at hy
              exact Option.some.inj hy
            rw [e1, e2] at this
            omega
        · show ((md : Int) - (lo : Int)).toNat < ((hi : Int) - (lo : Int)).toNat
          omega
    · have hlo : lo = hi := by
        have := of_decide_eq_false hb
        omega
      subst hlo
      obtain ⟨c1, c2⟩ := ins_cut hs hhl h1 h2
      by_cases hend : lo = F.length
      · refine x_if (b := true) ?_ (fun _ => ?_) (fun h => nomatch h)
        · refine EvB.cast (b_or (b := true) (e_test (e_eqI (e_var rfl) (cb_len (l_cons (e_var rfl) l_nil)))) (fun h => ?_)) (by rw [Bool.or_true])
          exfalso
          rw [List.length_map] at h
          exact absurd (of_decide_eq_false h) (by omega)
        · refine x_insert (k := lo) rfl (e_var rfl) (by omega) (e_var rfl) rfl (by rw [List.length_map]; show F.length < 2 ^ 24; omega) ?_
          refine ⟨.dat (.int x), .dat (.int lo), .dat (.int lo), m, ?_⟩
          have hn : F[lo]? ≠ some x := by
            rw [List.getElem?_eq_none (by omega)]
            intro z
            cases z
          rw [← c1 hn, List.map_append, List.map_append, List.map_take, List.map_drop]
          rfl
      · obtain ⟨y, hy⟩ : ∃ y, F[lo]? = some y := ⟨_, List.getElem?_eq_getElem (by omega)⟩
        refine x_if (b := !decide (y = x)) ?_ (fun hb => ?_) (fun hb => ?_)
        · refine EvB.cast (b_or (e_test (e_eqI (e_var rfl) (cb_len (l_cons (e_var rfl) l_nil)))) (fun h => e_test (e_neI (e_ixL (e_var rfl) (e_var rfl) (atI_at (map_at hy))) (e_var rfl)))) ?_
          rw [List.length_map, decide_eq_false (show ¬ ((lo : Int) = (F.length : Int)) by omega)]
          rfl
        · have hyx : y ≠ x := by
            intro e
            rw [decide_eq_true e] at hb
            cases hb
          refine x_insert (k := lo) rfl (e_var rfl) (by omega) (e_var rfl) rfl (by rw [List.length_map]; show F.length < 2 ^ 24; omega) ?_
          refine ⟨.dat (.int x), .dat (.int lo), .dat (.int lo), m, ?_⟩
          have hn : F[lo]? ≠ some x := by
            rw [hy]
            intro z
            exact hyx (Option.some.inj z)
          rw [← c1 hn, List.map_append, List.map_append, List.map_take, List.map_drop]
          rfl
        · have hyx : y = x := by
            by_cases e : y = x
            · exact e
            · rw [decide_eq_false e] at hb
              cases hb
          refine x_nil ⟨.dat (.int x), .dat (.int lo), .dat (.int lo), m, ?_⟩
          rw [c2 (by rw [hy, hyx])]
  · rintro ρ' ⟨a, b, c, d, rfl⟩
    have ht : ns.take ((ns.map PyData.int).length) = ns := by
      rw [List.length_map]
      exact List.take_length
    rw [ht]
    exact x_ret (e_var rfl) rfl
/-! ### totals -/
theorem f_mapI {ρ : Dx.Env} {wi : TI} {j : Nat} {te : TE} {l : List Int} {g : Int → Int} (hi : EvI K wi ρ (l.map PyData.int)) (hz : l.length ≤ 1000000)
    (he : ∀ n ∈ l, EvD K te (ρ.set j (some (.int n))) (.int (g n))) : EvF K (tLc wi (gName j) tYes te [j]) ρ ((l.map g).map PyData.int) := by
  refine (f_map (f := fun d => match d with | .int n => .int (g n) | _ => .none) hi ?_ ?_).cast ?_
  · rw [List.length_map]
    show _ ≤ 2 ^ 24
    omega
  · intro d hd
    obtain ⟨n, hn, rfl⟩ := List.mem_map.mp hd
    exact he n hn
  · rw [List.map_map, List.map_map]
    rfl
theorem nl_map (ns : List Int) : noLs (ns.map PyData.int) = true := by
  induction ns with
  | nil => rfl
  | cons n ns ih =>
    rw [List.map_cons]
    simp only [noLs, noL, ih]
    rfl
theorem at_last {ps : List Int} (r : Row ps) : atI (ps.map PyData.int) (-1) = some (.int (lastP ps)) := by
  have := r.lo
  unfold atI ixN
  rw [if_neg (by decide), if_pos (by rw [List.length_map]; omega), List.length_map]
  show (ps.map PyData.int)[((-1 : Int) + ps.length).toNat]? = _
  have e : ((-1 : Int) + ps.length).toNat = ps.length - 1 := by omega
  rw [e]
  refine map_at ?_
  unfold lastP
  rw [List.getD_eq_getElem?_getD, List.getElem?_eq_getElem (by omega)]
  rfl
theorem at_head {ps : List Int} (r : Row ps) : atI (ps.map PyData.int) 0 = some (.int (headP ps)) := by
  have := r.lo
  refine atI_nat (j := 0) (map_at ?_)
  unfold headP
  rw [List.getD_eq_getElem?_getD, List.getElem?_eq_getElem (by omega)]
  rfl
theorem qs_at {ps : List Int} (r : Row ps) {k : Nat} {p : Int} (h : (qsOf ps)[k]? = some p) : k < ps.length - 1 ∧ ps[ps.length - 2 - k]? = some p := by
  have hk := (List.getElem?_eq_some_iff.mp h).1
  rw [r.qlen] at hk
  unfold qsOf at h
  rw [List.getElem?_reverse (by rw [List.length_take]; omega), List.length_take, List.getElem?_take] at h
  have e : min (ps.length - 1) ps.length - 1 - k = ps.length - 2 - k := by omega
  rw [e, if_pos (by omega)] at h
  exact ⟨hk, h⟩
def fTotals : List PyData → PyData
  | [.tuple [_, .tuple ds], .int m] => iL (tot (ds.map fun d => match d with | .int i => i | _ => 0) m)
  | _ => .none
theorem fTotals_eq (tie : Str) (ps : List Int) (m : Int) : fTotals [rowD tie ps, .int m] = iL (tot ps m) := congrArg (fun l => iL (tot l m)) (unint ps)
theorem ok_totals (T : Tx K mg) : Dx.FnG Pg w K mg base CX0 5 T.a_totals T.d_totals ["row", "many"] (spD K (fun ds => ∃ tie ps m, ds = [rowD tie ps, .int m] ∧ isTie tie ∧ Row ps ∧ 0 ≤ m ∧ m ≤ 2000) fTotals) := by
  refine fnG_ok T.F_totals sc_totals (fun ds ⟨_, _, _, e, _⟩ => by rw [e]; rfl) fun cdv A out s H E clr hr => ⟨_, (pss_cons (ps_expr (Dx.pe_callG (ok_check_row T) clr (hr.mono (by decide)) (by rfl) T.g_check_row T.F_check_row.kp T.b_check_row pass0 (pa_cons (pv 0) pa_nil))) (pss_cons (ps_expr (Dx.pe_callG (ok_check_many T) clr (hr.mono (by decide)) (by rfl) T.g_check_many T.F_check_many.kp T.b_check_many pass0 (pa_cons (pv 1) pa_nil))) (pss_cons (ps_set (i := 2) sc_totals.nd rfl (Or.inr rfl) (pe_ix (r := rIxT K) ix_tup (pv 0) pe_int (fun _ _ => rfl))) (pss_cons (ps_set (i := 3) sc_totals.nd rfl (Or.inl rfl) (pe_lst (pa_cons (pe_op op_mul (pv 1) (pe_ix (r := rIxT K) ix_tup (pv 2) (pe_un un_neg pe_int) (fun _ _ => rfl))) pa_nil))) (pss_cons (ps_for PassesOwn.never rfl (pi_tup (Dx.pe_stepT (pv 2) (po_some (pe_un un_neg pe_int)) po_none (po_some (pe_un un_neg pe_int)))) (pg_name (i := 4) sc_totals.nd rfl (Or.inr rfl)) (pss_cons (ps_setLc (i := 5) (own := [("number", 7)]) (g := gName 7) (tt := tYes) rfl sc_totals.nd rfl rfl (sw_true rfl rfl rfl (by decide +kernel)) (pi_list (pv 3)) (blkOk_by (own := [("number", 7)]) (N := N_totals) (sc := defScope s_totals) (by decide +kernel)) (fun _ _ _ _ _ => (pg_name (i := 7) sc_totals.nd rfl (Or.inl rfl))) (fun _ _ _ _ _ => pts_nil) (fun _ _ _ _ _ => (pe_op op_mul (pe_op op_fdiv (pv 7) (pv 4)) (pv 4)))) (pss_cons (ps_setLc (i := 6) (own := [("number", 7)]) (g := gName 7) (tt := tYes) rfl sc_totals.nd rfl rfl (sw_true rfl rfl rfl (by decide +kernel)) (pi_list (pv 3)) (blkOk_by (own := [("number", 7)]) (N := N_totals) (sc := defScope s_totals) (by decide +kernel)) (fun _ _ _ _ _ => (pg_name (i := 7) sc_totals.nd rfl (Or.inl rfl))) (fun _ _ _ _ _ => pts_nil) (fun _ _ _ _ _ => (pe_op op_mul (pe_un un_neg (pe_op op_fdiv (pe_un un_neg (pv 7)) (pv 4))) (pv 4)))) (pss_one (ps_set (i := 3) sc_totals.nd rfl (Or.inl rfl) (pe_op op_cat (pv 5) (pv 6))))))) (pss_one (ps_ret (Dx.pe_callG (ok_ascending T) clr (hr.mono (by decide)) (by rfl) T.g_ascending T.F_ascending.kp T.b_ascending pass0 (pa_cons (pe_lc (own := [("number", 7)]) (g := gName 7) (tt := tYes) rfl sc_totals.nd (pi_list (pv 3)) (blkOk_by (own := [("number", 7)]) (N := N_totals) (sc := defScope s_totals) (by decide +kernel)) (fun _ _ _ _ _ => (pg_name (i := 7) sc_totals.nd rfl (Or.inl rfl))) (fun _ _ _ _ _ => pts_nil) (fun _ _ _ _ _ => (pe_op op_fdiv (pv 7) (pe_ix (r := rIxT K) ix_tup (pv 2) pe_int (fun _ _ => rfl))))) pa_nil))))))))), ?_⟩
  rintro ds ⟨tie, ps, m, rfl, ht, r, m0, m1⟩
  have e : startE N_totals [rowD tie ps, .int m] = [.dat (rowD tie ps), .dat (.int m), .no, .no, .no, .no, .no, .no] := rfl
  rw [e, fTotals_eq]
  have hlo := r.lo
  have hhi := r.hi
  have hla := r.last
  have hhe := r.head
  refine x_sdrop (e_call (ds := [rowD tie ps]) (l_cons (e_var rfl) l_nil) ⟨_, _, rfl, ht, r⟩) ?_
  refine x_sdrop (e_call (ds := [.int m]) (l_cons (e_var rfl) l_nil) ⟨_, rfl, m0, m1⟩) ?_
  refine x_ssetL (d := .tuple (ps.map PyData.int)) (e_ixT (e_var rfl) e_int (atI_nat (j := 1) rfl)) ?_
  refine x_ssetL (d := iL [m * lastP ps]) (EvF.d (f_lst (l_cons (e_iop (e_var rfl) (e_ixT (e_var rfl) (e_neg e_int) (at_last r)) (.inr ⟨by omega, by omega⟩)) l_nil) (show 1 ≤ 2 ^ 24 by decide))) ?_
  show ExD K _ [.dat (rowD tie ps), .dat (.int m), .dat (.tuple (ps.map PyData.int)), .dat (iL [m * lastP ps]), .no, .no, .no, .no] _
  refine x_sfor (ds := ((ps.map PyData.int).take (ps.length - 1)).reverse) (fun k ρ' => ∃ a b c d, ρ' = [.dat (rowD tie ps), .dat (.int m), .dat (.tuple (ps.map PyData.int)), .dat (iL (((qsOf ps).take k).foldl rstep [m * lastP ps])), a, b, c, d])
    (i_tup (e_stepT (e_var rfl) (o_some (e_neg e_int)) o_none (o_some (e_neg e_int)) (by rw [List.length_map]; exact adj_two _ (by omega)) (by rw [List.length_map]; omega))) ⟨_, _, _, _, rfl⟩ ?_ ?_
  · rintro k dd ρ' hdd ⟨a, b, c, d, rfl⟩
    have hq : ((ps.map PyData.int).take (ps.length - 1)).reverse = (qsOf ps).map PyData.int := by
      unfold qsOf
      rw [List.map_reverse, List.map_take]
    rw [hq, List.getElem?_map] at hdd
    obtain ⟨p, hp, rfl⟩ : ∃ p, (qsOf ps)[k]? = some p ∧ dd = .int p := by
      cases q : (qsOf ps)[k]? with
      | none => rw [q] at hdd; cases hdd
      | some x => rw [q] at hdd; exact ⟨x, rfl, (Option.some.inj hdd).symm⟩
    have hp2 := r.qper p (List.mem_of_getElem? hp)
    have hstep : ((qsOf ps).take (k + 1)).foldl rstep [m * lastP ps] = rstep (((qsOf ps).take k).foldl rstep [m * lastP ps]) p := by
      rw [List.take_add_one, hp, List.foldl_append]
      rfl
    have hlen : (((qsOf ps).take k).foldl rstep [m * lastP ps]).length ≤ 16 := by
      rw [rfold_len, List.length_take]
      have h4 : 2 ^ (min k (qsOf ps).length) ≤ 2 ^ 4 := Nat.pow_le_pow_right (by decide) (by have := r.qlen; omega)
      simp only [List.length_singleton, Nat.mul_one]
      omega
    rw [hstep]
    generalize ((qsOf ps).take k).foldl rstep [m * lastP ps] = l at hlen ⊢
    refine ⟨_, g_name, ?_⟩
    show ExD K _ [.dat (rowD tie ps), .dat (.int m), .dat (.tuple (ps.map PyData.int)), .dat (iL l), .dat (.int p), b, c, d] _
    refine x_ssetL (d := iL (l.map (fl p))) (EvF.d (f_mapI (i_list (e_var rfl)) (by omega) fun n hn => ?_)) ?_
    · exact (e_iop (e_iop (e_var rfl) (e_var rfl) ⟨by omega, by omega⟩) (e_var rfl) (.inr ⟨by omega, by omega⟩)).cast rfl
    refine x_ssetL (d := iL (l.map (ce p))) (EvF.d (f_mapI (i_list (e_var rfl)) (by omega) fun n hn => ?_)) ?_
    · exact (e_iop (e_neg (e_iop (e_neg (e_var rfl)) (e_var rfl) ⟨by omega, by omega⟩)) (e_var rfl) (.inr ⟨by omega, by omega⟩)).cast rfl
    refine x_setL (d := iL (rstep l p)) ((EvF.d (f_cat (e_var rfl) (e_var rfl) ?_)).cast ?_) ⟨_, _, _, _, rfl⟩
    · rw [List.length_map, List.length_map, List.length_map, List.length_map]
      show _ ≤ 2 ^ 24
      omega
    · unfold rstep
      show PyData.list _ = PyData.list _
      rw [List.map_append]
  · rintro ρ' ⟨a, b, c, d, rfl⟩
    have hq : (((ps.map PyData.int).take (ps.length - 1)).reverse).length = (qsOf ps).length := by
      unfold qsOf
      rw [List.length_reverse, List.length_take, List.length_reverse, List.length_take, List.length_map]
    rw [hq, List.take_length]
    have hlen : ((qsOf ps).foldl rstep [m * lastP ps]).length ≤ 16 := by
      rw [rfold_len]
      have h4 : 2 ^ ((qsOf ps).length) ≤ 2 ^ 4 := Nat.pow_le_pow_right (by decide) (by have := r.qlen; omega)
      simp only [List.length_singleton, Nat.mul_one]
      omega
    refine x_ret (d := iL (tot ps m)) ?_ rfl
    refine (e_call (ds := [iL (((qsOf ps).foldl rstep [m * lastP ps]).map (· / headP ps))]) (l_cons (EvF.d (f_mapI (g := fun n => n / headP ps) (i_list (e_var rfl)) (by omega) fun n hn => ?_)) l_nil) ⟨_, rfl, by rw [List.length_map]; omega⟩).cast ?_
    · exact (e_iop (e_var rfl) (e_ixT (e_var rfl) e_int (at_head r)) ⟨by omega, by omega⟩).cast rfl
    · exact congrArg (fun l => iL (usort l)) (unint _)
def fLoses : List PyData → PyData
  | [.tuple [_, .tuple ds]] => .bool (decide (2 ≤ endC (ds.map fun d => match d with | .int i => i | _ => 0) 1 true))
  | _ => .none
def fRepeats : List PyData → PyData
  | [.tuple [_, .tuple ds]] => .bool (decide (endC (ds.map fun d => match d with | .int i => i | _ => 0) 1 false = 0))
  | _ => .none
theorem iL_last {l : List Int} {z : Int} (h : l[l.length - 1]? = some z) : atI (l.map PyData.int) (-1) = some (.int z) := by
  have hl := (List.getElem?_eq_some_iff.mp h).1
  unfold atI ixN
  rw [if_neg (by decide), if_pos (by rw [List.length_map]; omega), List.length_map]
  show (l.map PyData.int)[((-1 : Int) + l.length).toNat]? = _
  have e : ((-1 : Int) + l.length).toNat = l.length - 1 := by omega
  rw [e]
  exact map_at h
theorem iL_first {l : List Int} {z : Int} (h : l[0]? = some z) : atI (l.map PyData.int) 0 = some (.int z) := atI_nat (j := 0) (map_at h)
theorem ok_loses (T : Tx K mg) : Dx.FnG Pg w K mg base CX0 6 T.a_loses T.d_loses ["row"] (spD K (fun ds => ∃ tie ps, ds = [rowD tie ps] ∧ isTie tie ∧ Row ps) fLoses) := by
  refine fnG_ok T.F_loses sc_loses (fun ds ⟨_, _, e, _⟩ => by rw [e]; rfl) fun cdv A out s H E clr hr => ⟨_, (pss_one (ps_ret (pe_cmpR op_ge (pe_ix (r := rIxL K) ix_list (Dx.pe_callG (ok_totals T) clr (hr.mono (by decide)) (by rfl) T.g_totals T.F_totals.kp T.b_totals pass0 (pa_cons (pv 0) (pa_cons pe_int pa_nil))) (pe_un un_neg pe_int) (fun _ _ => rfl)) pe_int (nomark _)))), ?_⟩
  rintro ds ⟨tie, ps, rfl, ht, r⟩
  have e : startE N_loses [rowD tie ps] = [.dat (rowD tie ps)] := rfl
  have hg : fLoses [rowD tie ps] = .bool (decide (2 ≤ endC ps 1 true)) := congrArg (fun l => PyData.bool (decide (2 ≤ endC l 1 true))) (unint ps)
  rw [e, hg]
  refine x_ret (e_ge (e_ixL ((e_call (ds := [rowD tie ps, .int 1]) (l_cons (e_var rfl) (l_cons e_int l_nil)) ⟨_, _, _, rfl, ht, r, by decide, by decide⟩).cast (fTotals_eq tie ps 1)) (e_neg e_int) (iL_last ?_)) e_int) rfl
  rw [tot_due r]
  exact due_last r 1
theorem ok_repeats (T : Tx K mg) : Dx.FnG Pg w K mg base CX0 6 T.a_repeats T.d_repeats ["row"] (spD K (fun ds => ∃ tie ps, ds = [rowD tie ps] ∧ isTie tie ∧ Row ps) fRepeats) := by
  refine fnG_ok T.F_repeats sc_repeats (fun ds ⟨_, _, e, _⟩ => by rw [e]; rfl) fun cdv A out s H E clr hr => ⟨_, (pss_one (ps_ret (pe_cmpR op_eq (pe_ix (r := rIxL K) ix_list (Dx.pe_callG (ok_totals T) clr (hr.mono (by decide)) (by rfl) T.g_totals T.F_totals.kp T.b_totals pass0 (pa_cons (pv 0) (pa_cons pe_int pa_nil))) pe_int (fun _ _ => rfl)) pe_int (nomark _)))), ?_⟩
  rintro ds ⟨tie, ps, rfl, ht, r⟩
  have e : startE N_repeats [rowD tie ps] = [.dat (rowD tie ps)] := rfl
  have hg : fRepeats [rowD tie ps] = .bool (decide (endC ps 1 false = 0)) := congrArg (fun l => PyData.bool (decide (endC l 1 false = 0))) (unint ps)
  rw [e, hg]
  refine x_ret (e_eqI (e_ixL ((e_call (ds := [rowD tie ps, .int 1]) (l_cons (e_var rfl) (l_cons e_int l_nil)) ⟨_, _, _, rfl, ht, r, by decide, by decide⟩).cast (fTotals_eq tie ps 1)) e_int (iL_first ?_)) e_int) rfl
  rw [tot_due r]
  exact due_first r 1
/-! ### the law's own reckoning -/
def fDue : List PyData → PyData
  | [.tuple ds, .int m] => iL (due (ds.map fun d => match d with | .int i => i | _ => 0) m)
  | _ => .none
theorem fDue_eq (ps : List Int) (m : Int) : fDue [.tuple (ps.map PyData.int), .int m] = iL (due ps m) := congrArg (fun l => iL (due l m)) (unint ps)
theorem rngD_fit {ps : List Int} (r : Row ps) : (((ps.length : Int) - 2) - (-1)).toNat = (qsOf ps).length := by
  have := r.lo
  rw [r.qlen]
  omega
theorem at_rng {ps : List Int} (r : Row ps) {k : Nat} {dd : PyData} (h : (rngD ((ps.length : Int) - 2) (((ps.length : Int) - 2) - (-1)).toNat)[k]? = some dd) :
    ∃ p, (qsOf ps)[k]? = some p ∧ 1 ≤ p ∧ p ≤ 60 ∧ dd = .int ((ps.length - 2 - k : Nat) : Int) ∧ atI (ps.map PyData.int) ((ps.length - 2 - k : Nat) : Int) = some (.int p) ∧ k < 4 := by
  obtain ⟨hk, rfl⟩ := rngD_at h
  rw [rngD_fit r] at hk
  obtain ⟨h1, h2⟩ := qs_at r (List.getElem?_eq_getElem hk)
  have hb := r.qper _ (List.mem_of_getElem? (List.getElem?_eq_getElem hk))
  have := r.lo
  have := r.hi
  refine ⟨_, List.getElem?_eq_getElem hk, hb.1, hb.2, ?_, atI_at (map_at h2), by omega⟩
  congr 1
  omega
theorem ok_law_due (T : Tx K mg) : Dx.FnG Pg w K mg base CX0 1 T.a__law_due T.d__law_due ["periods", "length"] (spD K (fun ds => ∃ ps m, ds = [.tuple (ps.map PyData.int), .int m] ∧ Row ps ∧ 0 ≤ m ∧ m ≤ 2000) fDue) := by
  refine fnG_ok T.F__law_due sc_law_due (fun ds ⟨_, _, e, _⟩ => by rw [e]; rfl) fun cdv A out s H E clr hr => ⟨_, (pss_cons (ps_set (i := 2) sc_law_due.nd rfl (Or.inl rfl) (pe_lst (pa_cons (pe_op op_mul (pv 1) (pe_ix (r := rIxT K) ix_tup (pv 0) (pe_un un_neg pe_int) (fun _ _ => rfl))) pa_nil))) (pss_cons (ps_for PassesOwn.never rfl (pi_range3 (by rfl) T.n_range (pa_cons (pe_op op_sub (pe_callB call_len_seq (by rfl) T.n_len (by decide +kernel) (pa_cons (pv 0) pa_nil)) pe_int) (pa_cons (pe_un un_neg pe_int) (pa_cons (pe_un un_neg pe_int) pa_nil)))) (pg_name (i := 3) sc_law_due.nd rfl (Or.inl rfl)) (pss_cons (ps_set (i := 4) sc_law_due.nd rfl (Or.inl rfl) (pe_lst pa_nil)) (pss_cons (ps_for PassesOwn.never rfl (pi_list (pv 2)) (pg_name (i := 5) sc_law_due.nd rfl (Or.inl rfl)) (pss_cons (ps_set (i := 6) sc_law_due.nd rfl (Or.inl rfl) (pe_op op_fdiv (pv 5) (pe_ix (r := rIxT K) ix_tup (pv 0) (pv 3) (fun _ _ => rfl)))) (pss_one (ps_set (i := 4) sc_law_due.nd rfl (Or.inl rfl) (pe_op op_cat (pv 4) (pe_lst (pa_cons (pe_op op_mul (pv 6) (pe_ix (r := rIxT K) ix_tup (pv 0) (pv 3) (fun _ _ => rfl))) (pa_cons (pe_op op_mul (pe_op op_add (pv 6) (pe_callTy call_int1 (by rfl) T.n_int (by decide +kernel) (pa_cons (pe_cmpR op_lt (pe_op op_mul (pv 6) (pe_ix (r := rIxT K) ix_tup (pv 0) (pv 3) (fun _ _ => rfl))) (pv 5) (nomark _)) pa_nil))) (pe_ix (r := rIxT K) ix_tup (pv 0) (pv 3) (fun _ _ => rfl))) pa_nil)))))))) (pss_one (ps_set (i := 2) sc_law_due.nd rfl (Or.inl rfl) (pe_callB (cr_sortedSet rfl) (by rfl) T.n_sorted (by decide +kernel) (pa_cons (pe_callTy (Dx.cr_setL rfl) (by rfl) T.n_set (by decide +kernel) (pa_cons (pe_lc (own := [("span", 5)]) (g := gName 5) (tt := tYes) rfl sc_law_due.nd (pi_list (pv 4)) (blkOk_by (own := [("span", 5)]) (N := N_law_due) (sc := defScope s_law_due) (by decide +kernel)) (fun _ _ _ _ _ => (pg_name (i := 5) sc_law_due.nd rfl (Or.inl rfl))) (fun _ _ _ _ _ => pts_nil) (fun _ _ _ _ _ => (pe_callTy call_int1 (by rfl) T.n_int (by decide +kernel) (pa_cons (pv 5) pa_nil)))) pa_nil)) pa_nil))))))) (pss_one (ps_ret (pe_lc (own := [("span", 5)]) (g := gName 5) (tt := tYes) rfl sc_law_due.nd (pi_list (pv 2)) (blkOk_by (own := [("span", 5)]) (N := N_law_due) (sc := defScope s_law_due) (by decide +kernel)) (fun _ _ _ _ _ => (pg_name (i := 5) sc_law_due.nd rfl (Or.inl rfl))) (fun _ _ _ _ _ => pts_nil) (fun _ _ _ _ _ => (pe_op op_fdiv (pv 5) (pe_ix (r := rIxT K) ix_tup (pv 0) pe_int (fun _ _ => rfl))))))))), ?_⟩
  rintro ds ⟨ps, m, rfl, r, m0, m1⟩
  have e : startE N_law_due [.tuple (ps.map PyData.int), .int m] = [.dat (.tuple (ps.map PyData.int)), .dat (.int m), .no, .no, .no, .no, .no] := rfl
  rw [e, fDue_eq]
  have hlo := r.lo
  have hhi := r.hi
  have hla := r.last
  have hhe := r.head
  refine x_ssetL (d := iL [m * lastP ps]) (EvF.d (f_lst (l_cons (e_iop (e_var rfl) (e_ixT (e_var rfl) (e_neg e_int) (at_last r)) (.inr ⟨by omega, by omega⟩)) l_nil) (show 1 ≤ 2 ^ 24 by decide))) ?_
  show ExD K _ [.dat (.tuple (ps.map PyData.int)), .dat (.int m), .dat (iL [m * lastP ps]), .no, .no, .no, .no] _
  refine x_sfor (ds := rngD ((ps.length : Int) - 2) (((ps.length : Int) - 2) - (-1)).toNat) (fun k ρ' => ∃ a b c d, ρ' = [.dat (.tuple (ps.map PyData.int)), .dat (.int m), .dat (iL (((qsOf ps).take k).foldl dstep [m * lastP ps])), a, b, c, d])
    (i_rng3 (l_cons (EvD.cast (e_sub (cb_lenT (l_cons (e_var rfl) l_nil)) e_int) (by rw [List.length_map])) (l_cons ((e_neg e_int).cast rfl) (l_cons ((e_neg e_int).cast rfl) l_nil))) ⟨by omega, by omega, by decide, by decide⟩) ⟨_, _, _, _, rfl⟩ ?_ ?_
  · rintro k dd ρ' hdd ⟨a, b, c, d, rfl⟩
    obtain ⟨p, hp, p0, p1, rfl, hat, k4⟩ := at_rng r hdd
    have hstep : ((qsOf ps).take (k + 1)).foldl dstep [m * lastP ps] = dstep (((qsOf ps).take k).foldl dstep [m * lastP ps]) p := by
      rw [List.take_add_one, hp, List.foldl_append]
      rfl
    have hlen : (((qsOf ps).take k).foldl dstep [m * lastP ps]).length ≤ 8 := by
      have h := dfold_len (qs := (qsOf ps).take k) (l := [m * lastP ps])
      rw [List.length_take] at h
      have hk := (List.getElem?_eq_some_iff.mp hp).1
      rw [r.qlen] at hk
      have h4 : 2 ^ (min k (qsOf ps).length) ≤ 2 ^ 3 := Nat.pow_le_pow_right (by decide) (by omega)
      simp only [List.length_singleton, Nat.mul_one] at h
      omega
    rw [hstep]
    generalize ((qsOf ps).take k).foldl dstep [m * lastP ps] = l at hlen ⊢
    refine ⟨_, g_name, ?_⟩
    show ExD K _ [.dat (.tuple (ps.map PyData.int)), .dat (.int m), .dat (iL l), .dat (.int ((ps.length - 2 - k : Nat) : Int)), b, c, d] _
    refine x_ssetL (d := iL []) (EvF.d (f_lst l_nil (by decide))) ?_
    refine x_sfor (ds := l.map PyData.int) (fun j ρ' => ∃ c d, ρ' = [.dat (.tuple (ps.map PyData.int)), .dat (.int m), .dat (iL l), .dat (.int ((ps.length - 2 - k : Nat) : Int)), .dat (iL (dlater (l.take j) p)), c, d]) (i_list (e_var rfl)) ⟨_, _, rfl⟩ ?_ ?_
    · rintro j dd ρ' hdd ⟨c, d, rfl⟩
      rw [List.getElem?_map] at hdd
      obtain ⟨n, hn, rfl⟩ : ∃ n, l[j]? = some n ∧ dd = .int n := by
        cases q : l[j]? with
        | none => rw [q] at hdd; cases hdd
        | some x => rw [q] at hdd; exact ⟨x, rfl, (Option.some.inj hdd).symm⟩
      have hls : dlater (l.take (j + 1)) p = dlater (l.take j) p ++ [n / p * p, (n / p + (if n / p * p < n then 1 else 0)) * p] := by
        rw [List.take_add_one, hn]
        unfold dlater
        rw [List.flatMap_append]
        rfl
      have hdl : (dlater (l.take j) p).length ≤ 16 := by
        rw [dlater_len, List.length_take]
        omega
      rw [hls]
      generalize dlater (l.take j) p = L at hdl ⊢
      refine ⟨_, g_name, ?_⟩
      show ExD K _ [.dat (.tuple (ps.map PyData.int)), .dat (.int m), .dat (iL l), .dat (.int ((ps.length - 2 - k : Nat) : Int)), .dat (iL L), .dat (.int n), d] _
      refine x_sset (d := .int (n / p)) (e_iop (e_var rfl) (e_ixT (e_var rfl) (e_var rfl) hat) ⟨by omega, by omega⟩) rfl ?_
      refine x_setL (d := iL (L ++ [n / p * p, (n / p + (if n / p * p < n then 1 else 0)) * p])) ((EvF.d (f_cat (ds := L.map PyData.int) (es := [.int (n / p * p), .int ((n / p + (if n / p * p < n then 1 else 0)) * p)]) (e_var rfl) (EvF.d (f_lst (l_cons ?_ (l_cons ?_ l_nil)) (show 2 ≤ 2 ^ 24 by decide))) ?_)).cast ?_) ⟨_, _, rfl⟩
      · exact (e_iop (e_var rfl) (e_ixT (e_var rfl) (e_var rfl) hat) (.inr ⟨by omega, by omega⟩)).cast rfl
      · refine (e_iop (e_add (e_var rfl) (cb_intB (l_cons (e_lt (e_iop (e_var rfl) (e_ixT (e_var rfl) (e_var rfl) hat) (.inr ⟨by omega, by omega⟩)) (e_var rfl)) l_nil))) (e_ixT (e_var rfl) (e_var rfl) hat) (.inr ⟨by omega, by omega⟩)).cast ?_
        by_cases q : n / p * p < n
        · rw [if_pos q]
          simp [q]
        · rw [if_neg q]
          simp [q]
      · rw [List.length_map]
        show _ + 2 ≤ 2 ^ 24
        omega
      · show PyData.list _ = PyData.list _
        rw [List.map_append]
        rfl
    · rintro ρ' ⟨c, d, rfl⟩
      rw [List.length_map, List.take_length]
      have hdl : (dlater l p).length ≤ 16 := by
        rw [dlater_len]
        omega
      refine x_setL (d := iL (dstep l p)) (EvF.d (f_sortset (l_cons ((EvF.d (f_mapI (g := fun n => n) (i_list (e_var rfl)) (by omega) fun n hn => cb_int (l_cons (e_var rfl) l_nil))).cast (by rw [List.map_id'])) l_nil) (by omega))) ⟨_, _, _, _, rfl⟩
  · rintro ρ' ⟨a, b, c, d, rfl⟩
    rw [rngD_len, rngD_fit r, List.take_length]
    have hlen : ((qsOf ps).foldl dstep [m * lastP ps]).length ≤ 16 := by
      have h := dfold_len (qs := qsOf ps) (l := [m * lastP ps])
      have h4 : 2 ^ ((qsOf ps).length) ≤ 2 ^ 4 := Nat.pow_le_pow_right (by decide) (by have := r.qlen; omega)
      simp only [List.length_singleton, Nat.mul_one] at h
      omega
    refine x_ret (d := iL (due ps m)) (EvF.d (f_mapI (g := fun n => n / headP ps) (i_list (e_var rfl)) (by omega) fun n hn => ?_)) rfl
    exact (e_iop (e_var rfl) (e_ixT (e_var rfl) e_int (at_head r)) ⟨by omega, by omega⟩).cast rfl
def fEnd : List PyData → PyData
  | [.tuple ds, .int m, .bool up] => .int (endC (ds.map fun d => match d with | .int i => i | _ => 0) m up)
  | _ => .none
theorem fEnd_eq (ps : List Int) (m : Int) (up : Bool) : fEnd [.tuple (ps.map PyData.int), .int m, .bool up] = .int (endC ps m up) := congrArg (fun l => PyData.int (endC l m up)) (unint ps)
def ecC (up : Bool) (qs : List Int) (n : Int) : Int := if up then highC qs n else lowC qs n
theorem ec_step {up : Bool} {qs : List Int} {k : Nat} {p n : Int} (hp : qs[k]? = some p) : ecC up (qs.take (k + 1)) n = if up then ce p (ecC up (qs.take k) n) else fl p (ecC up (qs.take k) n) := by
  rw [List.take_add_one, hp]
  unfold ecC lowC highC
  rw [List.foldl_append, List.foldl_append]
  cases up <;> rfl
theorem ok_law_end (T : Tx K mg) : Dx.FnG Pg w K mg base CX0 1 T.a__law_end T.d__law_end ["periods", "length", "up"] (spD K (fun ds => ∃ ps m up, ds = [.tuple (ps.map PyData.int), .int m, .bool up] ∧ Row ps ∧ 0 ≤ m ∧ m ≤ 2000) fEnd) := by
  refine fnG_ok T.F__law_end sc_law_end (fun ds ⟨_, _, _, e, _⟩ => by rw [e]; rfl) fun cdv A out s H E clr hr => ⟨_, (pss_cons (ps_set (i := 3) sc_law_end.nd rfl (Or.inl rfl) (pe_op op_mul (pv 1) (pe_ix (r := rIxT K) ix_tup (pv 0) (pe_un un_neg pe_int) (fun _ _ => rfl)))) (pss_cons (ps_for PassesOwn.never rfl (pi_range3 (by rfl) T.n_range (pa_cons (pe_op op_sub (pe_callB call_len_seq (by rfl) T.n_len (by decide +kernel) (pa_cons (pv 0) pa_nil)) pe_int) (pa_cons (pe_un un_neg pe_int) (pa_cons (pe_un un_neg pe_int) pa_nil)))) (pg_name (i := 4) sc_law_end.nd rfl (Or.inl rfl)) (pss_one (ps_set (i := 3) sc_law_end.nd rfl (Or.inl rfl) (pe_ifExp (pt_val (pv 2)) (pe_op op_mul (pe_un un_neg (pe_op op_fdiv (pe_un un_neg (pv 3)) (pe_ix (r := rIxT K) ix_tup (pv 0) (pv 4) (fun _ _ => rfl)))) (pe_ix (r := rIxT K) ix_tup (pv 0) (pv 4) (fun _ _ => rfl))) (pe_op op_mul (pe_op op_fdiv (pv 3) (pe_ix (r := rIxT K) ix_tup (pv 0) (pv 4) (fun _ _ => rfl))) (pe_ix (r := rIxT K) ix_tup (pv 0) (pv 4) (fun _ _ => rfl))))))) (pss_one (ps_ret (pe_op op_fdiv (pv 3) (pe_ix (r := rIxT K) ix_tup (pv 0) pe_int (fun _ _ => rfl))))))), ?_⟩
  rintro ds ⟨ps, m, up, rfl, r, m0, m1⟩
  have e : startE N_law_end [.tuple (ps.map PyData.int), .int m, .bool up] = [.dat (.tuple (ps.map PyData.int)), .dat (.int m), .dat (.bool up), .no, .no] := rfl
  rw [e, fEnd_eq]
  have hlo := r.lo
  have hla := r.last
  have hhe := r.head
  refine x_ssetL (d := .int (m * lastP ps)) (e_iop (e_var rfl) (e_ixT (e_var rfl) (e_neg e_int) (at_last r)) (.inr ⟨by omega, by omega⟩)) ?_
  refine x_sfor (ds := rngD ((ps.length : Int) - 2) (((ps.length : Int) - 2) - (-1)).toNat) (fun k ρ' => ∃ a, ρ' = [.dat (.tuple (ps.map PyData.int)), .dat (.int m), .dat (.bool up), .dat (.int (ecC up ((qsOf ps).take k) (m * lastP ps))), a])
    (i_rng3 (l_cons (EvD.cast (e_sub (cb_lenT (l_cons (e_var rfl) l_nil)) e_int) (by rw [List.length_map])) (l_cons ((e_neg e_int).cast rfl) (l_cons ((e_neg e_int).cast rfl) l_nil))) ⟨by have := r.hi; omega, by have := r.hi; omega, by decide, by decide⟩) ⟨_, by cases up <;> rfl⟩ ?_ ?_
  · rintro k dd ρ' hdd ⟨a, rfl⟩
    obtain ⟨p, hp, p0, p1, rfl, hat, k4⟩ := at_rng r hdd
    rw [ec_step hp]
    generalize ecC up ((qsOf ps).take k) (m * lastP ps) = n
    refine ⟨_, g_name, ?_⟩
    show ExD K _ [.dat (.tuple (ps.map PyData.int)), .dat (.int m), .dat (.bool up), .dat (.int n), .dat (.int ((ps.length - 2 - k : Nat) : Int))] _
    refine x_set (d := .int (if up then ce p n else fl p n)) ?_ rfl ⟨_, rfl⟩
    refine e_ifx (b := up) (e_tB (e_var rfl)) (fun h => ?_) (fun h => ?_)
    · rw [h]
      exact (e_iop (e_neg (e_iop (e_neg (e_var rfl)) (e_ixT (e_var rfl) (e_var rfl) hat) ⟨by omega, by omega⟩)) (e_ixT (e_var rfl) (e_var rfl) hat) (.inr ⟨by omega, by omega⟩)).cast rfl
    · rw [h]
      exact (e_iop (e_iop (e_var rfl) (e_ixT (e_var rfl) (e_var rfl) hat) ⟨by omega, by omega⟩) (e_ixT (e_var rfl) (e_var rfl) hat) (.inr ⟨by omega, by omega⟩)).cast rfl
  · rintro ρ' ⟨a, rfl⟩
    rw [rngD_len, rngD_fit r, List.take_length]
    refine x_ret (d := .int (endC ps m up)) ?_ rfl
    refine (e_iop (e_var rfl) (e_ixT (e_var rfl) e_int (at_head r)) ⟨by omega, by omega⟩).cast ?_
    unfold endC ecC
    cases up <;> rfl
theorem ok_law_same (T : Tx K mg) : Dx.FnG Pg w K mg base CX0 1 T.a__law_same T.d__law_same ["found", "due"] (spD K (fun ds => ∃ d, ds = [d, d] ∧ scalD d = false ∧ okD d = true ∧ d.bulk ≤ 8000 ∧ d.depth ≤ 60) (fun _ => .bool true)) := by
  refine fnG_ok T.F__law_same sc_law_same (fun ds ⟨_, e, _⟩ => by rw [e]; rfl) fun cdv A out s H E clr hr => ⟨_, (pss_one (ps_ret (pe_cmpR op_eq (pe_callB (r := Dx.rRepr K) (Dx.cr_repr clr hr) (by rfl) T.n_repr (by decide +kernel) (pa_cons (pv 0) pa_nil)) (pe_callB (r := Dx.rRepr K) (Dx.cr_repr clr hr) (by rfl) T.n_repr (by decide +kernel) (pa_cons (pv 1) pa_nil)) (nomark _)))), ?_⟩
  rintro ds ⟨d, rfl, h1, h2, h3, h4⟩
  have e : startE N_law_same [d, d] = [.dat d, .dat d] := rfl
  rw [e]
  refine x_ret ((e_eqT (cb_rep (l_cons (e_var rfl) l_nil) h1 h2 h3 h4) (cb_rep (l_cons (e_var rfl) l_nil) h1 h2 h3 h4)).cast ?_) rfl
  rw [decide_eq_true rfl]
/-! ### the law -/
theorem iL_ok {l : List Int} (h : ∀ z ∈ l, 0 ≤ z ∧ z ≤ 130000) (hl : l.length ≤ 16) : scalD (iL l) = false ∧ okD (iL l) = true ∧ (iL l).bulk ≤ 8000 ∧ (iL l).depth ≤ 60 := by
  refine ⟨rfl, ?_, ?_, ?_⟩
  · show okDs (l.map PyData.int) = true
    refine okDs_map fun n hn => ?_
    have := h n hn
    have h3 : n.natAbs < 2 ^ 18 := by omega
    exact Nat.lt_of_lt_of_le h3 (Nat.pow_le_pow_right (by decide) (by decide))
  · show PyData.bulkAll (l.map PyData.int) ≤ 8000
    rw [bulk_map]
    omega
  · show PyData.depthAll (l.map PyData.int) + 1 ≤ 60
    rw [depth_map]
    omega
theorem canLay_map (l : List Int) : PyData.canLayAll0 (l.map PyData.int) = true := by
  induction l with
  | nil => simp [PyData.canLayAll0]
  | cons n l ih =>
    rw [List.map_cons]
    simp only [PyData.canLayAll0, PyData.canLay0, ih]
    rfl
theorem iL_shaped (l : List Int) : SeqAt.shaped (iL l) = true := by
  unfold SeqAt.shaped
  rw [Bool.and_eq_true]
  refine ⟨?_, ?_⟩
  · simp only [PyData.canLay0]
    exact canLay_map l
  · refine decide_eq_true ?_
    show PyData.depthAll (l.map PyData.int) + 1 ≤ 64
    rw [depth_map]
    omega
theorem iL_eqv (l : List Int) : PyData.eqv (iL l) (iL l) = true := by
  refine SeqAt.eqv_refl _ ?_
  simp only [PyData.canLay0]
  exact canLay_map l
theorem iL_noX (l : List Int) : noX (iL l) = true := by
  simp only [noX]
  induction l with
  | nil => rfl
  | cons n l ih =>
    rw [List.map_cons]
    simp only [noXs, noX, ih]
    rfl
theorem row_draw (c k g m : Int) (hg : 0 < g) (hg2 : g ≤ 60) (hm : m = 5) : Row (perL c k g m) := by
  subst hm
  have d0 := draw_lo (cell := c) (k := k) (limit := 5 - 1) (by omega)
  have d1 := draw_hi (cell := c) (k := k) (limit := 5 - 1) (by omega)
  refine ⟨?_, ?_, fun p hp => ?_⟩
  · unfold perL
    rw [List.length_map, List.length_range]
    omega
  · unfold perL
    rw [List.length_map, List.length_range]
    omega
  · obtain ⟨j, _, rfl⟩ := List.mem_map.mp hp
    have b0 := draw_lo (cell := c) (k := k + 1 + (j : Nat)) (limit := g) hg
    have b1 := draw_hi (cell := c) (k := k + 1 + (j : Nat)) (limit := g) hg
    omega
theorem e_draw {ρ : Dx.Env} {E : XK} {t : TA} {c k l : Int} (h : EvL K t ρ [.int c, .int k, .int l]) (k0 : 0 ≤ k) (k1 : k ≤ 5000) (l0 : 0 < l) :
    EvD K (tCall (spD K (fun ds => ∃ c k l : Int, ds = [.int c, .int k, .int l] ∧ 0 ≤ k ∧ k ≤ 5000 ∧ 0 < l) fDraw) [] E t) ρ (.int (draw c k l)) :=
  (e_call h ⟨_, _, _, rfl, k0, k1, l0⟩).cast rfl
theorem e_pick2 {ρ : Dx.Env} {ta tb : TE} {x y : PyData} {i : Int} (ha : EvD K ta ρ (.list [x, y])) (hb : EvD K tb ρ (.int i)) (h0 : 0 ≤ i) (h1 : i < 2) : EvD K (tOp (rIxL K) ta tb) ρ (if i = 0 then x else y) := by
  by_cases h : i = 0
  · subst h
    exact e_ixL ha hb rfl
  · have : i = 1 := by omega
    subst this
    exact e_ixL ha hb rfl
theorem rowD_cut (t : Str) (l : List Int) : Dx.noX (rowD t l) = true := by
  show (noX (.str t) && (noX (.tuple (l.map PyData.int)) && true)) = true
  have h := iL_noX l
  simp only [noX] at h ⊢
  rw [h]
  rfl
theorem ok_law_right (T : Tx K mg) : Dx.FnG Pg w K mg base CX0 7 T.a__law_right T.d__law_right ["cell"] (spD K (fun ds => ∃ c : Int, ds = [.int c]) (fun _ => .bool true)) := by
  refine fnG_ok T.F__law_right sc_law_right (fun ds ⟨_, e⟩ => by rw [e]; rfl) fun cdv A out s H E clr hr => ⟨_, (pss_cons (ps_set (i := 1) sc_law_right.nd rfl (Or.inl rfl) (pe_tup (pa_cons (pe_ix (r := rIxL K) ix_list (pe_lst (pa_cons pe_str (pa_cons pe_str pa_nil))) (Dx.pe_callG (ok_law_draw T) clr (hr.mono (by decide)) (by rfl) T.g__law_draw T.F__law_draw.kp T.b__law_draw pass0 (pa_cons (pv 0) (pa_cons pe_int (pa_cons pe_int pa_nil)))) (fun _ _ => rfl)) (pa_cons (Dx.pe_callG (ok_law_periods T) clr (hr.mono (by decide)) (by rfl) T.g__law_periods T.F__law_periods.kp T.b__law_periods pass0 (pa_cons (pv 0) (pa_cons pe_int (pa_cons (pe_ix (r := rIxL K) ix_list (pe_lst (pa_cons pe_int (pa_cons pe_int pa_nil))) (Dx.pe_callG (ok_law_draw T) clr (hr.mono (by decide)) (by rfl) T.g__law_draw T.F__law_draw.kp T.b__law_draw pass0 (pa_cons (pv 0) (pa_cons pe_int (pa_cons pe_int pa_nil)))) (fun _ _ => rfl)) (pa_cons pe_int pa_nil))))) pa_nil)))) (pss_cons (ps_set (i := 2) sc_law_right.nd rfl (Or.inl rfl) (pe_ix (r := rIxT K) ix_tup (pv 1) pe_int (fun _ _ => rfl))) (pss_cons (ps_for PassesOwn.never rfl (pi_list (pe_lst (pa_cons pe_int (pa_cons pe_int (pa_cons pe_int (pa_cons (Dx.pe_callG (ok_law_draw T) clr (hr.mono (by decide)) (by rfl) T.g__law_draw T.F__law_draw.kp T.b__law_draw pass0 (pa_cons (pv 0) (pa_cons pe_int (pa_cons pe_int pa_nil)))) (pa_cons (Dx.pe_callG (ok_law_draw T) clr (hr.mono (by decide)) (by rfl) T.g__law_draw T.F__law_draw.kp T.b__law_draw pass0 (pa_cons (pv 0) (pa_cons pe_int (pa_cons pe_int pa_nil)))) (pa_cons pe_int pa_nil)))))))) (pg_name (i := 3) sc_law_right.nd rfl (Or.inl rfl)) (pss_cons (ps_set (i := 4) sc_law_right.nd rfl (Or.inl rfl) (Dx.pe_callG (ok_law_due T) clr (hr.mono (by decide)) (by rfl) T.g__law_due T.F__law_due.kp T.b__law_due pass0 (pa_cons (pv 2) (pa_cons (pv 3) pa_nil)))) (pss_cons (ps_if (pt_not (pt_val (Dx.pe_callG (ok_law_same T) clr (hr.mono (by decide)) (by rfl) T.g__law_same T.F__law_same.kp T.b__law_same pass0 (pa_cons (Dx.pe_callG (ok_totals T) clr (hr.mono (by decide)) (by rfl) T.g_totals T.F_totals.kp T.b_totals pass0 (pa_cons (pv 1) (pa_cons (pv 3) pa_nil))) (pa_cons (pv 4) pa_nil))))) (pss_one (ps_ret pe_bl)) pss_nil) (pss_cons (ps_if (pt_cmpR (r := rNeD K) (op_neD hr.units) (pe_lst (pa_cons (pe_ix (r := rIxL K) ix_list (pv 4) pe_int (fun _ _ => rfl)) (pa_cons (pe_ix (r := rIxL K) ix_list (pv 4) (pe_un un_neg pe_int) (fun _ _ => rfl)) pa_nil))) (pe_lst (pa_cons (Dx.pe_callG (ok_law_end T) clr (hr.mono (by decide)) (by rfl) T.g__law_end T.F__law_end.kp T.b__law_end pass0 (pa_cons (pv 2) (pa_cons (pv 3) (pa_cons pe_bl pa_nil)))) (pa_cons (Dx.pe_callG (ok_law_end T) clr (hr.mono (by decide)) (by rfl) T.g__law_end T.F__law_end.kp T.b__law_end pass0 (pa_cons (pv 2) (pa_cons (pv 3) (pa_cons pe_bl pa_nil)))) pa_nil))) (nomark _)) (pss_one (ps_ret pe_bl)) pss_nil) (pss_one (ps_if (pt_cmpR (r := rNeD K) (op_neD hr.units) (Dx.pe_callG (ok_totals T) clr (hr.mono (by decide)) (by rfl) T.g_totals T.F_totals.kp T.b_totals pass0 (pa_cons (pe_tup (pa_cons (pe_ix (r := rIxT K) ix_tup (pv 1) pe_int (fun _ _ => rfl)) (pa_cons (Dx.pe_stepT (pv 2) po_none po_none (po_some (pe_un un_neg pe_int))) pa_nil))) (pa_cons (pv 3) pa_nil))) (Dx.pe_callG (ok_law_due T) clr (hr.mono (by decide)) (by rfl) T.g__law_due T.F__law_due.kp T.b__law_due pass0 (pa_cons (Dx.pe_stepT (pv 2) po_none po_none (po_some (pe_un un_neg pe_int))) (pa_cons (pv 3) pa_nil))) (nomark _)) (pss_one (ps_ret pe_bl)) pss_nil)))))) (pss_cons (ps_par (i := 5) (j := 6) (by rfl) sc_law_right.nd rfl rfl (by decide) rfl rfl (pa_cons (Dx.pe_callG (ok_law_draw T) clr (hr.mono (by decide)) (by rfl) T.g__law_draw T.F__law_draw.kp T.b__law_draw pass0 (pa_cons (pv 0) (pa_cons pe_int (pa_cons pe_int pa_nil)))) (pa_cons (Dx.pe_callG (ok_law_draw T) clr (hr.mono (by decide)) (by rfl) T.g__law_draw T.F__law_draw.kp T.b__law_draw pass0 (pa_cons (pv 0) (pa_cons pe_int (pa_cons pe_int pa_nil)))) pa_nil)) (by rfl)) (pss_cons (ps_par3 (i := 7) (j := 8) (l := 9) (by rfl) sc_law_right.nd rfl rfl rfl (by decide) (by decide) (by decide) rfl rfl rfl (pa_cons (Dx.pe_callG (ok_totals T) clr (hr.mono (by decide)) (by rfl) T.g_totals T.F_totals.kp T.b_totals pass0 (pa_cons (pv 1) (pa_cons (pv 5) pa_nil))) (pa_cons (Dx.pe_callG (ok_totals T) clr (hr.mono (by decide)) (by rfl) T.g_totals T.F_totals.kp T.b_totals pass0 (pa_cons (pv 1) (pa_cons (pv 6) pa_nil))) (pa_cons (Dx.pe_callG (ok_totals T) clr (hr.mono (by decide)) (by rfl) T.g_totals T.F_totals.kp T.b_totals pass0 (pa_cons (pv 1) (pa_cons (pe_op op_add (pv 5) (pv 6)) pa_nil))) pa_nil))) (by rfl)) (pss_cons (ps_if (PW.pt (pw_or (pt_cmpR op_lt (pe_ix (r := rIxL K) ix_list (pv 9) pe_int (fun _ _ => rfl)) (pe_op op_add (pe_ix (r := rIxL K) ix_list (pv 7) pe_int (fun _ _ => rfl)) (pe_ix (r := rIxL K) ix_list (pv 8) pe_int (fun _ _ => rfl))) (nomark _)) (pw_or1 (pt_cmpR op_gt (pe_ix (r := rIxL K) ix_list (pv 9) (pe_un un_neg pe_int) (fun _ _ => rfl)) (pe_op op_add (pe_ix (r := rIxL K) ix_list (pv 7) (pe_un un_neg pe_int) (fun _ _ => rfl)) (pe_ix (r := rIxL K) ix_list (pv 8) (pe_un un_neg pe_int) (fun _ _ => rfl))) (nomark _))))) (pss_one (ps_ret pe_bl)) pss_nil) (pss_cons (ps_set (i := 10) sc_law_right.nd rfl (Or.inl rfl) (Dx.pe_callG (ok_law_due T) clr (hr.mono (by decide)) (by rfl) T.g__law_due T.F__law_due.kp T.b__law_due pass0 (pa_cons (pv 2) (pa_cons pe_int pa_nil)))) (pss_one (ps_ret (Dx.pe_callG (ok_law_same T) clr (hr.mono (by decide)) (by rfl) T.g__law_same T.F__law_same.kp T.b__law_same pass0 (pa_cons (pe_lst (pa_cons (Dx.pe_callG (ok_loses T) clr (hr.mono (by decide)) (by rfl) T.g_loses T.F_loses.kp T.b_loses pass0 (pa_cons (pv 1) pa_nil)) (pa_cons (Dx.pe_callG (ok_repeats T) clr (hr.mono (by decide)) (by rfl) T.g_repeats T.F_repeats.kp T.b_repeats pass0 (pa_cons (pv 1) pa_nil)) pa_nil))) (pa_cons (pe_lst (pa_cons (pe_cmpR op_gt (pe_ix (r := rIxL K) ix_list (pv 10) (pe_un un_neg pe_int) (fun _ _ => rfl)) pe_int (nomark _)) (pa_cons (pe_cmpR op_eq (pe_ix (r := rIxL K) ix_list (pv 10) pe_int (fun _ _ => rfl)) pe_int (nomark _)) pa_nil))) pa_nil)))))))))))), ?_⟩
  rintro ds ⟨c, rfl⟩
  have e : startE N_law_right [.int c] = [.dat (.int c), .no, .no, .no, .no, .no, .no, .no, .no, .no, .no] := rfl
  rw [e]
  -- line
  have a0 := draw_lo (cell := c) (k := 0) (limit := 2) (by omega)
  have a1 := draw_hi (cell := c) (k := 0) (limit := 2) (by omega)
  have b0 := draw_lo (cell := c) (k := 20) (limit := 2) (by omega)
  have b1 := draw_hi (cell := c) (k := 20) (limit := 2) (by omega)
  obtain ⟨tie, ht, etie⟩ : ∃ tie : Str, isTie tie ∧ (if draw c 0 2 = 0 then PyData.str "new" else PyData.str "old") = .str tie := by
    by_cases h : draw c 0 2 = 0
    · exact ⟨"new", .inl rfl, if_pos h⟩
    · exact ⟨"old", .inr rfl, if_neg h⟩
  obtain ⟨g, hg0, hg1, eg⟩ : ∃ g : Int, 0 < g ∧ g ≤ 60 ∧ (if draw c 20 2 = 0 then PyData.int 12 else PyData.int 60) = .int g := by
    by_cases h : draw c 20 2 = 0
    · exact ⟨12, by omega, by omega, if_pos h⟩
    · exact ⟨60, by omega, by omega, if_neg h⟩
  have r : Row (perL c 1 g 5) := row_draw c 1 g 5 hg0 hg1 rfl
  refine x_ssetL (d := rowD tie (perL c 1 g 5)) (e_tup (l_cons ?_ (l_cons ?_ l_nil)) (show 2 ≤ 2 ^ 24 by decide)) ?_
  · exact (e_pick2 (EvF.d (f_lst (l_cons e_str (l_cons e_str l_nil)) (show 2 ≤ 2 ^ 24 by decide))) (e_draw (l_cons (e_var rfl) (l_cons e_int (l_cons e_int l_nil))) (by omega) (by omega) (by omega)) a0 a1).cast etie
  · refine (e_call (ds := [.int c, .int 1, .int g, .int 5]) (l_cons (e_var rfl) (l_cons e_int (l_cons ?_ (l_cons e_int l_nil)))) ⟨_, _, _, _, rfl, by omega, by omega, hg0, by omega, by omega⟩).cast rfl
    exact (e_pick2 (EvF.d (f_lst (l_cons e_int (l_cons e_int l_nil)) (show 2 ≤ 2 ^ 24 by decide))) (e_draw (l_cons (e_var rfl) (l_cons e_int (l_cons e_int l_nil))) (by omega) (by omega) (by omega)) b0 b1).cast eg
  clear etie eg a0 a1 b0 b1
  generalize perL c 1 g 5 = ps at r
  refine x_ssetL (d := .tuple (ps.map PyData.int)) (e_ixT (e_var rfl) e_int (atI_nat (j := 1) rfl)) ?_
  show ExD K _ [.dat (.int c), .dat (rowD tie ps), .dat (.tuple (ps.map PyData.int)), .no, .no, .no, .no, .no, .no, .no, .no] _
  -- the lengths
  have c0 := draw_lo (cell := c) (k := 21) (limit := 60) (by omega)
  have c1 := draw_hi (cell := c) (k := 21) (limit := 60) (by omega)
  have d0 := draw_lo (cell := c) (k := 22) (limit := 2001) (by omega)
  have d1 := draw_hi (cell := c) (k := 22) (limit := 2001) (by omega)
  refine x_sfor (ds := [.int 0, .int 1, .int 2, .int (draw c 21 60), .int (draw c 22 2001), .int 2000]) (fun k ρ' => ∃ a b, ρ' = [.dat (.int c), .dat (rowD tie ps), .dat (.tuple (ps.map PyData.int)), a, b, .no, .no, .no, .no, .no, .no])
    (i_list (EvF.d (f_lst (l_cons e_int (l_cons e_int (l_cons e_int (l_cons (e_draw (l_cons (e_var rfl) (l_cons e_int (l_cons e_int l_nil))) (by omega) (by omega) (by omega)) (l_cons (e_draw (l_cons (e_var rfl) (l_cons e_int (l_cons e_int l_nil))) (by omega) (by omega) (by omega)) (l_cons e_int l_nil)))))) (show 6 ≤ 2 ^ 24 by decide)))) ⟨_, _, rfl⟩ ?_ ?_
  · rintro k dd ρ' hdd ⟨a, b, rfl⟩
    obtain ⟨m, m0, m1, rfl⟩ : ∃ m : Int, 0 ≤ m ∧ m ≤ 2000 ∧ dd = .int m := by
      have hm := List.mem_of_getElem? hdd
      simp only [List.mem_cons, List.not_mem_nil, or_false] at hm
      rcases hm with h | h | h | h | h | h
      · exact ⟨0, by omega, by omega, h⟩
      · exact ⟨1, by omega, by omega, h⟩
      · exact ⟨2, by omega, by omega, h⟩
      · exact ⟨_, by omega, by omega, h⟩
      · exact ⟨_, by omega, by omega, h⟩
      · exact ⟨2000, by omega, by omega, h⟩
    refine ⟨_, g_name, ?_⟩
    show ExD K _ [.dat (.int c), .dat (rowD tie ps), .dat (.tuple (ps.map PyData.int)), .dat (.int m), b, .no, .no, .no, .no, .no, .no] _
    refine x_ssetL (d := iL (due ps m)) ((e_call (ds := [.tuple (ps.map PyData.int), .int m]) (l_cons (e_var rfl) (l_cons (e_var rfl) l_nil)) ⟨_, _, rfl, r, m0, m1⟩).cast (fDue_eq ps m)) ?_
    show ExD K _ [.dat (.int c), .dat (rowD tie ps), .dat (.tuple (ps.map PyData.int)), .dat (.int m), .dat (iL (due ps m)), .no, .no, .no, .no, .no, .no] _
    have tot1 : ∀ {ρ : Dx.Env} {t : TA}, EvL K t ρ [rowD tie ps, .int m] → EvD K (tCall (spD K (fun ds => ∃ tie ps m, ds = [rowD tie ps, .int m] ∧ isTie tie ∧ Row ps ∧ 0 ≤ m ∧ m ≤ 2000) fTotals) [] E0 t) ρ (iL (due ps m)) := fun h =>
      (e_call h ⟨_, _, _, rfl, ht, r, m0, m1⟩).cast (by rw [fTotals_eq, tot_due r])
    obtain ⟨o1, o2, o3, o4⟩ := iL_ok (l := due ps m) (due_bd r m0 m1) (due_len r m).1
    refine x_sif (b := false) ?_ (fun h => nomatch h) (fun _ => ?_)
    · exact (b_not (e_tB ((e_call (ds := [iL (due ps m), iL (due ps m)]) (l_cons (tot1 (l_cons (e_var rfl) (l_cons (e_var rfl) l_nil))) (l_cons (e_var rfl) l_nil)) ⟨_, rfl, o1, o2, o3, o4⟩).cast rfl))).cast rfl
    refine x_sif (b := false) ?_ (fun h => nomatch h) (fun _ => ?_)
    · have hEnd : ∀ (up : Bool) {ρ : Dx.Env} {t : TA}, EvL K t ρ [.tuple (ps.map PyData.int), .int m, .bool up] → EvD K (tCall (spD K (fun ds => ∃ ps m up, ds = [.tuple (ps.map PyData.int), .int m, .bool up] ∧ Row ps ∧ 0 ≤ m ∧ m ≤ 2000) fEnd) [] E0 t) ρ (.int (endC ps m up)) := fun up _ _ h =>
        (e_call h ⟨_, _, _, rfl, r, m0, m1⟩).cast (fEnd_eq ps m up)
      refine (e_test (e_neD (d := iL [endC ps m false, endC ps m true]) (e := iL [endC ps m false, endC ps m true]) (EvF.d (f_lst (l_cons ?_ (l_cons ?_ l_nil)) (show 2 ≤ 2 ^ 24 by decide))) (EvF.d (f_lst (l_cons ?_ (l_cons ?_ l_nil)) (show 2 ≤ 2 ^ 24 by decide))) (iL_shaped _) (iL_shaped _) (iL_noX _) (iL_noX _))).cast (by rw [iL_eqv]; rfl)
      · exact e_ixL (e_var rfl) e_int (iL_first (due_first r m))
      · exact e_ixL (e_var rfl) (e_neg e_int) (iL_last (due_last r m))
      · exact hEnd false (l_cons (e_var rfl) (l_cons (e_var rfl) (l_cons e_bl l_nil)))
      · exact hEnd true (l_cons (e_var rfl) (l_cons (e_var rfl) (l_cons e_bl l_nil)))
    refine x_if (b := false) ?_ (fun h => nomatch h) (fun _ => x_nil ⟨_, _, rfl⟩)
    have rr := r.rev
    have erev : ((ps.map PyData.int).take (ps.map PyData.int).length).reverse = ps.reverse.map PyData.int := by
      rw [List.take_length, List.map_reverse]
    have hrev : ∀ {ρ : Dx.Env} {te : TE}, EvD K te ρ (.tuple (ps.map PyData.int)) → EvD K (tStepT K te tNoPart tNoPart (tPart (tUn (rU fun i => .int (-i)) (tC (.int 1))))) ρ (.tuple (ps.reverse.map PyData.int)) := fun h =>
      (e_stepT h o_none o_none (o_some (e_neg e_int)) (adj_none _) (Nat.le_refl _)).cast (congrArg PyData.tuple erev)
    refine (e_test (e_neD (d := iL (due ps.reverse m)) (e := iL (due ps.reverse m)) ?_ ?_ (iL_shaped _) (iL_shaped _) (iL_noX _) (iL_noX _))).cast (by rw [iL_eqv]; rfl)
    · exact (e_call (ds := [rowD tie ps.reverse, .int m]) (l_cons (e_tup (l_cons (e_ixT (e_var rfl) e_int (atI_nat (j := 0) rfl)) (l_cons (hrev (e_var rfl)) l_nil)) (show 2 ≤ 2 ^ 24 by decide)) (l_cons (e_var rfl) l_nil)) ⟨_, _, _, rfl, ht, rr, m0, m1⟩).cast (by rw [fTotals_eq, tot_due rr])
    · exact (e_call (ds := [.tuple (ps.reverse.map PyData.int), .int m]) (l_cons (hrev (e_var rfl)) (l_cons (e_var rfl) l_nil)) ⟨_, _, rfl, rr, m0, m1⟩).cast (fDue_eq _ m)
  rintro ρ' ⟨a, b, rfl⟩
  -- sums
  have f0 := draw_lo (cell := c) (k := 23) (limit := 900) (by omega)
  have f1 := draw_hi (cell := c) (k := 23) (limit := 900) (by omega)
  have g0 := draw_lo (cell := c) (k := 24) (limit := 900) (by omega)
  have g1 := draw_hi (cell := c) (k := 24) (limit := 900) (by omega)
  refine x_spar (d := .int (draw c 23 900)) (e := .int (draw c 24 900)) (l_cons (e_draw (l_cons (e_var rfl) (l_cons e_int (l_cons e_int l_nil))) (by omega) (by omega) (by omega)) (l_cons (e_draw (l_cons (e_var rfl) (l_cons e_int (l_cons e_int l_nil))) (by omega) (by omega) (by omega)) l_nil)) ?_
  generalize draw c 23 900 = x at f0 f1 ⊢
  generalize draw c 24 900 = y at g0 g1 ⊢
  show ExD K _ [.dat (.int c), .dat (rowD tie ps), .dat (.tuple (ps.map PyData.int)), a, b, .dat (.int x), .dat (.int y), .no, .no, .no, .no] _
  have tot2 : ∀ (m : Int), 0 ≤ m → m ≤ 2000 → ∀ {ρ : Dx.Env} {t : TA}, EvL K t ρ [rowD tie ps, .int m] → EvD K (tCall (spD K (fun ds => ∃ tie ps m, ds = [rowD tie ps, .int m] ∧ isTie tie ∧ Row ps ∧ 0 ≤ m ∧ m ≤ 2000) fTotals) [] E0 t) ρ (iL (due ps m)) := fun m m0 m1 _ _ h =>
    (e_call h ⟨_, _, _, rfl, ht, r, m0, m1⟩).cast (by rw [fTotals_eq, tot_due r])
  refine x_spar3 (d := iL (due ps x)) (e := iL (due ps y)) (f := iL (due ps (x + y))) (l_cons (tot2 x f0 (by omega) (l_cons (e_var rfl) (l_cons (e_var rfl) l_nil))) (l_cons (tot2 y g0 (by omega) (l_cons (e_var rfl) (l_cons (e_var rfl) l_nil))) (l_cons (tot2 (x + y) (by omega) (by omega) (l_cons (e_var rfl) (l_cons (e_add (e_var rfl) (e_var rfl)) l_nil))) l_nil))) ?_
  show ExD K _ [.dat (.int c), .dat (rowD tie ps), .dat (.tuple (ps.map PyData.int)), a, b, .dat (.int x), .dat (.int y), .dat (iL (due ps x)), .dat (iL (due ps y)), .dat (iL (due ps (x + y))), .no] _
  refine x_sif (b := false) ?_ (fun h => nomatch h) (fun _ => ?_)
  · refine (b_or (e_test (e_lt (e_ixL (e_var rfl) e_int (iL_first (due_first r (x + y)))) (e_add (e_ixL (e_var rfl) e_int (iL_first (due_first r x))) (e_ixL (e_var rfl) e_int (iL_first (due_first r y))))))
      fun _ => e_test (e_gt (e_ixL (e_var rfl) (e_neg e_int) (iL_last (due_last r (x + y)))) (e_add (e_ixL (e_var rfl) (e_neg e_int) (iL_last (due_last r x))) (e_ixL (e_var rfl) (e_neg e_int) (iL_last (due_last r y)))))).cast ?_
    have h1 := end_low r x y
    have h2 := end_high r x y
    rw [decide_eq_false (by omega), decide_eq_false (by omega)]
    rfl
  refine x_ssetL (d := iL (due ps 1)) ((e_call (ds := [.tuple (ps.map PyData.int), .int 1]) (l_cons (e_var rfl) (l_cons e_int l_nil)) ⟨_, _, rfl, r, by decide, by decide⟩).cast (fDue_eq ps 1)) ?_
  have hL : fLoses [rowD tie ps] = .bool (decide (2 ≤ endC ps 1 true)) := congrArg (fun l => PyData.bool (decide (2 ≤ endC l 1 true))) (unint ps)
  have hR : fRepeats [rowD tie ps] = .bool (decide (endC ps 1 false = 0)) := congrArg (fun l => PyData.bool (decide (endC l 1 false = 0))) (unint ps)
  refine x_ret (d := .bool true) ?_ rfl
  refine (e_call (ds := [.list [.bool (decide (2 ≤ endC ps 1 true)), .bool (decide (endC ps 1 false = 0))], .list [.bool (decide (2 ≤ endC ps 1 true)), .bool (decide (endC ps 1 false = 0))]]) (l_cons (EvF.d (f_lst (l_cons ?_ (l_cons ?_ l_nil)) (show 2 ≤ 2 ^ 24 by decide))) (l_cons (EvF.d (f_lst (l_cons ?_ (l_cons ?_ l_nil)) (show 2 ≤ 2 ^ 24 by decide))) l_nil)) ⟨_, rfl, rfl, rfl, ?_, ?_⟩).cast rfl
  · exact (e_call (ds := [rowD tie ps]) (l_cons (e_var rfl) l_nil) ⟨_, _, rfl, ht, r⟩).cast hL
  · exact (e_call (ds := [rowD tie ps]) (l_cons (e_var rfl) l_nil) ⟨_, _, rfl, ht, r⟩).cast hR
  · refine (e_gt (e_ixL (e_var rfl) (e_neg e_int) (iL_last (due_last r 1))) e_int).cast ?_
    congr 1
  · exact e_eqI (e_ixL (e_var rfl) e_int (iL_first (due_first r 1))) e_int
  · simp only [PyData.bulk, PyData.bulkAll]
    omega
  · simp only [PyData.depth, PyData.depthAll]
    omega
theorem ok_law0 (T : Tx K mg) : Dx.FnG Pg w K mg base CX0 8 T.a_law T.d_law ["script"] (spD K (fun ds => ∃ ns : List Int, ds = [scrD ns] ∧ ns.length ≤ 63) (fun _ => .bool true)) := by
  refine fnG_ok T.F_law sc_law (fun ds ⟨_, e, _⟩ => by rw [e]; rfl) fun cdv A out s H E clr hr => ⟨_, (pss_one (ps_ret (pe_callB (r := rAll K) (cr_all rfl) (by rfl) T.n_all (by decide +kernel) (pa_cons (pe_lc (own := [("k", 1)]) (g := gName 1) (tt := tYes) rfl sc_law.nd (pi_range1 (by rfl) T.n_range (pa_cons (pe_callB (call_max2 rfl) (by rfl) T.n_max (by decide +kernel) (pa_cons pe_int (pa_cons (pe_callB (call_min2 rfl) (by rfl) T.n_min (by decide +kernel) (pa_cons pe_int (pa_cons (pe_callB call_len_seq (by rfl) T.n_len (by decide +kernel) (pa_cons (pv 0) pa_nil)) pa_nil))) pa_nil))) pa_nil)) (blkOk_by (own := [("k", 1)]) (N := N_law) (sc := defScope s_law) (by decide +kernel)) (fun _ _ _ _ _ => (pg_name (i := 1) sc_law.nd rfl (Or.inl rfl))) (fun _ _ _ _ _ => pts_nil) (fun _ _ _ _ _ => (Dx.pe_callG (ok_law_right T) clr (hr.mono (by decide)) (by rfl) T.g__law_right T.F__law_right.kp T.b__law_right pass0 (pa_cons (Dx.pe_callG (ok_law_cell T) clr (hr.mono (by decide)) (by rfl) T.g__law_cell T.F__law_cell.kp T.b__law_cell pass0 (pa_cons (pv 0) (pa_cons (pv 1) pa_nil))) pa_nil)))) pa_nil)))), ?_⟩
  rintro ds ⟨ns, rfl, hl⟩
  have e : startE N_law [scrD ns] = [.dat (scrD ns), .no] := rfl
  rw [e]
  refine x_ret ?_ rfl
  refine (cb_all (bs := (List.range (if (1 : Int) < (if (ns.length : Int) < 10 then (ns.length : Int) else 10) then (if (ns.length : Int) < 10 then (ns.length : Int) else 10) else 1).toNat).map fun _ => true) (l_cons (EvF.d ?_) l_nil)).cast ?_
  · refine (f_map (f := fun _ => .bool true) (i_rng1 (l_cons (cb_max (l_cons e_int (l_cons (cb_min (l_cons e_int (l_cons (cb_lenS (l_cons (e_var rfl) l_nil)) l_nil))) l_nil))) l_nil) ?_ ?_) ?_ ?_).cast ?_
    · split <;> split <;> omega
    · split <;> split <;> omega
    · rw [rng_len]
      show _ ≤ 2 ^ 24
      split <;> split <;> omega
    · intro d hd
      obtain ⟨i, hi⟩ := List.mem_iff_getElem?.mp hd
      obtain ⟨h1, rfl⟩ := rng_at hi
      refine (e_call (ds := [.int (cellOf ns (0 + (i : Int)))]) (l_cons ?_ l_nil) ⟨_, rfl⟩).cast rfl
      refine (e_call (ds := [scrD ns, .int (0 + (i : Int))]) (l_cons (e_var rfl) (l_cons (e_var rfl) l_nil)) ⟨_, _, rfl, by omega⟩).cast ?_
      show PyData.int (cellOf ((ns.map PyData.int).map fun d => match d with | .int i => i | _ => 0) (0 + (i : Int))) = _
      rw [unint]
    · unfold rng
      rw [List.map_map, List.map_map]
      rfl
  · congr 1
    rw [List.all_map]
    exact List.all_eq_true.mpr fun _ _ => rfl
theorem ok_law (T : Tx K mg) : Dx.FnG Pg w K mg base CX0 8 T.a_law T.d_law ["script"] (Dx.spLaw K) := lawG_ok (ok_law0 T) fun _ _ => rfl
end
theorem all_mk {l : PySem.W.OpenLaw} {w : World} {K : PySem.W.Frag} {h : Heap} {mg : Str → Option Value} {fa : Addr} (X : K.In h) (G : h.Ns mainGlobals mg) (hfa : mg "law" = some (.ref fa))
    {f0 : Addr} {od0 an0 : Option Addr} {sl0 : Array (Option Value)} {oc0 kV0 dc0 pm0 cd0 ct0 : Value}
    {f1 : Addr} {od1 an1 : Option Addr} {sl1 : Array (Option Value)} {oc1 kV1 dc1 pm1 cd1 ct1 : Value}
    {f2 : Addr} {od2 an2 : Option Addr} {sl2 : Array (Option Value)} {oc2 kV2 dc2 pm2 cd2 ct2 : Value}
    {f3 : Addr} {od3 an3 : Option Addr} {sl3 : Array (Option Value)} {oc3 kV3 dc3 pm3 cd3 ct3 : Value}
    {f4 : Addr} {od4 an4 : Option Addr} {sl4 : Array (Option Value)} {oc4 kV4 dc4 pm4 cd4 ct4 : Value}
    {f5 : Addr} {od5 an5 : Option Addr} {sl5 : Array (Option Value)} {oc5 kV5 dc5 pm5 cd5 ct5 : Value}
    {f6 : Addr} {od6 an6 : Option Addr} {sl6 : Array (Option Value)} {oc6 kV6 dc6 pm6 cd6 ct6 : Value}
    {f7 : Addr} {od7 an7 : Option Addr} {sl7 : Array (Option Value)} {oc7 kV7 dc7 pm7 cd7 ct7 : Value}
    {f8 : Addr} {od8 an8 : Option Addr} {sl8 : Array (Option Value)} {oc8 kV8 dc8 pm8 cd8 ct8 : Value}
    {f9 : Addr} {od9 an9 : Option Addr} {sl9 : Array (Option Value)} {oc9 kV9 dc9 pm9 cd9 ct9 : Value}
    {f10 : Addr} {od10 an10 : Option Addr} {sl10 : Array (Option Value)} {oc10 kV10 dc10 pm10 cd10 ct10 : Value}
    {f11 : Addr} {od11 an11 : Option Addr} {sl11 : Array (Option Value)} {oc11 kV11 dc11 pm11 cd11 ct11 : Value}
    {f12 : Addr} {od12 an12 : Option Addr} {sl12 : Array (Option Value)} {oc12 kV12 dc12 pm12 cd12 ct12 : Value}
    {f13 : Addr} {od13 an13 : Option Addr} {sl13 : Array (Option Value)} {oc13 kV13 dc13 pm13 cd13 ct13 : Value}
    {f14 : Addr} {od14 an14 : Option Addr} {sl14 : Array (Option Value)} {oc14 kV14 dc14 pm14 cd14 ct14 : Value}
    {f15 : Addr} {od15 an15 : Option Addr} {sl15 : Array (Option Value)} {oc15 kV15 dc15 pm15 cd15 ct15 : Value}
    {f16 : Addr} {od16 an16 : Option Addr} {sl16 : Array (Option Value)} {oc16 kV16 dc16 pm16 cd16 ct16 : Value}
    {t_FEWEST_COPIERS : Tok}
    {t_MOST_COPIERS : Tok}
    {t_MOST_MANY : Tok}
    {t_MOST_PERIOD : Tok}
    (a0 : PySem.W.nsIn K mainGlobals "is_integer" = some (some (.ref f0))) (l0 : K.lookup f0 = some ⟨oc0, od0, .func (PySem.W.fnOf "is_integer" "is_integer" (defArgs s_is_integer) (defBody s_is_integer) (defScope s_is_integer) .none kV0 dc0 pm0 an0 cd0 ct0), sl0⟩) (c0 : PySem.W.codeIn K cd0 "is_integer" = true) (k0 : PySem.W.keepIn K (.ref f0) = true)
    (a1 : PySem.W.nsIn K mainGlobals "is_within" = some (some (.ref f1))) (l1 : K.lookup f1 = some ⟨oc1, od1, .func (PySem.W.fnOf "is_within" "is_within" (defArgs s_is_within) (defBody s_is_within) (defScope s_is_within) .none kV1 dc1 pm1 an1 cd1 ct1), sl1⟩) (c1 : PySem.W.codeIn K cd1 "is_within" = true) (k1 : PySem.W.keepIn K (.ref f1) = true)
    (a2 : PySem.W.nsIn K mainGlobals "check_many" = some (some (.ref f2))) (l2 : K.lookup f2 = some ⟨oc2, od2, .func (PySem.W.fnOf "check_many" "check_many" (defArgs s_check_many) (defBody s_check_many) (defScope s_check_many) .none kV2 dc2 pm2 an2 cd2 ct2), sl2⟩) (c2 : PySem.W.codeIn K cd2 "check_many" = true) (k2 : PySem.W.keepIn K (.ref f2) = true)
    (a3 : PySem.W.nsIn K mainGlobals "ascending" = some (some (.ref f3))) (l3 : K.lookup f3 = some ⟨oc3, od3, .func (PySem.W.fnOf "ascending" "ascending" (defArgs s_ascending) (defBody s_ascending) (defScope s_ascending) .none kV3 dc3 pm3 an3 cd3 ct3), sl3⟩) (c3 : PySem.W.codeIn K cd3 "ascending" = true) (k3 : PySem.W.keepIn K (.ref f3) = true)
    (a4 : PySem.W.nsIn K mainGlobals "is_row" = some (some (.ref f4))) (l4 : K.lookup f4 = some ⟨oc4, od4, .func (PySem.W.fnOf "is_row" "is_row" (defArgs s_is_row) (defBody s_is_row) (defScope s_is_row) .none kV4 dc4 pm4 an4 cd4 ct4), sl4⟩) (c4 : PySem.W.codeIn K cd4 "is_row" = true) (k4 : PySem.W.keepIn K (.ref f4) = true)
    (a5 : PySem.W.nsIn K mainGlobals "check_row" = some (some (.ref f5))) (l5 : K.lookup f5 = some ⟨oc5, od5, .func (PySem.W.fnOf "check_row" "check_row" (defArgs s_check_row) (defBody s_check_row) (defScope s_check_row) .none kV5 dc5 pm5 an5 cd5 ct5), sl5⟩) (c5 : PySem.W.codeIn K cd5 "check_row" = true) (k5 : PySem.W.keepIn K (.ref f5) = true)
    (a6 : PySem.W.nsIn K mainGlobals "totals" = some (some (.ref f6))) (l6 : K.lookup f6 = some ⟨oc6, od6, .func (PySem.W.fnOf "totals" "totals" (defArgs s_totals) (defBody s_totals) (defScope s_totals) .none kV6 dc6 pm6 an6 cd6 ct6), sl6⟩) (c6 : PySem.W.codeIn K cd6 "totals" = true) (k6 : PySem.W.keepIn K (.ref f6) = true)
    (a7 : PySem.W.nsIn K mainGlobals "loses" = some (some (.ref f7))) (l7 : K.lookup f7 = some ⟨oc7, od7, .func (PySem.W.fnOf "loses" "loses" (defArgs s_loses) (defBody s_loses) (defScope s_loses) .none kV7 dc7 pm7 an7 cd7 ct7), sl7⟩) (c7 : PySem.W.codeIn K cd7 "loses" = true) (k7 : PySem.W.keepIn K (.ref f7) = true)
    (a8 : PySem.W.nsIn K mainGlobals "repeats" = some (some (.ref f8))) (l8 : K.lookup f8 = some ⟨oc8, od8, .func (PySem.W.fnOf "repeats" "repeats" (defArgs s_repeats) (defBody s_repeats) (defScope s_repeats) .none kV8 dc8 pm8 an8 cd8 ct8), sl8⟩) (c8 : PySem.W.codeIn K cd8 "repeats" = true) (k8 : PySem.W.keepIn K (.ref f8) = true)
    (a9 : PySem.W.nsIn K mainGlobals "_law_cell" = some (some (.ref f9))) (l9 : K.lookup f9 = some ⟨oc9, od9, .func (PySem.W.fnOf "_law_cell" "_law_cell" (defArgs s_law_cell) (defBody s_law_cell) (defScope s_law_cell) .none kV9 dc9 pm9 an9 cd9 ct9), sl9⟩) (c9 : PySem.W.codeIn K cd9 "_law_cell" = true) (k9 : PySem.W.keepIn K (.ref f9) = true)
    (a10 : PySem.W.nsIn K mainGlobals "_law_draw" = some (some (.ref f10))) (l10 : K.lookup f10 = some ⟨oc10, od10, .func (PySem.W.fnOf "_law_draw" "_law_draw" (defArgs s_law_draw) (defBody s_law_draw) (defScope s_law_draw) .none kV10 dc10 pm10 an10 cd10 ct10), sl10⟩) (c10 : PySem.W.codeIn K cd10 "_law_draw" = true) (k10 : PySem.W.keepIn K (.ref f10) = true)
    (a11 : PySem.W.nsIn K mainGlobals "_law_periods" = some (some (.ref f11))) (l11 : K.lookup f11 = some ⟨oc11, od11, .func (PySem.W.fnOf "_law_periods" "_law_periods" (defArgs s_law_periods) (defBody s_law_periods) (defScope s_law_periods) .none kV11 dc11 pm11 an11 cd11 ct11), sl11⟩) (c11 : PySem.W.codeIn K cd11 "_law_periods" = true) (k11 : PySem.W.keepIn K (.ref f11) = true)
    (a12 : PySem.W.nsIn K mainGlobals "_law_same" = some (some (.ref f12))) (l12 : K.lookup f12 = some ⟨oc12, od12, .func (PySem.W.fnOf "_law_same" "_law_same" (defArgs s_law_same) (defBody s_law_same) (defScope s_law_same) .none kV12 dc12 pm12 an12 cd12 ct12), sl12⟩) (c12 : PySem.W.codeIn K cd12 "_law_same" = true) (k12 : PySem.W.keepIn K (.ref f12) = true)
    (a13 : PySem.W.nsIn K mainGlobals "_law_due" = some (some (.ref f13))) (l13 : K.lookup f13 = some ⟨oc13, od13, .func (PySem.W.fnOf "_law_due" "_law_due" (defArgs s_law_due) (defBody s_law_due) (defScope s_law_due) .none kV13 dc13 pm13 an13 cd13 ct13), sl13⟩) (c13 : PySem.W.codeIn K cd13 "_law_due" = true) (k13 : PySem.W.keepIn K (.ref f13) = true)
    (a14 : PySem.W.nsIn K mainGlobals "_law_end" = some (some (.ref f14))) (l14 : K.lookup f14 = some ⟨oc14, od14, .func (PySem.W.fnOf "_law_end" "_law_end" (defArgs s_law_end) (defBody s_law_end) (defScope s_law_end) .none kV14 dc14 pm14 an14 cd14 ct14), sl14⟩) (c14 : PySem.W.codeIn K cd14 "_law_end" = true) (k14 : PySem.W.keepIn K (.ref f14) = true)
    (a15 : PySem.W.nsIn K mainGlobals "_law_right" = some (some (.ref f15))) (l15 : K.lookup f15 = some ⟨oc15, od15, .func (PySem.W.fnOf "_law_right" "_law_right" (defArgs s_law_right) (defBody s_law_right) (defScope s_law_right) .none kV15 dc15 pm15 an15 cd15 ct15), sl15⟩) (c15 : PySem.W.codeIn K cd15 "_law_right" = true) (k15 : PySem.W.keepIn K (.ref f15) = true)
    (a16 : PySem.W.nsIn K mainGlobals "law" = some (some (.ref f16))) (l16 : K.lookup f16 = some ⟨oc16, od16, .func (PySem.W.fnOf "law" "law" (defArgs s_law) (defBody s_law) (defScope s_law) .none kV16 dc16 pm16 an16 cd16 ct16), sl16⟩) (c16 : PySem.W.codeIn K cd16 "law" = true) (k16 : PySem.W.keepIn K (.ref f16) = true)
    (y_FEWEST_COPIERS : PySem.W.nsIn K mainGlobals "FEWEST_COPIERS" = some (some (.int 2 t_FEWEST_COPIERS)))
    (y_MOST_COPIERS : PySem.W.nsIn K mainGlobals "MOST_COPIERS" = some (some (.int 5 t_MOST_COPIERS)))
    (y_MOST_MANY : PySem.W.nsIn K mainGlobals "MOST_MANY" = some (some (.int 2000 t_MOST_MANY)))
    (y_MOST_PERIOD : PySem.W.nsIn K mainGlobals "MOST_PERIOD" = some (some (.int 60 t_MOST_PERIOD)))
    (z_all : PySem.W.nsIn K mainGlobals "all" = some none)
    (z_bool : PySem.W.nsIn K mainGlobals "bool" = some none)
    (z_int : PySem.W.nsIn K mainGlobals "int" = some none)
    (z_isinstance : PySem.W.nsIn K mainGlobals "isinstance" = some none)
    (z_len : PySem.W.nsIn K mainGlobals "len" = some none)
    (z_max : PySem.W.nsIn K mainGlobals "max" = some none)
    (z_min : PySem.W.nsIn K mainGlobals "min" = some none)
    (z_range : PySem.W.nsIn K mainGlobals "range" = some none)
    (z_repr : PySem.W.nsIn K mainGlobals "repr" = some none)
    (z_set : PySem.W.nsIn K mainGlobals "set" = some none)
    (z_sorted : PySem.W.nsIn K mainGlobals "sorted" = some none)
    (z_str : PySem.W.nsIn K mainGlobals "str" = some none)
    (z_tuple : PySem.W.nsIn K mainGlobals "tuple" = some none) :
    ∃ fd : FuncData, (∀ (s : Shared) (v : Value), BindsTo s fd ⟨[v], []⟩ [("script", v)]) ∧ ∀ base : Heap, K.In base → base.Ns mainGlobals mg → Dx.FnG l.prog w K mg base CX0 8 fa fd ["script"] (Dx.spLaw K) := by
  have e := hfa.symm.trans (PySem.W.mg_of X G a16)
  cases e
  let T : Tx K mg := {
    a_is_integer := f0, d_is_integer := _, F_is_integer := fun_mk (st := s_is_integer) l0 c0 k0, b_is_integer := (fun_mk (st := s_is_integer) l0 c0 k0).binds (ps := ["value"]) fun _ _ _ _ _ _ us hl => match us, hl with | [_], _ => rfl, g_is_integer := PySem.W.mg_of X G a0,
    a_is_within := f1, d_is_within := _, F_is_within := fun_mk (st := s_is_within) l1 c1 k1, b_is_within := (fun_mk (st := s_is_within) l1 c1 k1).binds (ps := ["value", "least", "most"]) fun _ _ _ _ _ _ us hl => match us, hl with | [_, _, _], _ => rfl, g_is_within := PySem.W.mg_of X G a1,
    a_check_many := f2, d_check_many := _, F_check_many := fun_mk (st := s_check_many) l2 c2 k2, b_check_many := (fun_mk (st := s_check_many) l2 c2 k2).binds (ps := ["many"]) fun _ _ _ _ _ _ us hl => match us, hl with | [_], _ => rfl, g_check_many := PySem.W.mg_of X G a2,
    a_ascending := f3, d_ascending := _, F_ascending := fun_mk (st := s_ascending) l3 c3 k3, b_ascending := (fun_mk (st := s_ascending) l3 c3 k3).binds (ps := ["items"]) fun _ _ _ _ _ _ us hl => match us, hl with | [_], _ => rfl, g_ascending := PySem.W.mg_of X G a3,
    a_is_row := f4, d_is_row := _, F_is_row := fun_mk (st := s_is_row) l4 c4 k4, b_is_row := (fun_mk (st := s_is_row) l4 c4 k4).binds (ps := ["value"]) fun _ _ _ _ _ _ us hl => match us, hl with | [_], _ => rfl, g_is_row := PySem.W.mg_of X G a4,
    a_check_row := f5, d_check_row := _, F_check_row := fun_mk (st := s_check_row) l5 c5 k5, b_check_row := (fun_mk (st := s_check_row) l5 c5 k5).binds (ps := ["row"]) fun _ _ _ _ _ _ us hl => match us, hl with | [_], _ => rfl, g_check_row := PySem.W.mg_of X G a5,
    a_totals := f6, d_totals := _, F_totals := fun_mk (st := s_totals) l6 c6 k6, b_totals := (fun_mk (st := s_totals) l6 c6 k6).binds (ps := ["row", "many"]) fun _ _ _ _ _ _ us hl => match us, hl with | [_, _], _ => rfl, g_totals := PySem.W.mg_of X G a6,
    a_loses := f7, d_loses := _, F_loses := fun_mk (st := s_loses) l7 c7 k7, b_loses := (fun_mk (st := s_loses) l7 c7 k7).binds (ps := ["row"]) fun _ _ _ _ _ _ us hl => match us, hl with | [_], _ => rfl, g_loses := PySem.W.mg_of X G a7,
    a_repeats := f8, d_repeats := _, F_repeats := fun_mk (st := s_repeats) l8 c8 k8, b_repeats := (fun_mk (st := s_repeats) l8 c8 k8).binds (ps := ["row"]) fun _ _ _ _ _ _ us hl => match us, hl with | [_], _ => rfl, g_repeats := PySem.W.mg_of X G a8,
    a__law_cell := f9, d__law_cell := _, F__law_cell := fun_mk (st := s_law_cell) l9 c9 k9, b__law_cell := (fun_mk (st := s_law_cell) l9 c9 k9).binds (ps := ["script", "k"]) fun _ _ _ _ _ _ us hl => match us, hl with | [_, _], _ => rfl, g__law_cell := PySem.W.mg_of X G a9,
    a__law_draw := f10, d__law_draw := _, F__law_draw := fun_mk (st := s_law_draw) l10 c10 k10, b__law_draw := (fun_mk (st := s_law_draw) l10 c10 k10).binds (ps := ["cell", "k", "limit"]) fun _ _ _ _ _ _ us hl => match us, hl with | [_, _, _], _ => rfl, g__law_draw := PySem.W.mg_of X G a10,
    a__law_periods := f11, d__law_periods := _, F__law_periods := fun_mk (st := s_law_periods) l11 c11 k11, b__law_periods := (fun_mk (st := s_law_periods) l11 c11 k11).binds (ps := ["cell", "k", "greatest", "copiers"]) fun _ _ _ _ _ _ us hl => match us, hl with | [_, _, _, _], _ => rfl, g__law_periods := PySem.W.mg_of X G a11,
    a__law_same := f12, d__law_same := _, F__law_same := fun_mk (st := s_law_same) l12 c12 k12, b__law_same := (fun_mk (st := s_law_same) l12 c12 k12).binds (ps := ["found", "due"]) fun _ _ _ _ _ _ us hl => match us, hl with | [_, _], _ => rfl, g__law_same := PySem.W.mg_of X G a12,
    a__law_due := f13, d__law_due := _, F__law_due := fun_mk (st := s_law_due) l13 c13 k13, b__law_due := (fun_mk (st := s_law_due) l13 c13 k13).binds (ps := ["periods", "length"]) fun _ _ _ _ _ _ us hl => match us, hl with | [_, _], _ => rfl, g__law_due := PySem.W.mg_of X G a13,
    a__law_end := f14, d__law_end := _, F__law_end := fun_mk (st := s_law_end) l14 c14 k14, b__law_end := (fun_mk (st := s_law_end) l14 c14 k14).binds (ps := ["periods", "length", "up"]) fun _ _ _ _ _ _ us hl => match us, hl with | [_, _, _], _ => rfl, g__law_end := PySem.W.mg_of X G a14,
    a__law_right := f15, d__law_right := _, F__law_right := fun_mk (st := s_law_right) l15 c15 k15, b__law_right := (fun_mk (st := s_law_right) l15 c15 k15).binds (ps := ["cell"]) fun _ _ _ _ _ _ us hl => match us, hl with | [_], _ => rfl, g__law_right := PySem.W.mg_of X G a15,
    a_law := fa, d_law := _, F_law := fun_mk (st := s_law) l16 c16 k16, b_law := (fun_mk (st := s_law) l16 c16 k16).binds (ps := ["script"]) fun _ _ _ _ _ _ us hl => match us, hl with | [_], _ => rfl, g_law := PySem.W.mg_of X G a16,
    t_FEWEST_COPIERS := t_FEWEST_COPIERS, g_FEWEST_COPIERS := PySem.W.mg_of X G y_FEWEST_COPIERS,
    t_MOST_COPIERS := t_MOST_COPIERS, g_MOST_COPIERS := PySem.W.mg_of X G y_MOST_COPIERS,
    t_MOST_MANY := t_MOST_MANY, g_MOST_MANY := PySem.W.mg_of X G y_MOST_MANY,
    t_MOST_PERIOD := t_MOST_PERIOD, g_MOST_PERIOD := PySem.W.mg_of X G y_MOST_PERIOD,
    n_all := PySem.W.mg_none_of X G z_all,
    n_bool := PySem.W.mg_none_of X G z_bool,
    n_int := PySem.W.mg_none_of X G z_int,
    n_isinstance := PySem.W.mg_none_of X G z_isinstance,
    n_len := PySem.W.mg_none_of X G z_len,
    n_max := PySem.W.mg_none_of X G z_max,
    n_min := PySem.W.mg_none_of X G z_min,
    n_range := PySem.W.mg_none_of X G z_range,
    n_repr := PySem.W.mg_none_of X G z_repr,
    n_set := PySem.W.mg_none_of X G z_set,
    n_sorted := PySem.W.mg_none_of X G z_sorted,
    n_str := PySem.W.mg_none_of X G z_str,
    n_tuple := PySem.W.mg_none_of X G z_tuple }
  exact ⟨T.d_law, fun s v => .of_eq rfl, fun base _ _ => ok_law T⟩
end K12
open PySem PySem.W PyProof.Rows
set_option maxRecDepth 100000 in
set_option maxHeartbeats 0 in
theorem PySem.Challenge.cw_lastcopied_k12_totals_by_choices_holds : PySem.Challenge.rw_lastcopied_k12_totals_by_choices.Holds := by
  w_on; o_law; k_head; (case hw => w_witness2)
  k_fill
  refine Dx.walkG_of (l := PySem.Challenge.rw_lastcopied_k12_totals_by_choices) (n := 63) (k := 8) (x := "script") (sp := Dx.spLaw) rfl (by decide) rfl ⟨rfl, by decide, by decide⟩ (fun w h Y => PySem.W.kIn_of Y) ?F (fun _ _ a ns hl hO hS => ⟨a, ns, rfl, hS, hO, hl, fun _ => rfl⟩)
  case F =>
    intro w mg fa h KX G hmg
    refine' K12.all_mk KX G hmg ?a0 ?l0 ?c0 ?k0 ?a1 ?l1 ?c1 ?k1 ?a2 ?l2 ?c2 ?k2 ?a3 ?l3 ?c3 ?k3 ?a4 ?l4 ?c4 ?k4 ?a5 ?l5 ?c5 ?k5 ?a6 ?l6 ?c6 ?k6 ?a7 ?l7 ?c7 ?k7 ?a8 ?l8 ?c8 ?k8 ?a9 ?l9 ?c9 ?k9 ?a10 ?l10 ?c10 ?k10 ?a11 ?l11 ?c11 ?k11 ?a12 ?l12 ?c12 ?k12 ?a13 ?l13 ?c13 ?k13 ?a14 ?l14 ?c14 ?k14 ?a15 ?l15 ?c15 ?k15 ?a16 ?l16 ?c16 ?k16 ?y_FEWEST_COPIERS ?y_MOST_COPIERS ?y_MOST_MANY ?y_MOST_PERIOD ?z_all ?z_bool ?z_int ?z_isinstance ?z_len ?z_max ?z_min ?z_range ?z_repr ?z_set ?z_sorted ?z_str ?z_tuple
    (case a0 => k_is)
    (case l0 => k_is)
    (case c0 => k_is)
    (case k0 => k_is)
    (case a1 => k_is)
    (case l1 => k_is)
    (case c1 => k_is)
    (case k1 => k_is)
    (case a2 => k_is)
    (case l2 => k_is)
    (case c2 => k_is)
    (case k2 => k_is)
    (case a3 => k_is)
    (case l3 => k_is)
    (case c3 => k_is)
    (case k3 => k_is)
    (case a4 => k_is)
    (case l4 => k_is)
    (case c4 => k_is)
    (case k4 => k_is)
    (case a5 => k_is)
    (case l5 => k_is)
    (case c5 => k_is)
    (case k5 => k_is)
    (case a6 => k_is)
    (case l6 => k_is)
    (case c6 => k_is)
    (case k6 => k_is)
    (case a7 => k_is)
    (case l7 => k_is)
    (case c7 => k_is)
    (case k7 => k_is)
    (case a8 => k_is)
    (case l8 => k_is)
    (case c8 => k_is)
    (case k8 => k_is)
    (case a9 => k_is)
    (case l9 => k_is)
    (case c9 => k_is)
    (case k9 => k_is)
    (case a10 => k_is)
    (case l10 => k_is)
    (case c10 => k_is)
    (case k10 => k_is)
    (case a11 => k_is)
    (case l11 => k_is)
    (case c11 => k_is)
    (case k11 => k_is)
    (case a12 => k_is)
    (case l12 => k_is)
    (case c12 => k_is)
    (case k12 => k_is)
    (case a13 => k_is)
    (case l13 => k_is)
    (case c13 => k_is)
    (case k13 => k_is)
    (case a14 => k_is)
    (case l14 => k_is)
    (case c14 => k_is)
    (case k14 => k_is)
    (case a15 => k_is)
    (case l15 => k_is)
    (case c15 => k_is)
    (case k15 => k_is)
    (case a16 => k_is)
    (case l16 => k_is)
    (case c16 => k_is)
    (case k16 => k_is)
    (case y_FEWEST_COPIERS => k_is)
    (case y_MOST_COPIERS => k_is)
    (case y_MOST_MANY => k_is)
    (case y_MOST_PERIOD => k_is)
    (case z_all => k_is)
    (case z_bool => k_is)
    (case z_int => k_is)
    (case z_isinstance => k_is)
    (case z_len => k_is)
    (case z_max => k_is)
    (case z_min => k_is)
    (case z_range => k_is)
    (case z_repr => k_is)
    (case z_set => k_is)
    (case z_sorted => k_is)
    (case z_str => k_is)
    (case z_tuple => k_is)
