import PyProof.Rows.All
import Wide.All
import OpenK.AllK
import Wide.FinOn
import HandS.ForMost
import HandS.Wide
import HandS.WideBits
import HandS.IsInst
import HandS.SortInts
import HandS.Style
import HandS.TupAny
import HandS.More
import HandS.Strs
import HandS.Exc
import HandS.ExcOwn
import HandS.TryOnly
import HandS.WordsExc
import HandS.Dict
import HandS.ExcValue
import HandS.ExcIs
import HandS.ExcInit
import HandS.SetFor
import HandS.Gcd
import HandS.Conv
import HandS.RevRange
import KE.KMathG
import HandS.RaiseMore
import KE.LtData
import HandS.TupMul
import HandS.ExcField
import PySem.Challenge.RW_lastcopied_k07_errors_made
set_option Elab.async false
set_option linter.all false
set_option maxRecDepth 100000
namespace Dx
open PySem PySem.Spec L2
open PyProof.Rows hiding St

/-! ### springs: lists of three integers, written by whoever is handed them -/
class Sprs where
  g : List Addr
def Spr (H : Hp) (a : Addr) : Prop := ∃ i j k : Int, H a = some (.lst [.int i, .int j, .int k])
abbrev sprD : PyData := .dict []
variable [G : Sprs]
/-- what stood stands, but for the springs, which are springs still -/
def SameG (H H' : Hp) : Prop := ∀ a o, H a = some o → (a ∉ G.g ∧ H' a = some o) ∨ (a ∈ G.g ∧ (∃ o', H' a = some o') ∧ (Spr H a → Spr H' a))
theorem SameG.refl (H : Hp) : SameG H H := fun a o h => by
  by_cases e : a ∈ G.g
  · exact .inr ⟨e, ⟨_, h⟩, id⟩
  · exact .inl ⟨e, h⟩
theorem SameG.trans {H H' H2 : Hp} (e : SameG H H') (f : SameG H' H2) : SameG H H2 := fun a o h => by
  rcases e a o h with ⟨n, h1⟩ | ⟨m, ⟨o1, h1⟩, z⟩
  · rcases f a o h1 with ⟨_, h2⟩ | ⟨m, _⟩
    · exact .inl ⟨n, h2⟩
    · exact absurd m n
  · rcases f a o1 h1 with ⟨n, _⟩ | ⟨_, h2, z2⟩
    · exact absurd m n
    · exact .inr ⟨m, h2, fun q => z2 (z q)⟩
theorem SameG.of {H H' : Hp} (e : Same H H') : SameG H H' := fun a o h => by
  by_cases m : a ∈ G.g
  · exact .inr ⟨m, ⟨_, e _ _ h⟩, fun ⟨i, j, k, q⟩ => ⟨i, j, k, e _ _ q⟩⟩
  · exact .inl ⟨m, e _ _ h⟩
theorem SameG.at {H H' : Hp} {a : Addr} {o : HO} (e : SameG H H') (n : a ∉ G.g) (h : H a = some o) : H' a = some o := by
  rcases e a o h with ⟨_, h1⟩ | ⟨m, _⟩
  · exact h1
  · exact absurd m n
theorem SameG.free {H H' : Hp} {p : Addr} (e : SameG H H') (h : H' p = none) : H p = none := by
  cases q : H p with
  | none => rfl
  | some o =>
    rcases e p o q with ⟨_, h1⟩ | ⟨_, ⟨o1, h1⟩, _⟩
    · rw [h] at h1
      cases h1
    · rw [h] at h1
      cases h1
/-! ### data in a heap -/
/-- the script: read, never written -/
def ScrAt (K : PySem.W.Frag) (H : Hp) (a : Addr) (xs : List V) : Prop :=
  (∃ o, H a = some (.frz o (.lst xs))) ∨
    ∃ (o : Obj) (its : Array Value) (n : Nat), K.lookup a = some o ∧ o.cls = .type "list" ∧ o.dict = none ∧ o.data = .seq its n ∧ its.size ≤ sizeLine ∧ Vals xs its.toList
def scrD (ns : List Int) : PyData := .dict [(.list (ns.map PyData.int), .none)]
omit G in
theorem ScrAt.sq {K : PySem.W.Frag} {H : Hp} {a : Addr} {xs : List V} (h : ScrAt K H a xs) : SqL K H a xs := h.elim (fun z => .inl (.inr z)) .inr
omit G in
theorem ScrAt.same {K : PySem.W.Frag} {H H' : Hp} {a : Addr} {xs : List V} (e : Same H H') (h : ScrAt K H a xs) : ScrAt K H' a xs := h.elim (fun ⟨o, z⟩ => .inl ⟨o, e _ _ z⟩) .inr
/-- a dict whose keys are tuples of ints, its values lists of ints or booleans -/
inductive TabV (H : Hp) : List (List L2.Key × V) → List (List Int × PyData) → Prop
  | nil : TabV H [] []
  | lst {w s : List Int} {b : Addr} {kvs : List (List L2.Key × V)} {tbl : List (List Int × PyData)} : H b = some (.lst (s.map V.int)) → TabV H kvs tbl → TabV H ((w.map Sum.inl, .ref b) :: kvs) ((w, .list (s.map PyData.int)) :: tbl)
  | bl {w : List Int} {c : Bool} {kvs : List (List L2.Key × V)} {tbl : List (List Int × PyData)} : TabV H kvs tbl → TabV H ((w.map Sum.inl, .bl c) :: kvs) ((w, .bool c) :: tbl)
omit G in
theorem TabV.same {H H' : Hp} {kvs : List (List L2.Key × V)} {tbl : List (List Int × PyData)} (e : Same H H') (h : TabV H kvs tbl) : TabV H' kvs tbl := by
  induction h with
  | nil => exact .nil
  | lst h _ ih => exact .lst (e _ _ h) ih
  | bl _ ih => exact .bl ih
/-- open, or locked while it is walked -/
def TabAt (lk : Bool) (H : Hp) (a : Addr) (kvs : List (List L2.Key × V)) : Prop := match lk with
  | false => H a = some (.dT kvs)
  | true => ∃ o, H a = some (.frz o (.dT kvs))
omit G in
theorem TabAt.same {lk : Bool} {H H' : Hp} {a : Addr} {kvs : List (List L2.Key × V)} (e : Same H H') (h : TabAt lk H a kvs) : TabAt lk H' a kvs := by
  cases lk with
  | false => exact e _ _ h
  | true => exact h.elim fun o z => ⟨o, e _ _ z⟩
def entD (tbl : List (List Int × PyData)) : List (PyData × PyData) := tbl.map fun e => (.tuple (e.1.map PyData.int), e.2)
def tabD (lk : Bool) (tbl : List (List Int × PyData)) : PyData := .dict ((.bool lk, .none) :: entD tbl)
def ptD (w : List Int) : PyData := .dict [(.tuple (w.map PyData.int), .none)]
mutual
def noX : PyData → Bool
  | .dict _ => false
  | .list ds => noXs ds
  | .tuple ds => noXs ds
  | _ => true
def noXs : List PyData → Bool
  | [] => true
  | d :: ds => noX d && noXs ds
end
mutual
inductive Rp (K : PySem.W.Frag) (H : Hp) : V → PyData → Prop
  | non : Rp K H .non .none
  | bl (b : Bool) : Rp K H (.bl b) (.bool b)
  | int (i : Int) : Rp K H (.int i) (.int i)
  | str (x : Str) : Rp K H (.str x) (.str x)
  | lst {a : Addr} {xs : List V} {ds : List PyData} : H a = some (.lst xs) → RpAll K H xs ds → Rp K H (.ref a) (.list ds)
  | tup {a : Addr} {xs : List V} {ds : List PyData} : SqT K H a xs → RpAll K H xs ds → Rp K H (.ref a) (.tuple ds)
  | scr {a : Addr} {ns : List Int} : ScrAt K H a (ns.map V.int) → Rp K H (.ref a) (.dict [(.list (ns.map PyData.int), .none)])
  | spr {a : Addr} : a ∈ G.g → Rp K H (.ref a) (.dict [])
  | tab {a : Addr} {lk : Bool} {kvs : List (List L2.Key × V)} {tbl : List (List Int × PyData)} : TabAt lk H a kvs → TabV H kvs tbl → Rp K H (.ref a) (.dict ((.bool lk, .none) :: entD tbl))
  | pt {a : Addr} {w : List Int} : H a = some (.tup (w.map V.int)) → Rp K H (.ref a) (.dict [(.tuple (w.map PyData.int), .none)])
  | exc {a C : Addr} : H a = some (ExO (.ref C) a) → Rp K H (.ref a) (.dict [(.none, .int ((C : Nat) : Int))])
  | exp {a C dx : Addr} {f : Str} {v : V} {d : PyData} : H a = some (exo a C (some dx)) → H dx = some (exd dx [(f, v)]) → noX d = true → Rp K H v d → Rp K H (.ref a) (.dict [(.bool false, .str f), (.int ((C : Nat) : Int), d)])
inductive RpAll (K : PySem.W.Frag) (H : Hp) : List V → List PyData → Prop
  | nil : RpAll K H [] []
  | cons {v : V} {vs : List V} {d : PyData} {ds : List PyData} : Rp K H v d → RpAll K H vs ds → RpAll K H (v :: vs) (d :: ds)
end

def hid0 (H : Hp) (S : List Addr) : Hp := fun b => if b ∈ S then none else H b
def hid (H : Hp) (S : List Addr) : Hp := fun b => if b ∈ S ∨ b ∈ G.g then none else H b
def Dom (H : Hp) (S : List Addr) : Prop := (∀ a ∈ S, H a ≠ none ∧ ∀ xs, H a ≠ some (.tup xs)) ∧ ∀ a ∈ G.g, Spr H a

omit G in
theorem sqT_same {K : PySem.W.Frag} {H H' : Hp} {a : Addr} {xs : List V} (e : Same H H') (h : SqT K H a xs) : SqT K H' a xs := by
  rcases h with (h | ⟨o, h⟩) | h
  · exact .inl (.inl (e _ _ h))
  · exact .inl (.inr ⟨o, e _ _ h⟩)
  · exact .inr h

mutual
theorem Rp.same {K : PySem.W.Frag} {H H' : Hp} (e : Same H H') : ∀ {v : V} {d : PyData}, Rp K H v d → Rp K H' v d
  | _, _, .non => .non
  | _, _, .bl b => .bl b
  | _, _, .int i => .int i
  | _, _, .str x => .str x
  | _, _, .lst h r => .lst (e _ _ h) (RpAll.same e r)
  | _, _, .tup h r => .tup (sqT_same e h) (RpAll.same e r)
  | _, _, .scr h => .scr (h.same e)
  | _, _, .spr h => .spr h
  | _, _, .tab h r => .tab (h.same e) (r.same e)
  | _, _, .pt h => .pt (e _ _ h)
  | _, _, .exc h => .exc (e _ _ h)
  | _, _, .exp h1 h2 n r => .exp (e _ _ h1) (e _ _ h2) n (Rp.same e r)
theorem RpAll.same {K : PySem.W.Frag} {H H' : Hp} (e : Same H H') : ∀ {vs : List V} {ds : List PyData}, RpAll K H vs ds → RpAll K H' vs ds
  | _, _, .nil => .nil
  | _, _, .cons h r => .cons (Rp.same e h) (RpAll.same e r)
end
mutual
theorem Rp.dp {K : PySem.W.Frag} {H : Hp} : ∀ {v : V} {d : PyData}, noX d = true → Rp K H v d → Dp K H v d
  | _, _, _, .non => .non
  | _, _, _, .bl b => .bl b
  | _, _, _, .int i => .int i
  | _, _, _, .str x => .str x
  | _, _, n, .lst h r => .lst (.inl (.inl h)) (RpAll.dp (by simpa [noX] using n) r)
  | _, _, n, .tup h r => .tup h (RpAll.dp (by simpa [noX] using n) r)
  | _, _, n, .scr h => by simp [noX] at n
  | _, _, n, .spr h => by simp [noX] at n
  | _, _, n, .tab h r => by simp [noX] at n
  | _, _, n, .pt h => by simp [noX] at n
  | _, _, n, .exc h => by simp [noX] at n
  | _, _, n, .exp _ _ _ _ => by simp [noX] at n
theorem RpAll.dp {K : PySem.W.Frag} {H : Hp} : ∀ {vs : List V} {ds : List PyData}, noXs ds = true → RpAll K H vs ds → DpAll K H vs ds
  | _, _, _, .nil => .nil
  | _, _, n, .cons h r => by
    simp only [noXs, Bool.and_eq_true] at n
    exact .cons (Rp.dp n.1 h) (RpAll.dp n.2 r)
end

theorem hid_out {H : Hp} {S : List Addr} {b : Addr} {o : HO} (h : hid H S b = some o) : b ∉ S ∧ b ∉ G.g := by
  unfold hid at h
  split at h
  · cases h
  · rename_i q
    exact ⟨fun z => q (.inl z), fun z => q (.inr z)⟩
theorem hid_sub {H : Hp} {S : List Addr} : Same (hid H S) H := fun b o h => by
  unfold hid at h
  split at h
  · cases h
  · exact h
omit G in
theorem hid0_sub {H : Hp} {S : List Addr} : Same (hid0 H S) H := fun b o h => by
  unfold hid0 at h
  split at h
  · cases h
  · exact h
theorem hid_at {H : Hp} {S : List Addr} {a : Addr} {o : HO} (h : H a = some o) (q : a ∉ S ∧ a ∉ G.g) : hid H S a = some o := by
  unfold hid
  rw [if_neg (fun z => z.elim q.1 q.2)]
  exact h
omit G in
theorem hid0_at {H : Hp} {S : List Addr} {a : Addr} {o : HO} (h : H a = some o) (q : a ∉ S) : hid0 H S a = some o := by
  unfold hid0
  rw [if_neg q]
  exact h
theorem hid_same {H H' : Hp} {S : List Addr} (e : SameG H H') : Same (hid H S) (hid H' S) := fun b o h =>
  hid_at (e.at (hid_out h).2 (hid_sub _ _ h)) (hid_out h)
theorem hid_less {H : Hp} {S T : List Addr} (e : ∀ a ∈ T, a ∈ S) : Same (hid H S) (hid H T) := fun b o h =>
  hid_at (hid_sub _ _ h) ⟨fun z => (hid_out h).1 (e _ z), (hid_out h).2⟩
theorem hid_upd {H : Hp} {S : List Addr} {a : Addr} {o : HO} (q : a ∈ S) : Same (hid H S) (hid (upd H a o) S) := fun b u h => by
  refine hid_at ?_ (hid_out h)
  rw [upd_ne (fun (e : b = a) => (hid_out h).1 (by rw [e]; exact q))]
  exact hid_sub _ _ h
omit G in
theorem same_newP {H : Hp} {p : Addr} {o : HO} (h : H p = none) : Same H (upd H p o) := fun b x e => by
  rw [upd_ne (ne_of_none e h)]
  exact e
theorem same_new {H : Hp} {p : Addr} {o : HO} (h : H p = none) : SameG H (upd H p o) := .of (same_newP h)
theorem Dom.same {H H' : Hp} {S : List Addr} (d : Dom H S) (e : SameG H H') : Dom H' S := ⟨fun a h => ⟨fun z => (d.1 a h).1 (e.free z), fun xs z => by
  cases q : H a with
  | none => exact (d.1 a h).1 q
  | some o =>
    rcases e a o q with ⟨_, h1⟩ | ⟨m, _, w⟩
    · rw [z] at h1
      cases h1
      exact (d.1 a h).2 xs q
    · obtain ⟨i, j, k, h1⟩ := w (d.2 a m)
      rw [z] at h1
      cases h1⟩, fun a m => by
  obtain ⟨i, j, k, q⟩ := d.2 a m
  rcases e a _ q with ⟨n, _⟩ | ⟨_, _, z⟩
  · exact absurd m n
  · exact z ⟨i, j, k, q⟩⟩
theorem Dom.fresh {H : Hp} {S : List Addr} {p : Addr} (d : Dom H S) (h : H p = none) : p ∉ S ∧ p ∉ G.g := ⟨fun z => (d.1 p z).1 h, fun z => by
  obtain ⟨i, j, k, q⟩ := d.2 p z
  rw [h] at q
  cases q⟩
theorem Dom.cons {H : Hp} {S : List Addr} {p : Addr} {o : HO} (d : Dom H S) (h : H p = some o) (no : ∀ xs, o ≠ .tup xs := by intro xs e; cases e) : Dom H (p :: S) := ⟨fun a z => by
  rcases List.mem_cons.mp z with e | e
  · rw [e, h]
    exact ⟨fun z => (by cases z), fun xs z => no xs (Option.some.inj z)⟩
  · exact d.1 a e, d.2⟩

theorem SameG.updN {H H' : Hp} {D : Addr} {o : HO} (e : SameG H H') (n : H D = none) : SameG H (upd H' D o) := fun a u h => by
  have ne : a ≠ D := ne_of_none h n
  rcases e a u h with ⟨q, h1⟩ | ⟨m, ⟨o1, h1⟩, z⟩
  · exact .inl ⟨q, by rw [upd_ne ne]; exact h1⟩
  · refine .inr ⟨m, ⟨o1, by rw [upd_ne ne]; exact h1⟩, fun w => ?_⟩
    obtain ⟨i, j, k, q⟩ := z w
    exact ⟨i, j, k, by rw [upd_ne ne]; exact q⟩
theorem Rp.intEq {K : PySem.W.Frag} {H : Hp} {v : V} {i : Int} (r : Rp K H v (.int i)) : v = .int i := by cases r; rfl
theorem Rp.blEq {K : PySem.W.Frag} {H : Hp} {v : V} {b : Bool} (r : Rp K H v (.bool b)) : v = .bl b := by cases r; rfl
theorem Rp.strEq {K : PySem.W.Frag} {H : Hp} {v : V} {x : Str} (r : Rp K H v (.str x)) : v = .str x := by cases r; rfl
theorem Rp.nonEq {K : PySem.W.Frag} {H : Hp} {v : V} (r : Rp K H v .none) : v = .non := by cases r; rfl
theorem Rp.lstE {K : PySem.W.Frag} {H : Hp} {v : V} {ds : List PyData} (r : Rp K H v (.list ds)) : ∃ a xs, v = .ref a ∧ H a = some (.lst xs) ∧ RpAll K H xs ds := by
  cases r with | lst h q => exact ⟨_, _, rfl, h, q⟩
theorem Rp.tupE {K : PySem.W.Frag} {H : Hp} {v : V} {ds : List PyData} (r : Rp K H v (.tuple ds)) : ∃ a xs, v = .ref a ∧ SqT K H a xs ∧ RpAll K H xs ds := by
  cases r with | tup h q => exact ⟨_, _, rfl, h, q⟩
theorem RpAll.len {K : PySem.W.Frag} {H : Hp} : ∀ {vs : List V} {ds : List PyData}, RpAll K H vs ds → vs.length = ds.length
  | _, _, .nil => rfl
  | _, _, .cons _ r => congrArg (· + 1) (RpAll.len r)
theorem RpAll.at {K : PySem.W.Frag} {H : Hp} : ∀ {vs : List V} {ds : List PyData} {i : Nat} {d : PyData}, RpAll K H vs ds → ds[i]? = some d → ∃ v, vs[i]? = some v ∧ Rp K H v d
  | _, _, _, _, .nil, h => by simp at h
  | _, _, 0, _, .cons h r, e => by
    simp only [List.getElem?_cons_zero, Option.some.injEq] at e
    subst e
    exact ⟨_, rfl, h⟩
  | _, _, i + 1, _, .cons h r, e => by
    simp only [List.getElem?_cons_succ] at e
    simpa using RpAll.at r e
theorem RpAll.at' {K : PySem.W.Frag} {H : Hp} {vs : List V} {ds : List PyData} {i : Nat} {v : V} (r : RpAll K H vs ds) (h : vs[i]? = some v) : ∃ d, ds[i]? = some d ∧ Rp K H v d := by
  have hl := r.len
  have hi : i < ds.length := by
    rw [← hl]
    exact (List.getElem?_eq_some_iff.mp h).1
  obtain ⟨v', h', r'⟩ := r.at (List.getElem?_eq_getElem hi)
  rw [h] at h'
  cases h'
  exact ⟨_, List.getElem?_eq_getElem hi, r'⟩
theorem RpAll.app {K : PySem.W.Frag} {H : Hp} {vs ws : List V} {ds es : List PyData} (r : RpAll K H vs ds) (q : RpAll K H ws es) : RpAll K H (vs ++ ws) (ds ++ es) := by
  induction vs generalizing ds with
  | nil =>
    cases r
    exact q
  | cons v vs ih =>
    cases r with
    | cons h r => exact .cons h (ih r)
theorem RpAll.drop {K : PySem.W.Frag} {H : Hp} : ∀ {vs : List V} {ds : List PyData} (n : Nat), RpAll K H vs ds → RpAll K H (vs.drop n) (ds.drop n)
  | _, _, 0, r => r
  | _, _, n + 1, .nil => .nil
  | _, _, n + 1, .cons _ r => RpAll.drop n r
theorem RpAll.take {K : PySem.W.Frag} {H : Hp} : ∀ {vs : List V} {ds : List PyData} (n : Nat), RpAll K H vs ds → RpAll K H (vs.take n) (ds.take n)
  | _, _, 0, r => .nil
  | _, _, n + 1, .nil => .nil
  | _, _, n + 1, .cons h r => .cons h (RpAll.take n r)
theorem RpAll.rev {K : PySem.W.Frag} {H : Hp} {vs : List V} {ds : List PyData} (r : RpAll K H vs ds) : RpAll K H vs.reverse ds.reverse := by
  induction vs generalizing ds with
  | nil =>
    cases r
    exact .nil
  | cons v vs ih =>
    cases r with
    | cons h r =>
      rw [List.reverse_cons, List.reverse_cons]
      exact (ih r).app (.cons h .nil)
theorem RpAll.ints {K : PySem.W.Frag} {H : Hp} : ∀ {ns : List Int} {vs : List V}, RpAll K H vs (ns.map PyData.int) → vs = ns.map V.int
  | [], _, r => by
    cases r
    rfl
  | n :: ns, _, r => by
    cases r with
    | cons h r =>
      rw [h.intEq, RpAll.ints r]
      rfl
theorem RpAll.ofInts {K : PySem.W.Frag} {H : Hp} : ∀ (ns : List Int), RpAll K H (ns.map V.int) (ns.map PyData.int)
  | [] => .nil
  | n :: ns => .cons (.int n) (RpAll.ofInts ns)
theorem RpAll.bls {K : PySem.W.Frag} {H : Hp} : ∀ {ns : List Bool} {vs : List V}, RpAll K H vs (ns.map PyData.bool) → vs = ns.map V.bl
  | [], _, r => by
    cases r
    rfl
  | n :: ns, _, r => by
    cases r with
    | cons h r =>
      rw [h.blEq, RpAll.bls r]
      rfl

/-! ### slots -/
abbrev Env := List (Option PyData)
def EnvD (K : PySem.W.Frag) (H : Hp) (S : List Addr) (σ : St) (ρ : Env) : Prop := σ.length = ρ.length ∧ ∀ (i : Nat) (d : PyData), ρ[i]? = some (some d) → ∃ v, σ[i]? = some (some v) ∧ Rp K (hid H S) v d
theorem EnvD.same {K : PySem.W.Frag} {H H' : Hp} {S : List Addr} {σ : St} {ρ : Env} (h : EnvD K H S σ ρ) (e : SameG H H') : EnvD K H' S σ ρ :=
  ⟨h.1, fun i d q => by
    obtain ⟨v, a, r⟩ := h.2 i d q
    exact ⟨v, a, r.same (hid_same e)⟩⟩
theorem EnvD.set {K : PySem.W.Frag} {H : Hp} {S : List Addr} {σ : St} {ρ : Env} {i : Nat} {v : V} {d : PyData} (h : EnvD K H S σ ρ) (r : Rp K (hid H S) v d) : EnvD K H S (σ.set i (some v)) (ρ.set i (some d)) :=
  ⟨by rw [List.length_set, List.length_set]; exact h.1, fun j e q => by
    by_cases hj : i = j
    · subst hj
      have hi : i < ρ.length := by
        have := (List.getElem?_eq_some_iff.mp q).1
        rwa [List.length_set] at this
      rw [List.getElem?_set_self (by simpa using hi)] at q
      cases q
      exact ⟨v, List.getElem?_set_self (by rw [h.1]; exact hi), r⟩
    · rw [List.getElem?_set_ne hj] at q ⊢
      exact h.2 j e q⟩

/-! ### what an expression gives -/
def EvD (K : PySem.W.Frag) (t : TE) (ρ : Env) (d : PyData) : Prop :=
  ∀ (S : List Addr) (σ : St) (H : Hp) (Q : VK), Dom H S → EnvD K H S σ ρ → (∀ v H', SameG H H' → Rp K (hid H' S) v d → Q v H') → t σ H Q
/-- a new list -/
def EvF (K : PySem.W.Frag) (t : TE) (ρ : Env) (ds : List PyData) : Prop :=
  ∀ (S : List Addr) (σ : St) (H : Hp) (Q : VK), Dom H S → EnvD K H S σ ρ →
    (∀ p H' xs, SameG H H' → H p = none → H' p = some (.lst xs) → RpAll K (hid H' (p :: S)) xs ds → Q (.ref p) H') → t σ H Q
def EvB (K : PySem.W.Frag) (t : TT) (ρ : Env) (b : Bool) : Prop :=
  ∀ (S : List Addr) (σ : St) (H : Hp) (Q : Bool → Hp → Prop), Dom H S → EnvD K H S σ ρ → (∀ H', SameG H H' → Q b H') → t σ H Q
def EvL (K : PySem.W.Frag) (t : TA) (ρ : Env) (ds : List PyData) : Prop :=
  ∀ (S : List Addr) (σ : St) (H : Hp) (Q : List V → Hp → Prop), Dom H S → EnvD K H S σ ρ → (∀ vs H', SameG H H' → RpAll K (hid H' S) vs ds → Q vs H') → t σ H Q
variable {K : PySem.W.Frag} {ρ : Env}
theorem EvF.d {t : TE} {ds : List PyData} (h : EvF K t ρ ds) : EvD K t ρ (.list ds) := fun S σ H Q hd he hq =>
  h S σ H Q hd he fun p H' xs s hn hp r => hq _ _ s (.lst (hid_at hp (hd.fresh hn)) (r.same (hid_less fun a h => List.mem_cons_of_mem _ h)))
theorem EvD.cast {t : TE} {d e : PyData} (h : EvD K t ρ d) (q : d = e) : EvD K t ρ e := q ▸ h
theorem EvB.cast {t : TT} {d e : Bool} (h : EvB K t ρ d) (q : d = e) : EvB K t ρ e := q ▸ h
theorem EvL.cast {t : TA} {d e : List PyData} (h : EvL K t ρ d) (q : d = e) : EvL K t ρ e := q ▸ h
theorem EvF.cast {t : TE} {d e : List PyData} (h : EvF K t ρ d) (q : d = e) : EvF K t ρ e := q ▸ h
theorem e_var {i : Nat} {d : PyData} (h : ρ[i]? = some (some d)) : EvD K (tVar i) ρ d := fun S σ H Q hd he hq => by
  obtain ⟨v, a, r⟩ := he.2 i d h
  exact ⟨v, a, hq v H (SameG.refl _) r⟩
theorem e_int {i : Int} : EvD K (tC (.int i)) ρ (.int i) := fun S σ H Q hd he hq => hq _ H (SameG.refl _) (.int i)
theorem e_bl {i : Bool} : EvD K (tC (.bl i)) ρ (.bool i) := fun S σ H Q hd he hq => hq _ H (SameG.refl _) (.bl i)
theorem e_str {i : Str} : EvD K (tC (.str i)) ρ (.str i) := fun S σ H Q hd he hq => hq _ H (SameG.refl _) (.str i)
theorem e_non : EvD K (tC .non) ρ .none := fun S σ H Q hd he hq => hq _ H (SameG.refl _) .non
theorem e_opI0 {g : Int → Int → V} {ta tb : TE} {i j : Int} {d : PyData} (ha : EvD K ta ρ (.int i)) (hb : EvD K tb ρ (.int j)) (hg : ∀ H, Rp K H (g i j) d) : EvD K (tOp (rI0 g) ta tb) ρ d := fun S σ H Q hd he hq =>
  ha S σ H _ hd he fun x H1 s1 r1 => hb S σ H1 _ (hd.same s1) (he.same s1) fun y H2 s2 r2 => ⟨i, j, r1.intEq, r2.intEq, hq _ _ (s1.trans s2) (hg _)⟩
theorem e_opI {C : Int → Int → Prop} {g : Int → Int → V} {ta tb : TE} {i j : Int} {d : PyData} (ha : EvD K ta ρ (.int i)) (hb : EvD K tb ρ (.int j)) (hc : C i j) (hg : ∀ H, Rp K H (g i j) d) : EvD K (tOp (rI C g) ta tb) ρ d := fun S σ H Q hd he hq =>
  ha S σ H _ hd he fun x H1 s1 r1 => hb S σ H1 _ (hd.same s1) (he.same s1) fun y H2 s2 r2 => ⟨i, j, r1.intEq, r2.intEq, hc, hq _ _ (s1.trans s2) (hg _)⟩
theorem e_add {ta tb : TE} {i j : Int} (ha : EvD K ta ρ (.int i)) (hb : EvD K tb ρ (.int j)) : EvD K (tOp (rI0 fun i j => .int (i + j)) ta tb) ρ (.int (i + j)) := e_opI0 ha hb fun _ => .int _
theorem e_sub {ta tb : TE} {i j : Int} (ha : EvD K ta ρ (.int i)) (hb : EvD K tb ρ (.int j)) : EvD K (tOp (rI0 fun i j => .int (i - j)) ta tb) ρ (.int (i - j)) := e_opI0 ha hb fun _ => .int _
theorem e_lt {ta tb : TE} {i j : Int} (ha : EvD K ta ρ (.int i)) (hb : EvD K tb ρ (.int j)) : EvD K (tOp (rI0 fun i j => .bl (decide (i < j))) ta tb) ρ (.bool (decide (i < j))) := e_opI0 ha hb fun _ => .bl _
theorem e_le {ta tb : TE} {i j : Int} (ha : EvD K ta ρ (.int i)) (hb : EvD K tb ρ (.int j)) : EvD K (tOp (rI0 fun i j => .bl (decide (i ≤ j))) ta tb) ρ (.bool (decide (i ≤ j))) := e_opI0 ha hb fun _ => .bl _
theorem e_iop {C : Int → Int → Prop} {g : Int → Int → Int} {ta tb : TE} {i j : Int} (ha : EvD K ta ρ (.int i)) (hb : EvD K tb ρ (.int j)) (hc : C i j) : EvD K (tOp (rI C fun i j => .int (g i j)) ta tb) ρ (.int (g i j)) := e_opI ha hb hc fun _ => .int _
theorem e_neg {g : Int → Int} {ta : TE} {i : Int} (ha : EvD K ta ρ (.int i)) : EvD K (tUn (rU fun i => .int (g i)) ta) ρ (.int (g i)) := fun S σ H Q hd he hq =>
  ha S σ H _ hd he fun x H1 s1 r1 => ⟨i, r1.intEq, hq _ _ s1 (.int _)⟩
/-- scalars -/
def scalD : PyData → Bool
  | .none | .bool _ | .int _ | .str _ => true
  | _ => false
def vOf : PyData → V
  | .none => .non
  | .bool b => .bl b
  | .int i => .int i
  | .str x => .str x
  | _ => .non
theorem Rp.vEq {H : Hp} {v : V} {d : PyData} (r : Rp K H v d) (h : scalD d = true) : v = vOf d := by
  cases r <;> first | rfl | cases h
end Dx
namespace Dx
open PySem PySem.Spec L2
open PyProof.Rows hiding St
variable [G : Sprs] {K : PySem.W.Frag} {ρ : Env}

/-! ### truth, tests -/
theorem e_test {t : TE} {b : Bool} (h : EvD K t ρ (.bool b)) : EvB K (tTest t) ρ b := fun S σ H Q hd he hq =>
  h S σ H _ hd he fun v H' s r => ⟨b, r.blEq, hq _ s⟩
theorem e_tB {t : TE} {b : Bool} (h : EvD K t ρ (.bool b)) : EvB K (tB t) ρ b := fun S σ H Q hd he hq =>
  h S σ H _ hd he fun v H' s r => ⟨b, r.blEq, hq _ s⟩
theorem b_not {t : TT} {b : Bool} (h : EvB K t ρ b) : EvB K (tNot t) ρ (!b) := fun S σ H Q hd he hq => h S σ H _ hd he fun H' s => hq _ s
theorem b_and {t u : TT} {a b : Bool} (h : EvB K t ρ a) (g : a = true → EvB K u ρ b) : EvB K (tAnd t u) ρ (a && b) := fun S σ H Q hd he hq =>
  h S σ H _ hd he fun H1 s1 => by
    cases a with
    | true => exact g rfl S σ H1 Q (hd.same s1) (he.same s1) fun H2 s2 => hq _ (s1.trans s2)
    | false => exact hq _ s1
theorem b_or {t u : TT} {a b : Bool} (h : EvB K t ρ a) (g : a = false → EvB K u ρ b) : EvB K (tOr t u) ρ (a || b) := fun S σ H Q hd he hq =>
  h S σ H _ hd he fun H1 s1 => by
    cases a with
    | true => exact hq _ s1
    | false => exact g rfl S σ H1 Q (hd.same s1) (he.same s1) fun H2 s2 => hq _ (s1.trans s2)
theorem e_and {t u : TE} {a : Bool} {b : Bool} (h : EvD K t ρ (.bool a)) (g : a = true → EvD K u ρ (.bool b)) : EvD K (tAndV t u) ρ (.bool (a && b)) := fun S σ H Q hd he hq =>
  h S σ H _ hd he fun v H1 s1 r1 => ⟨a, r1.blEq, by
    cases a with
    | true => exact g rfl S σ H1 Q (hd.same s1) (he.same s1) fun v H2 s2 r2 => hq _ _ (s1.trans s2) r2
    | false => exact hq _ _ s1 (.bl _)⟩
theorem e_or {t u : TE} {a : Bool} {b : Bool} (h : EvD K t ρ (.bool a)) (g : a = false → EvD K u ρ (.bool b)) : EvD K (tOrV t u) ρ (.bool (a || b)) := fun S σ H Q hd he hq =>
  h S σ H _ hd he fun v H1 s1 r1 => ⟨a, r1.blEq, by
    cases a with
    | true => exact hq _ _ s1 (.bl _)
    | false => exact g rfl S σ H1 Q (hd.same s1) (he.same s1) fun v H2 s2 r2 => hq _ _ (s1.trans s2) r2⟩
theorem e_not {t : TE} {a : Bool} (h : EvD K t ρ (.bool a)) : EvD K (tNotV t) ρ (.bool (!a)) := fun S σ H Q hd he hq =>
  h S σ H _ hd he fun v H1 s1 r1 => ⟨a, r1.blEq, hq _ _ s1 (.bl _)⟩
theorem e_ifx {c : TT} {t u : TE} {b : Bool} {d : PyData} (h : EvB K c ρ b) (h1 : b = true → EvD K t ρ d) (h2 : b = false → EvD K u ρ d) : EvD K (tIf c t u) ρ d := fun S σ H Q hd he hq =>
  h S σ H _ hd he fun H1 s1 => by
    cases b with
    | true => exact h1 rfl S σ H1 Q (hd.same s1) (he.same s1) fun v H2 s2 r2 => hq _ _ (s1.trans s2) r2
    | false => exact h2 rfl S σ H1 Q (hd.same s1) (he.same s1) fun v H2 s2 r2 => hq _ _ (s1.trans s2) r2
theorem e_chain {r r' : R2} {ta tb tc : TE} {f f' : Int → Int → Bool} {i j k : Int} (ha : EvD K ta ρ (.int i)) (hb : EvD K tb ρ (.int j)) (hc : f i j = true → EvD K tc ρ (.int k))
    (hr : ∀ H Q, Q (.bl (f i j)) H → r (.int i) (.int j) H Q) (hr' : ∀ H Q, Q (.bl (f' j k)) H → r' (.int j) (.int k) H Q) : EvD K (tChain r r' ta tb tc) ρ (.bool (f i j && f' j k)) := fun S σ H Q hd he hq =>
  ha S σ H _ hd he fun x H1 s1 r1 => hb S σ H1 _ (hd.same s1) (he.same s1) fun y H2 s2 r2 => by
    rw [r1.intEq, r2.intEq]
    have s12 := s1.trans s2
    refine hr H2 _ ⟨f i j, rfl, ?_⟩
    cases q : f i j with
    | true =>
      refine hc q S σ H2 _ (hd.same s12) (he.same s12) fun z H3 s3 r3 => ?_
      rw [r3.intEq]
      refine hr' H3 _ (hq _ _ (s12.trans s3) ?_)
      rw [q]
      exact .bl _
    | false =>
      refine hq _ _ s12 ?_
      rw [q]
      exact .bl _
omit G in
theorem r_le {i j : Int} (H : Hp) (Q : VK) (h : Q (.bl (decide (i ≤ j))) H) : rI0 (fun i j => .bl (decide (i ≤ j))) (.int i) (.int j) H Q := ⟨i, j, rfl, rfl, h⟩
omit G in
theorem r_lt {i j : Int} (H : Hp) (Q : VK) (h : Q (.bl (decide (i < j))) H) : rI0 (fun i j => .bl (decide (i < j))) (.int i) (.int j) H Q := ⟨i, j, rfl, rfl, h⟩

/-! ### equality -/
def eqS : PyData → PyData → Bool := fun d e => decide (vOf d = vOf e)
omit G in
theorem scal_vOf {d e : PyData} (h : scal (vOf d) (vOf e) = true) : True := trivial
theorem e_eqS {ta tb : TE} {d e : PyData} (ha : EvD K ta ρ d) (hb : EvD K tb ρ e) (h1 : scalD d = true) (h2 : scalD e = true) (hs : scal (vOf d) (vOf e) = true) : EvD K (tOp rEq ta tb) ρ (.bool (decide (vOf d = vOf e))) := fun S σ H Q hd he hq =>
  ha S σ H _ hd he fun x H1 s1 r1 => hb S σ H1 _ (hd.same s1) (he.same s1) fun y H2 s2 r2 => by
    rw [r1.vEq h1, r2.vEq h2]
    exact ⟨hs, hq _ _ (s1.trans s2) (.bl _)⟩
theorem e_neS {ta tb : TE} {d e : PyData} (ha : EvD K ta ρ d) (hb : EvD K tb ρ e) (h1 : scalD d = true) (h2 : scalD e = true) (hs : scal (vOf d) (vOf e) = true) : EvD K (tOp rNe ta tb) ρ (.bool (!decide (vOf d = vOf e))) := fun S σ H Q hd he hq =>
  ha S σ H _ hd he fun x H1 s1 r1 => hb S σ H1 _ (hd.same s1) (he.same s1) fun y H2 s2 r2 => by
    rw [r1.vEq h1, r2.vEq h2]
    exact ⟨hs, hq _ _ (s1.trans s2) (.bl _)⟩
theorem e_eqI {ta tb : TE} {i j : Int} (ha : EvD K ta ρ (.int i)) (hb : EvD K tb ρ (.int j)) : EvD K (tOp rEq ta tb) ρ (.bool (decide (i = j))) := by
  refine (e_eqS ha hb rfl rfl rfl).cast ?_
  show PyData.bool (decide (V.int i = V.int j)) = _
  congr 1
  by_cases h : i = j
  · rw [h]; simp
  · rw [decide_eq_false h, decide_eq_false (fun z => h (V.int.inj z))]
theorem e_neI {ta tb : TE} {i j : Int} (ha : EvD K ta ρ (.int i)) (hb : EvD K tb ρ (.int j)) : EvD K (tOp rNe ta tb) ρ (.bool (!decide (i = j))) := by
  refine (e_neS ha hb rfl rfl rfl).cast ?_
  show PyData.bool (!decide (V.int i = V.int j)) = _
  congr 2
  by_cases h : i = j
  · rw [h]; simp
  · rw [decide_eq_false h, decide_eq_false (fun z => h (V.int.inj z))]
theorem e_eqT {ta tb : TE} {i j : Str} (ha : EvD K ta ρ (.str i)) (hb : EvD K tb ρ (.str j)) : EvD K (tOp rEq ta tb) ρ (.bool (decide (i = j))) := by
  refine (e_eqS ha hb rfl rfl rfl).cast ?_
  show PyData.bool (decide (V.str i = V.str j)) = _
  congr 1
  by_cases h : i = j
  · rw [h]; simp
  · rw [decide_eq_false h, decide_eq_false (fun z => h (V.str.inj z))]
theorem e_eqD {ta tb : TE} {d e : PyData} (ha : EvD K ta ρ d) (hb : EvD K tb ρ e) (h1 : SeqAt.shaped d = true) (h2 : SeqAt.shaped e = true) (n1 : noX d = true) (n2 : noX e = true) : EvD K (tOp (rEqD K) ta tb) ρ (.bool (PyData.eqv d e)) := fun S σ H Q hd he hq =>
  ha S σ H _ hd he fun x H1 s1 r1 => hb S σ H1 _ (hd.same s1) (he.same s1) fun y H2 s2 r2 =>
    ⟨d, e, ((r1.same (hid_same s2)).same hid_sub).dp n1, (r2.same hid_sub).dp n2, h1, h2, hq _ _ (s1.trans s2) (.bl _)⟩
theorem e_neD {ta tb : TE} {d e : PyData} (ha : EvD K ta ρ d) (hb : EvD K tb ρ e) (h1 : SeqAt.shaped d = true) (h2 : SeqAt.shaped e = true) (n1 : noX d = true) (n2 : noX e = true) : EvD K (tOp (rNeD K) ta tb) ρ (.bool (!PyData.eqv d e)) := fun S σ H Q hd he hq =>
  ha S σ H _ hd he fun x H1 s1 r1 => hb S σ H1 _ (hd.same s1) (he.same s1) fun y H2 s2 r2 =>
    ⟨d, e, ((r1.same (hid_same s2)).same hid_sub).dp n1, (r2.same hid_sub).dp n2, h1, h2, hq _ _ (s1.trans s2) (.bl _)⟩

/-! ### arguments, displays, calls -/
theorem l_nil : EvL K tNil ρ [] := fun S σ H Q hd he hq => hq _ _ (SameG.refl _) .nil
theorem l_cons {t : TE} {u : TA} {d : PyData} {ds : List PyData} (h : EvD K t ρ d) (g : EvL K u ρ ds) : EvL K (tCons t u) ρ (d :: ds) := fun S σ H Q hd he hq =>
  h S σ H _ hd he fun x H1 s1 r1 => g S σ H1 _ (hd.same s1) (he.same s1) fun xs H2 s2 r2 => hq _ _ (s1.trans s2) (.cons (r1.same (hid_same s2)) r2)
theorem e_tup {t : TA} {ds : List PyData} (h : EvL K t ρ ds) (hz : ds.length ≤ sizeLine) : EvD K (tTup t) ρ (.tuple ds) := fun S σ H Q hd he hq =>
  h S σ H _ hd he fun xs H1 s1 r1 => ⟨by rw [r1.len]; exact hz, fun p hp => hq _ _ (s1.trans (same_new hp)) (.tup (.inl (.inl (hid_at upd_same ((hd.same s1).fresh hp)))) (r1.same (hid_same (same_new hp))))⟩
theorem f_lst {t : TA} {ds : List PyData} (h : EvL K t ρ ds) (hz : ds.length ≤ sizeLine) : EvF K (tLst t) ρ ds := fun S σ H Q hd he hq =>
  h S σ H _ hd he fun xs H1 s1 r1 => ⟨by rw [r1.len]; exact hz, fun p hp => by
    refine hq p _ xs (s1.trans (same_new hp)) (s1.free hp) upd_same ?_
    refine RpAll.same ?_ r1
    intro b o hb
    have hH : H1 b = some o := hid_sub b o hb
    refine hid_at (by rw [upd_ne (ne_of_none hH hp)]; exact hH) ⟨fun z => ?_, (hid_out hb).2⟩
    rcases List.mem_cons.mp z with e | e
    · exact ne_of_none hH hp e
    · exact (hid_out hb).1 e⟩
/-- a def's promise over data -/
def spD (K : PySem.W.Frag) (pre : List PyData → Prop) (f : List PyData → PyData) : Sp := fun vs H Q _ =>
  ∃ (_ : Sprs) (S : List Addr) (ds : List PyData), Dom H S ∧ RpAll K (hid H S) vs ds ∧ pre ds ∧ ∀ v H', SameG H H' → Rp K (hid H' S) v (f ds) → Q v H'
theorem e_call {pre : List PyData → Prop} {f : List PyData → PyData} {E : XK} {t : TA} {ds : List PyData} (h : EvL K t ρ ds) (hp : pre ds) : EvD K (tCall (spD K pre f) [] E t) ρ (f ds) := fun S σ H Q hd he hq =>
  h S σ H _ hd he fun xs H1 s1 r1 => by
    show spD K pre f (xs ++ []) H1 Q E
    rw [List.append_nil]
    exact ⟨G, S, ds, hd.same s1, r1, hp, fun v H' s r => hq v H' (s1.trans s) r⟩
theorem cb_len {t : TA} {ds : List PyData} (h : EvL K t ρ [.list ds]) : EvD K (tCB (fun xs H Q => ∃ p ys, xs = [.ref p] ∧ (SqL K H p ys ∨ SqT K H p ys) ∧ Q (.int ys.length) H) t) ρ (.int ds.length) := fun S σ H Q hd he hq =>
  h S σ H _ hd he fun xs H1 s1 r1 => by
    cases r1 with
    | cons r1 r2 =>
      cases r2
      obtain ⟨a, ys, e, ha, ry⟩ := r1.lstE
      refine ⟨a, ys, by rw [e], .inl (.inl (.inl (hid_sub _ _ ha))), hq _ _ s1 ?_⟩
      rw [ry.len]
      exact .int _
theorem cb_lenT {t : TA} {ds : List PyData} (h : EvL K t ρ [.tuple ds]) : EvD K (tCB (fun xs H Q => ∃ p ys, xs = [.ref p] ∧ (SqL K H p ys ∨ SqT K H p ys) ∧ Q (.int ys.length) H) t) ρ (.int ds.length) := fun S σ H Q hd he hq =>
  h S σ H _ hd he fun xs H1 s1 r1 => by
    cases r1 with
    | cons r1 r2 =>
      cases r2
      obtain ⟨a, ys, e, ha, ry⟩ := r1.tupE
      refine ⟨a, ys, by rw [e], .inr (sqT_same hid_sub ha), hq _ _ s1 ?_⟩
      rw [ry.len]
      exact .int _
theorem cb_one {r : List V → Hp → VK → Prop} {t : TA} {d e : PyData} (h : EvL K t ρ [d]) (hs : scalD d = true) (hr : ∀ H Q, Q (vOf e) H → r [vOf d] H Q) (he' : ∀ H, Rp K H (vOf e) e) : EvD K (tCB r t) ρ e := fun S σ H Q hd he hq =>
  h S σ H _ hd he fun xs H1 s1 r1 => by
    cases r1 with
    | cons r1 r2 =>
      cases r2
      rw [r1.vEq hs]
      exact hr _ _ (hq _ _ s1 (he' _))
theorem cb_two {r : List V → Hp → VK → Prop} {t : TA} {d d' e : PyData} (h : EvL K t ρ [d, d']) (hs : scalD d = true) (hs' : scalD d' = true) (hr : ∀ H Q, Q (vOf e) H → r [vOf d, vOf d'] H Q) (he' : ∀ H, Rp K H (vOf e) e) : EvD K (tCB r t) ρ e := fun S σ H Q hd he hq =>
  h S σ H _ hd he fun xs H1 s1 r1 => by
    cases r1 with
    | cons r1 r2 =>
      cases r2 with
      | cons r2 r3 =>
        cases r3
        rw [r1.vEq hs, r2.vEq hs']
        exact hr _ _ (hq _ _ s1 (he' _))
theorem cb_int {t : TA} {i : Int} (h : EvL K t ρ [.int i]) : EvD K (tCB (fun xs H Q => (∃ i, xs = [.int i] ∧ Q (.int i) H) ∨ ∃ k, xs = [.bl k] ∧ Q (.int (if k then 1 else 0)) H) t) ρ (.int i) :=
  cb_one h rfl (fun H Q q => .inl ⟨i, rfl, q⟩) fun _ => .int i
theorem cb_intB {t : TA} {i : Bool} (h : EvL K t ρ [.bool i]) : EvD K (tCB (fun xs H Q => (∃ i, xs = [.int i] ∧ Q (.int i) H) ∨ ∃ k, xs = [.bl k] ∧ Q (.int (if k then 1 else 0)) H) t) ρ (.int (if i then 1 else 0)) :=
  cb_one h rfl (fun H Q q => .inr ⟨i, rfl, q⟩) fun _ => .int _
theorem cb_abs {t : TA} {i : Int} (h : EvL K t ρ [.int i]) : EvD K (tCB (fun xs H Q => ∃ i, xs = [.int i] ∧ Q (.int (if i < 0 then -i else i)) H) t) ρ (.int (if i < 0 then -i else i)) :=
  cb_one h rfl (fun H Q q => ⟨i, rfl, q⟩) fun _ => .int _
theorem cb_max {t : TA} {i j : Int} (h : EvL K t ρ [.int i, .int j]) : EvD K (tCB (fun xs H Q => ∃ i j, xs = [.int i, .int j] ∧ Q (.int (if j > i then j else i)) H) t) ρ (.int (if j > i then j else i)) :=
  cb_two h rfl rfl (fun H Q q => ⟨i, j, rfl, q⟩) fun _ => .int _
theorem cb_min {t : TA} {i j : Int} (h : EvL K t ρ [.int i, .int j]) : EvD K (tCB (fun xs H Q => ∃ i j, xs = [.int i, .int j] ∧ Q (.int (if j < i then j else i)) H) t) ρ (.int (if j < i then j else i)) :=
  cb_two h rfl rfl (fun H Q q => ⟨i, j, rfl, q⟩) fun _ => .int _
theorem cb_all {t : TA} {bs : List Bool} (h : EvL K t ρ [.list (bs.map PyData.bool)]) : EvD K (tCB (rAll K) t) ρ (.bool (bs.all id)) := fun S σ H Q hd he hq =>
  h S σ H _ hd he fun xs H1 s1 r1 => by
    cases r1 with
    | cons r1 r2 =>
      cases r2
      obtain ⟨a, ys, e, ha, ry⟩ := r1.lstE
      exact ⟨a, bs, by rw [e], .inl (.inl (by rw [← ry.bls]; exact hid_sub _ _ ha)), hq _ _ s1 (.bl _)⟩
theorem cb_tuple {t : TA} {ds : List PyData} (h : EvL K t ρ [.list ds]) : EvD K (tCB (fun xs H Q => ∃ p ys, xs = [.ref p] ∧ ((SqL K H p ys ∧ ∀ l, H l = none → Q (.ref l) (upd H l (.tup ys))) ∨ (SqT K H p ys ∧ Q (.ref p) H))) t) ρ (.tuple ds) := fun S σ H Q hd he hq =>
  h S σ H _ hd he fun xs H1 s1 r1 => by
    cases r1 with
    | cons r1 r2 =>
      cases r2
      obtain ⟨a, ys, e, ha, ry⟩ := r1.lstE
      refine ⟨a, ys, by rw [e], .inl ⟨.inl (.inl (hid_sub _ _ ha)), fun p hp => hq _ _ (s1.trans (same_new hp)) (.tup (.inl (.inl (hid_at upd_same ((hd.same s1).fresh hp)))) (ry.same (hid_same (same_new hp))))⟩⟩

/-! ### items and slices -/
theorem atI_rp {H : Hp} {xs : List V} {ds : List PyData} (r : RpAll K H xs ds) {i : Int} {d : PyData} (h : atI ds i = some d) : ∃ v, atI xs i = some v ∧ Rp K H v d := by
  unfold atI at h ⊢
  rw [r.len]
  cases e : ixN ds.length i with
  | none =>
    rw [e] at h
    cases h
  | some j =>
    rw [e] at h
    exact r.at h
theorem e_ixL {ta tb : TE} {ds : List PyData} {i : Int} {d : PyData} (ha : EvD K ta ρ (.list ds)) (hb : EvD K tb ρ (.int i)) (h : atI ds i = some d) : EvD K (tOp (rIxL K) ta tb) ρ d := fun S σ H Q hd he hq =>
  ha S σ H _ hd he fun x H1 s1 r1 => hb S σ H1 _ (hd.same s1) (he.same s1) fun y H2 s2 r2 => by
    obtain ⟨a, ys, e, ha, ry⟩ := (r1.same (hid_same s2)).lstE
    obtain ⟨v, hv, rv⟩ := atI_rp ry h
    exact ⟨a, ys, i, v, e, r2.intEq, .inl (.inl (hid_sub _ _ ha)), hv, hq _ _ (s1.trans s2) rv⟩
theorem e_ixT {ta tb : TE} {ds : List PyData} {i : Int} {d : PyData} (ha : EvD K ta ρ (.tuple ds)) (hb : EvD K tb ρ (.int i)) (h : atI ds i = some d) : EvD K (tOp (rIxT K) ta tb) ρ d := fun S σ H Q hd he hq =>
  ha S σ H _ hd he fun x H1 s1 r1 => hb S σ H1 _ (hd.same s1) (he.same s1) fun y H2 s2 r2 => by
    obtain ⟨a, ys, e, ha, ry⟩ := (r1.same (hid_same s2)).tupE
    obtain ⟨v, hv, rv⟩ := atI_rp ry h
    exact ⟨a, ys, i, v, e, r2.intEq, sqT_same hid_sub ha, hv, hq _ _ (s1.trans s2) rv⟩
def cutD (xs : List PyData) (lo hi : Option Int) : List PyData := (xs.drop (HT.sIx xs.length 0 lo)).take (HT.sIx xs.length xs.length hi - HT.sIx xs.length 0 lo)
theorem cut_rp {H : Hp} {xs : List V} {ds : List PyData} (r : RpAll K H xs ds) (lo hi : Option Int) : RpAll K H (cutV xs lo hi) (cutD ds lo hi) := by
  unfold cutV cutD
  rw [r.len]
  exact (r.drop _).take _
def EvO (K : PySem.W.Frag) (t : TO) (ρ : Env) (o : Option Int) : Prop :=
  ∀ (S : List Addr) (σ : L2.St) (H : Hp) (Q : Option Int → Hp → Prop), Dom H S → EnvD K H S σ ρ → (∀ H', SameG H H' → Q o H') → t σ H Q
theorem o_none : EvO K tNoPart ρ none := fun S σ H Q hd he hq => hq _ (SameG.refl _)
theorem o_some {t : TE} {i : Int} (h : EvD K t ρ (.int i)) : EvO K (tPart t) ρ (some i) := fun S σ H Q hd he hq => h S σ H _ hd he fun v H' s r => ⟨i, r.intEq, hq _ s⟩
theorem fresh_list {H H1 : Hp} {S : List Addr} {p : Addr} {xs : List V} {ds : List PyData} (hp : H1 p = none) (r1 : RpAll K (hid H1 S) xs ds) {o : HO} : RpAll K (hid (upd H1 p o) (p :: S)) xs ds := by
  refine RpAll.same ?_ r1
  intro b o hb
  have hH : H1 b = some o := hid_sub b o hb
  refine hid_at (by rw [upd_ne (ne_of_none hH hp)]; exact hH) ⟨fun z => ?_, (hid_out hb).2⟩
  rcases List.mem_cons.mp z with e | e
  · exact ne_of_none hH hp e
  · exact (hid_out hb).1 e
theorem f_slL {ta : TE} {tl th : TO} {ds : List PyData} {lo hi : Option Int} (ha : EvD K ta ρ (.list ds)) (hl : EvO K tl ρ lo) (hh : EvO K th ρ hi) : EvF K (tSl (rSlL K) ta tl th) ρ (cutD ds lo hi) := fun S σ H Q hd he hq =>
  ha S σ H _ hd he fun x H1 s1 r1 => hl S σ H1 _ (hd.same s1) (he.same s1) fun H2 s2 => by
    have s12 := s1.trans s2
    refine hh S σ H2 _ (hd.same s12) (he.same s12) fun H3 s3 => ?_
    have s := s12.trans s3
    obtain ⟨a, ys, e, ha, ry⟩ := (r1.same (hid_same (s2.trans s3))).lstE
    refine ⟨a, ys, e, .inl (.inl (hid_sub _ _ ha)), fun p hp => ?_⟩
    exact hq p _ _ (s.trans (same_new hp)) (s.free hp) upd_same (fresh_list (H := H) hp (cut_rp ry lo hi))
theorem e_slT {ta : TE} {tl th : TO} {ds : List PyData} {lo hi : Option Int} (ha : EvD K ta ρ (.tuple ds)) (hl : EvO K tl ρ lo) (hh : EvO K th ρ hi) : EvD K (tSl (rSlA K) ta tl th) ρ (.tuple (cutD ds lo hi)) := fun S σ H Q hd he hq =>
  ha S σ H _ hd he fun x H1 s1 r1 => hl S σ H1 _ (hd.same s1) (he.same s1) fun H2 s2 => by
    have s12 := s1.trans s2
    refine hh S σ H2 _ (hd.same s12) (he.same s12) fun H3 s3 => ?_
    have s := s12.trans s3
    have r3 := r1.same (hid_same (s2.trans s3))
    obtain ⟨a, ys, e, ha, ry⟩ := r3.tupE
    refine ⟨a, ys, e, sqT_same hid_sub ha, fun w => ?_, fun _ p hp => ?_⟩
    · have ec : cutD ds lo hi = ds := by
        rw [ry.len] at w
        unfold cutD
        rw [w.1, w.2]
        simp
      rw [← e]
      exact hq _ _ s (by rw [ec]; exact r3)
    · exact hq _ _ (s.trans (same_new hp)) (.tup (.inl (.inl (hid_at upd_same ((hd.same s).fresh hp)))) ((cut_rp ry lo hi).same (hid_same (same_new hp))))
theorem f_cat {ta tb : TE} {ds es : List PyData} (ha : EvD K ta ρ (.list ds)) (hb : EvD K tb ρ (.list es)) (hz : ds.length + es.length ≤ sizeLine) : EvF K (tOp rCat ta tb) ρ (ds ++ es) := fun S σ H Q hd he hq =>
  ha S σ H _ hd he fun x H1 s1 r1 => hb S σ H1 _ (hd.same s1) (he.same s1) fun y H2 s2 r2 => by
    have s := s1.trans s2
    obtain ⟨a, xs, e, ha, rx⟩ := (r1.same (hid_same s2)).lstE
    obtain ⟨b, ys, e', hb, ry⟩ := r2.lstE
    refine ⟨a, b, xs, ys, e, e', hid_sub _ _ ha, hid_sub _ _ hb, by rw [rx.len, ry.len]; exact hz, fun p hp => ?_⟩
    exact hq p _ _ (s.trans (same_new hp)) (s.free hp) upd_same (fresh_list (H := H) hp (rx.app ry))
theorem e_catT {ta tb : TE} {ds es : List PyData} (ha : EvD K ta ρ (.tuple ds)) (hb : EvD K tb ρ (.tuple es)) (hz : ds.length + es.length ≤ sizeLine) : EvD K (tOp (rCatA K) ta tb) ρ (.tuple (ds ++ es)) := fun S σ H Q hd he hq =>
  ha S σ H _ hd he fun x H1 s1 r1 => hb S σ H1 _ (hd.same s1) (he.same s1) fun y H2 s2 r2 => by
    have s := s1.trans s2
    have q1 := r1.same (hid_same s2)
    obtain ⟨a, xs, e, ha, rx⟩ := q1.tupE
    obtain ⟨b, ys, e', hb, ry⟩ := r2.tupE
    refine ⟨a, b, xs, ys, e, e', sqT_same hid_sub ha, sqT_same hid_sub hb, by rw [rx.len, ry.len]; exact hz, fun z => ?_, fun _ z => ?_, fun _ _ p hp => ?_⟩
    · subst z
      cases rx
      rw [← e']
      exact hq _ _ s r2
    · subst z
      cases ry
      rw [← e]
      exact hq _ _ s (by rw [List.append_nil]; exact q1)
    · exact hq _ _ (s.trans (same_new hp)) (.tup (.inl (.inl (hid_at upd_same ((hd.same s).fresh hp)))) ((rx.app ry).same (hid_same (same_new hp))))
omit G in
theorem int_inj : ∀ (a b : List Int), a.map PyData.int = b.map PyData.int → a = b
  | [], [], _ => rfl
  | [], _ :: _, h => by cases h
  | _ :: _, [], h => by cases h
  | x :: a, y :: b, h => by
    simp only [List.map_cons, List.cons.injEq, PyData.int.injEq] at h
    rw [h.1, int_inj a b h.2]
theorem Rp.scrE {H : Hp} {v : V} {ns : List Int} (r : Rp K H v (scrD ns)) : ∃ a, v = V.ref a ∧ ScrAt K H a (ns.map V.int) := by
  generalize e : scrD ns = d at r
  cases r with
  | scr h =>
    rename_i a ms
    unfold scrD at e
    injection e with e
    injection e with e1 e2
    injection e1 with e1 e3
    injection e1 with e1
    rw [int_inj _ _ e1]
    exact ⟨a, rfl, h⟩
  | spr => cases e
  | tab =>
    unfold scrD at e
    injection e with e
    injection e with e1 e2
    injection e1 with e1 e3
    cases e1
  | pt =>
    unfold scrD at e
    injection e with e
    injection e with e1 e2
    injection e1 with e1 e3
    cases e1
  | exc =>
    unfold scrD at e
    injection e with e
    injection e with e1 e2
    injection e1 with e1 e3
    cases e1
  | exp =>
    unfold scrD at e
    injection e with e
    injection e with e1 e2
    injection e1 with e1 e3
    cases e1
  | non => cases e
  | bl => cases e
  | int => cases e
  | str => cases e
  | lst => cases e
  | tup => cases e
theorem ScrAt.out {H : Hp} {S : List Addr} {a : Addr} {xs : List V} (h : ScrAt K (hid H S) a xs) : SqL K H a xs :=
  h.elim (fun ⟨o, y⟩ => .inl (.inr ⟨o, hid_sub _ _ y⟩)) .inr
/-- len(script), script[k] -/
theorem cb_lenS {t : TA} {ns : List Int} (h : EvL K t ρ [scrD ns]) : EvD K (tCB (fun xs H Q => ∃ p ys, xs = [.ref p] ∧ (SqL K H p ys ∨ SqT K H p ys) ∧ Q (.int ys.length) H) t) ρ (.int ns.length) := fun S σ H Q hd he hq =>
  h S σ H _ hd he fun xs H1 s1 r1 => by
    cases r1 with
    | cons r1 r2 =>
      cases r2
      obtain ⟨a, e, ha⟩ := r1.scrE
      refine ⟨a, _, by rw [e], .inl ha.out, hq _ _ s1 ?_⟩
      rw [List.length_map]
      exact .int _
theorem e_ixS {ta tb : TE} {ns : List Int} {i k : Int} (ha : EvD K ta ρ (scrD ns)) (hb : EvD K tb ρ (.int i)) (h : atI ns i = some k) : EvD K (tOp (rIxL K) ta tb) ρ (.int k) := fun S σ H Q hd he hq =>
  ha S σ H _ hd he fun x H1 s1 r1 => hb S σ H1 _ (hd.same s1) (he.same s1) fun y H2 s2 r2 => by
    obtain ⟨a, e, ha⟩ := (r1.same (hid_same s2)).scrE
    refine ⟨a, _, i, .int k, e, r2.intEq, ha.out, ?_, hq _ _ (s1.trans s2) (.int k)⟩
    unfold atI at h ⊢
    rw [List.length_map]
    cases e : ixN ns.length i with
    | none =>
      rw [e] at h
      cases h
    | some j =>
      rw [e] at h
      have h' : ns[j]? = some k := h
      show (ns.map V.int)[j]? = some (.int k)
      rw [List.getElem?_map, h']
      rfl
end Dx
namespace Dx
open PySem PySem.Spec L2
open PyProof.Rows hiding St
variable [G : Sprs] {K : PySem.W.Frag} {ρ : Env}

/-! ### what is walked -/
def Wk (K : PySem.W.Frag) (J : It) (S : List Addr) (ds : List PyData) (H : Hp) : Prop :=
  ∀ i T H2, Dom H2 T → Same (hid H S) (hid H2 T) → (∀ d, ds[i]? = some d → J.go i H2 ∧ ∀ x H3, J.yld i H2 x H3 → SameG H2 H3 ∧ Rp K (hid H3 T) x d) ∧ (ds.length ≤ i → J.stop i H2)
def EvI (K : PySem.W.Frag) (wi : TI) (ρ : Env) (ds : List PyData) : Prop :=
  ∀ (S : List Addr) (σ : L2.St) (H : Hp) (R : It → Hp → Prop), Dom H S → EnvD K H S σ ρ → (∀ J H', SameG H H' → Wk K J S ds H' → R J H') → wi σ H R
theorem i_list {tl : TE} {ds : List PyData} (h : EvD K tl ρ (.list ds)) : EvI K (iList K tl) ρ ds := fun S σ H R hd he hq =>
  h S σ H _ hd he fun v H1 s r => by
    obtain ⟨a, xs, e, ha, rx⟩ := r.lstE
    refine ⟨a, e, ⟨xs, .inl (.inl (hid_sub _ _ ha))⟩, hq _ _ s ?_⟩
    intro i T H2 hT s2
    have h2 : SqL K H2 a xs := .inl (.inl (hid_sub _ _ (s2 _ _ ha)))
    refine ⟨fun d hd => ?_, fun hi => ⟨xs, h2, by rw [rx.len]; exact hi⟩⟩
    obtain ⟨x, hx, rv⟩ := rx.at hd
    refine ⟨⟨xs, x, h2, hx⟩, fun y H3 hy => ?_⟩
    obtain ⟨rfl, f⟩ := hy
    have ey : y = x := Option.some.inj ((f xs h2).symm.trans hx)
    rw [ey]
    exact ⟨SameG.refl _, rv.same s2⟩
theorem i_tup {tl : TE} {ds : List PyData} (h : EvD K tl ρ (.tuple ds)) : EvI K (iTup K tl) ρ ds := fun S σ H R hd he hq =>
  h S σ H _ hd he fun v H1 s r => by
    obtain ⟨a, xs, e, ha, rx⟩ := r.tupE
    refine ⟨a, e, ⟨xs, sqT_same hid_sub ha⟩, hq _ _ s ?_⟩
    intro i T H2 hT s2
    have h2 : SqT K H2 a xs := sqT_same hid_sub (sqT_same s2 ha)
    refine ⟨fun d hd => ?_, fun hi => ⟨xs, h2, by rw [rx.len]; exact hi⟩⟩
    obtain ⟨x, hx, rv⟩ := rx.at hd
    refine ⟨⟨xs, x, h2, hx⟩, fun y H3 hy => ?_⟩
    obtain ⟨rfl, f⟩ := hy
    have ey : y = x := Option.some.inj ((f xs h2).symm.trans hx)
    rw [ey]
    exact ⟨SameG.refl _, rv.same s2⟩
def rng (lo : Int) (n : Nat) : List PyData := (List.range n).map fun k => PyData.int (lo + (k : Nat))
omit G in
theorem rng_len (lo : Int) (n : Nat) : (rng lo n).length = n := by simp [rng]
omit G in
theorem rng_at {lo : Int} {n k : Nat} {d : PyData} (h : (rng lo n)[k]? = some d) : k < n ∧ d = .int (lo + k) := by
  unfold rng at h
  rw [List.getElem?_map] at h
  by_cases hk : k < n
  · rw [List.getElem?_range hk] at h
    exact ⟨hk, (Option.some.inj h).symm⟩
  · rw [List.getElem?_eq_none (by simpa using hk)] at h
    cases h
theorem i_rng1 {ta : TA} {j : Int} (h : EvL K ta ρ [.int j]) (h1 : -(2 ^ 62) ≤ j) (h2 : j < 2 ^ 62) : EvI K (iRng1 ta) ρ (rng 0 j.toNat) := fun S σ H R hd he hq =>
  h S σ H _ hd he fun vs H1 s r => by
    cases r with
    | cons r1 r2 =>
      cases r2
      refine ⟨j, by rw [r1.intEq], h1, h2, hq _ _ s ?_⟩
      intro i T H2 hT s2
      refine ⟨fun d hd => ?_, fun hi => by rw [rng_len] at hi; exact hi⟩
      obtain ⟨hk, rfl⟩ := rng_at hd
      refine ⟨hk, fun y H3 hy => ?_⟩
      obtain ⟨rfl, rfl⟩ := hy
      exact ⟨SameG.refl _, .int _⟩
theorem i_rng2 {ta : TA} {i j : Int} (h : EvL K ta ρ [.int i, .int j]) (h1 : -(2 ^ 62) ≤ i ∧ i < 2 ^ 62 ∧ -(2 ^ 62) ≤ j ∧ j < 2 ^ 62) : EvI K (iRng2 ta) ρ (rng i (j - i).toNat) := fun S σ H R hd he hq =>
  h S σ H _ hd he fun vs H1 s r => by
    cases r with
    | cons r1 r2 =>
      cases r2 with
      | cons r2 r3 =>
        cases r3
        refine ⟨i, j, by rw [r1.intEq, r2.intEq], h1, hq _ _ s ?_⟩
        intro k T H2 hT s2
        refine ⟨fun d hd => ?_, fun hi => by rw [rng_len] at hi; exact hi⟩
        obtain ⟨hk, rfl⟩ := rng_at hd
        refine ⟨hk, fun y H3 hy => ?_⟩
        obtain ⟨rfl, rfl⟩ := hy
        exact ⟨SameG.refl _, .int _⟩
/-- range(n, -1, -1) and its like -/
def rngD (lo : Int) (n : Nat) : List PyData := (List.range n).map fun k => PyData.int (lo + ((k : Nat) : Int) * (-1))
omit G in
theorem rngD_len (lo : Int) (n : Nat) : (rngD lo n).length = n := by simp [rngD]
omit G in
theorem rngD_at {lo : Int} {n k : Nat} {d : PyData} (h : (rngD lo n)[k]? = some d) : k < n ∧ d = .int (lo + ((k : Nat) : Int) * (-1)) := by
  unfold rngD at h
  rw [List.getElem?_map] at h
  by_cases hk : k < n
  · rw [List.getElem?_range hk] at h
    exact ⟨hk, (Option.some.inj h).symm⟩
  · rw [List.getElem?_eq_none (by simpa using hk)] at h
    cases h

/-! ### targets -/
def setV : L2.St → List Nat → List V → L2.St
  | σ, i :: is, v :: vs => setV (σ.set i (some v)) is vs
  | σ, _, _ => σ
def setE : Env → List (Nat × PyData) → Env
  | ρ, (i, d) :: r => setE (ρ.set i (some d)) r
  | ρ, [] => ρ
def EvG (K : PySem.W.Frag) (g : TG) (d : PyData) (L : List (Nat × PyData)) : Prop :=
  ∀ (S : List Addr) (H : Hp) (v : V), Rp K (hid H S) v d → ∃ ws : List V, RpAll K (hid H S) ws (L.map (·.2)) ∧ ∀ σ (Q : L2.St → Hp → Prop), Q (setV σ (L.map (·.1)) ws) H → g v σ H Q
theorem g_name {i : Nat} {d : PyData} : EvG K (gName i) d [(i, d)] := fun S H v r => ⟨[v], .cons r .nil, fun σ Q h => h⟩
def EvGs (K : PySem.W.Frag) (g : TGs) (ds : List PyData) (L : List (Nat × PyData)) : Prop :=
  ∀ (S : List Addr) (H : Hp) (vs : List V), RpAll K (hid H S) vs ds → ∃ ws : List V, RpAll K (hid H S) ws (L.map (·.2)) ∧ ∀ σ (Q : L2.St → Hp → Prop), Q (setV σ (L.map (·.1)) ws) H → g vs σ H Q
theorem gs_nil : EvGs K gNil [] [] := fun S H vs r => by
  cases r
  exact ⟨[], .nil, fun σ Q h => ⟨rfl, h⟩⟩
theorem gs_name {i : Nat} {g : TGs} {d : PyData} {ds : List PyData} {L : List (Nat × PyData)} (h : EvGs K g ds L) : EvGs K (gCons (gName i) g) (d :: ds) ((i, d) :: L) := fun S H vs r => by
  cases r with
  | cons r1 r2 =>
    obtain ⟨ws, q, f⟩ := h S H _ r2
    exact ⟨_ :: ws, .cons r1 q, fun σ Q h => ⟨_, _, rfl, f _ Q h⟩⟩
theorem g_tup {n : Nat} {g : TGs} {ds : List PyData} {L : List (Nat × PyData)} (h : EvGs K g ds L) (hn : ds.length = n) : EvG K (gTup K n g) (.tuple ds) L := fun S H v r => by
  obtain ⟨a, xs, e, ha, rx⟩ := r.tupE
  obtain ⟨ws, q, f⟩ := h S H _ rx
  exact ⟨ws, q, fun σ Q h => ⟨a, xs, e, sqT_same hid_sub ha, by rw [rx.len]; exact hn, f σ Q h⟩⟩
theorem EnvD.setV {H : Hp} {S : List Addr} : ∀ {L : List (Nat × PyData)} {σ : L2.St} {ρ : Env} {ws : List V}, EnvD K H S σ ρ → RpAll K (hid H S) ws (L.map (·.2)) → EnvD K H S (setV σ (L.map (·.1)) ws) (setE ρ L)
  | [], _, _, _, h, r => by
    cases r
    exact h
  | (i, d) :: L, _, _, _, h, r => by
    cases r with
    | cons r1 r2 => exact EnvD.setV (L := L) (EnvD.set h r1) r2
omit G in
theorem wipe_set {x : Option V} : ∀ {vs : List Nat} {σ : L2.St} {i : Nat}, i ∈ vs → wipe (σ.set i x) vs = wipe σ vs
  | [], _, _, h => by cases h
  | v :: vs, σ, i, h => by
    have key : ∀ (vs : List Nat) (σ : L2.St), i ≠ v ∨ True → (wipe (σ.set i x) vs) = (wipe σ vs).set i x ∨ wipe (σ.set i x) vs = wipe σ vs := by
      intro vs
      induction vs with
      | nil => intro σ _; exact .inl rfl
      | cons u us ih =>
        intro σ hh
        by_cases e : i = u
        · subst e
          rcases ih σ hh with q | q
          · right
            unfold wipe
            rw [q, List.set_set]
          · right
            unfold wipe
            rw [q]
        · rcases ih σ hh with q | q
          · left
            unfold wipe
            rw [q, List.set_comm _ _ e]
          · right
            unfold wipe
            rw [q]
    by_cases e : i = v
    · subst e
      rcases key vs σ (.inr trivial) with q | q
      · unfold wipe
        rw [q, List.set_set]
      · unfold wipe
        rw [q]
    · have hm : i ∈ vs := by
        rcases List.mem_cons.mp h with z | z
        · exact absurd z e
        · exact z
      unfold wipe
      rw [wipe_set hm]
omit G in
theorem wipe_setV {vs : List Nat} : ∀ {is : List Nat} {ws : List V} {σ : L2.St}, (∀ i ∈ is, i ∈ vs) → wipe (setV σ is ws) vs = wipe σ vs
  | [], _, _, _ => by simp [setV]
  | i :: is, [], _, _ => by simp [setV]
  | i :: is, w :: ws, σ, h => by
    show wipe (setV (σ.set i (some w)) is ws) vs = wipe σ vs
    rw [wipe_setV (fun j hj => h j (List.mem_cons_of_mem _ hj)), wipe_set (h i List.mem_cons_self)]
omit G in
theorem wipe_wipe {vs : List Nat} {σ : L2.St} : wipe (wipe σ vs) vs = wipe σ vs := by
  have : ∀ (us : List Nat), (∀ u ∈ us, u ∈ vs) → wipe (wipe σ us) vs = wipe σ vs := by
    intro us
    induction us with
    | nil => intro _; rfl
    | cons u us ih =>
      intro h
      show wipe ((wipe σ us).set u none) vs = _
      rw [wipe_set (h u List.mem_cons_self), ih fun u hu => h u (List.mem_cons_of_mem _ hu)]
  exact this vs fun _ h => h
def wipeE (ρ : Env) : List Nat → Env
  | [] => ρ
  | v :: vs => (wipeE ρ vs).set v none
theorem EnvD.unset {H : Hp} {S : List Addr} {σ : L2.St} {i : Nat} {x : Option V} (h : EnvD K H S σ ρ) : EnvD K H S (σ.set i x) (ρ.set i none) :=
  ⟨by rw [List.length_set, List.length_set]; exact h.1, fun j e q => by
    by_cases hj : i = j
    · subst hj
      have hi : i < ρ.length := by
        have := (List.getElem?_eq_some_iff.mp q).1
        rwa [List.length_set] at this
      rw [List.getElem?_set_self (by simpa using hi)] at q
      cases q
    · rw [List.getElem?_set_ne hj] at q ⊢
      exact h.2 j e q⟩
theorem EnvD.wipe {H : Hp} {S : List Addr} {σ : L2.St} (h : EnvD K H S σ ρ) : ∀ vs, EnvD K H S (wipe σ vs) (wipeE ρ vs)
  | [] => h
  | v :: vs => (EnvD.wipe h vs).unset
theorem EnvD.hide {H H' : Hp} {S T : List Addr} {σ : L2.St} (h : EnvD K H T σ ρ) (e : Same (hid H T) (hid H' S)) : EnvD K H' S σ ρ :=
  ⟨h.1, fun i d q => by
    obtain ⟨v, a, r⟩ := h.2 i d q
    exact ⟨v, a, r.same e⟩⟩

/-! ### comprehensions: keep says which items are kept, out what of them -/
def lcOut (keep : Nat → Bool) (out : Nat → PyData) : Nat → List PyData
  | 0 => []
  | n + 1 => lcOut keep out n ++ (if keep n then [out n] else [])
omit G in
theorem lcOut_len (keep : Nat → Bool) (out : Nat → PyData) : ∀ n, (lcOut keep out n).length ≤ n
  | 0 => Nat.le_refl _
  | n + 1 => by
    unfold lcOut
    rw [List.length_append]
    have := lcOut_len keep out n
    split <;> simp <;> omega
theorem f_lc {wi : TI} {g : TG} {tt : TT} {te : TE} {vs : List Nat} {ds : List PyData} {L : Nat → List (Nat × PyData)} {keep : Nat → Bool} {out : Nat → PyData} (hi : EvI K wi ρ ds) (hz : ds.length ≤ sizeLine)
    (hg : ∀ i d, ds[i]? = some d → EvG K g d (L i) ∧ ∀ j ∈ (L i).map (·.1), j ∈ vs)
    (ht : ∀ i d, ds[i]? = some d → EvB K tt (setE (wipeE ρ vs) (L i)) (keep i))
    (he : ∀ i d, ds[i]? = some d → keep i = true → EvD K te (setE (wipeE ρ vs) (L i)) (out i)) : EvF K (tLc wi g tt te vs) ρ (lcOut keep out ds.length) := fun S σ H Q hd hen hq =>
  hi S σ H _ hd hen fun J H1 s1 wk D nD => by
    have d1 : Dom H1 S := hd.same s1
    have e1 : EnvD K H1 S σ ρ := hen.same s1
    -- the invariant
    let Pv : Nat → Hp → Prop := fun i H2 => i ≤ ds.length ∧ SameG H1 H2 ∧ ∃ acc, H2 D = some (.lst acc) ∧ RpAll K (hid H2 (D :: S)) acc (lcOut keep out i)
    refine ⟨fun i m H2 => m = ds.length - i ∧ Pv i H2, ⟨_, rfl, Nat.zero_le _, same_new nD, [], upd_same, .nil⟩, ?_⟩
    rintro i m H2 ⟨rfl, hi, sm, acc, hD, ra⟩
    have smS : SameG H1 H2 := sm
    have nDS := d1.fresh nD
    have dT : Dom H2 (D :: S) := (d1.same smS).cons hD
    have sh : ∀ (H3 : Hp), SameG H2 H3 → Same (hid H1 S) (hid H3 (D :: S)) := fun H3 s3 b o hb => by
      have hH : H1 b = some o := hid_sub b o hb
      refine hid_at ((sm.trans s3).at (hid_out hb).2 hH) ⟨fun z => ?_, (hid_out hb).2⟩
      rcases List.mem_cons.mp z with e | e
      · exact ne_of_none hH nD e
      · exact (hid_out hb).1 e
    by_cases hlt : i < ds.length
    · have hdi := List.getElem?_eq_getElem hlt
      obtain ⟨w1, w2⟩ := (wk i (D :: S) H2 dT (sh _ (SameG.refl _))).1 _ hdi
      refine .inr ⟨w1, fun H' => Pv (i + 1) H', fun H' p => ⟨_, by omega, rfl, p⟩, fun x H3 hy => ?_⟩
      obtain ⟨s3, r3⟩ := w2 x H3 hy
      obtain ⟨gi, gl⟩ := hg i _ hdi
      have hD3 : H3 D = some (.lst acc) := s3.at nDS.2 hD
      have d3 : Dom H3 (D :: S) := dT.same s3
      obtain ⟨ws, rw_, f⟩ := gi (D :: S) H3 x r3
      refine f _ _ ⟨by rw [wipe_setV gl, wipe_wipe], ?_⟩
      have e3 : EnvD K H3 (D :: S) (setV (wipe σ vs) ((L i).map (·.1)) ws) (setE (wipeE ρ vs) (L i)) := ((e1.wipe vs).hide (sh _ s3)).setV rw_
      refine ht i _ hdi (D :: S) _ H3 _ d3 e3 fun H4 s4 => ?_
      have hl : (lcOut keep out (i + 1)) = lcOut keep out i ++ (if keep i then [out i] else []) := rfl
      cases hk : keep i with
      | false =>
        refine L2.iteF ⟨hlt, sm.trans (s3.trans s4), acc, s4.at nDS.2 hD3, ?_⟩
        rw [hl, hk]
        simp only [Bool.false_eq_true, if_false, List.append_nil]
        exact ra.same (hid_same (s3.trans s4))
      | true =>
        refine L2.iteT ?_
        refine he i _ hdi hk (D :: S) _ H4 _ (d3.same s4) (e3.same s4) fun y H5 s5 r5 => ?_
        have hD5 : H5 D = some (.lst acc) := s5.at nDS.2 (s4.at nDS.2 hD3)
        have hal : acc.length < sizeLine := by
          have h1 := ra.len
          have h2 := lcOut_len keep out i
          omega
        refine ⟨acc, hD5, hal, hlt, (sm.trans (s3.trans (s4.trans s5))).updN nD, acc ++ [y], upd_same, ?_⟩
        · rw [hl, hk]
          simp only [if_true]
          refine RpAll.same (hid_upd List.mem_cons_self) ?_
          exact (ra.same (hid_same (s3.trans (s4.trans s5)))).app (.cons r5 .nil)
    · exact .inl ⟨(wk i (D :: S) H2 dT (sh _ (SameG.refl _))).2 (by omega), by
        have ei : i = ds.length := by omega
        subst ei
        exact hq D H2 acc (s1.trans smS) (s1.free nD) hD ra⟩
theorem b_yes : EvB K tYes ρ true := fun S σ H Q hd he hq => hq _ (SameG.refl _)
omit G in
theorem lcOut_all {out : Nat → PyData} : ∀ n, lcOut (fun _ => true) out n = (List.range n).map out
  | 0 => rfl
  | n + 1 => by
    unfold lcOut
    rw [lcOut_all n, List.range_succ, List.map_append]
    rfl
/-- [e for x in ds] -/
theorem f_map {wi : TI} {j : Nat} {te : TE} {ds : List PyData} {f : PyData → PyData} (hi : EvI K wi ρ ds) (hz : ds.length ≤ sizeLine)
    (he : ∀ d, d ∈ ds → EvD K te (ρ.set j (some d)) (f d)) : EvF K (tLc wi (gName j) tYes te [j]) ρ (ds.map f) := by
  have h := f_lc (K := K) (ρ := ρ) (wi := wi) (g := gName j) (tt := tYes) (te := te) (vs := [j]) (ds := ds) (L := fun i => [(j, ds.getD i .none)]) (keep := fun _ => true) (out := fun i => f (ds.getD i .none)) hi hz
    (fun i d hd => by
      have e : ds.getD i .none = d := by rw [List.getD_eq_getElem?_getD, hd]; rfl
      rw [e]
      exact ⟨g_name, by simp⟩)
    (fun i d hd => b_yes)
    (fun i d hd _ => by
      have e : ds.getD i .none = d := by rw [List.getD_eq_getElem?_getD, hd]; rfl
      rw [e]
      show EvD K te ((ρ.set j none).set j (some d)) (f d)
      rw [List.set_set]
      exact he d (List.mem_of_getElem? hd))
  refine h.cast ?_
  rw [lcOut_all]
  refine List.ext_getElem? fun i => ?_
  rw [List.getElem?_map, List.getElem?_map]
  by_cases hi : i < ds.length
  · rw [List.getElem?_range hi, List.getElem?_eq_getElem hi]
    simp [hi]
  · rw [List.getElem?_eq_none (by simpa using hi), List.getElem?_eq_none (by simpa using hi)]
    rfl
end Dx
namespace Dx
open PySem PySem.Spec L2
open PyProof.Rows hiding St
variable [G : Sprs] {K : PySem.W.Frag}

/-! ### statements: slots hold data, or a list of one's own -/
inductive Sl
  | no
  | dat (d : PyData)
  | own (ds : List PyData)
abbrev STt := List Sl
def Sl.view : Sl → Option PyData
  | .dat d => some d
  | .own ds => some (.list ds)
  | .no => none
def Sl.strict : Sl → Option PyData
  | .dat d => some d
  | _ => none
abbrev vw (ρ : STt) : Env := ρ.map Sl.view
abbrev vs (ρ : STt) : Env := ρ.map Sl.strict
structure StD (K : PySem.W.Frag) (H0 : Hp) (S : List Addr) (O : List Addr) (ρ : STt) (σ : L2.St) (H : Hp) : Prop where
  len : σ.length = ρ.length
  dat : ∀ (i : Nat) (d : PyData), ρ[i]? = some (.dat d) → ∃ v, σ[i]? = some (some v) ∧ Rp K (hid H (O ++ S)) v d
  own : ∀ (i : Nat) (ds : List PyData), ρ[i]? = some (.own ds) → ∃ a xs, a ∈ O ∧ σ[i]? = some (some (.ref a)) ∧ H a = some (.lst xs) ∧ RpAll K (hid H (O ++ S)) xs ds
  ap : ∀ (i j : Nat) (ds es : List PyData) (a : Addr), ρ[i]? = some (.own ds) → ρ[j]? = some (.own es) → σ[i]? = some (some (.ref a)) → σ[j]? = some (some (.ref a)) → i = j
  lst : ∀ a ∈ O, H0 a = none ∧ ∃ xs, H a = some (.lst xs)
  sm : SameG H0 H
  ng : ∀ a ∈ O, a ∉ G.g
structure Post where
  nx : STt → Prop
  rt : PyData → Prop := fun _ => False
  bk : STt → Prop := fun _ => False
  ct : STt → Prop := fun _ => False
  rf : List PyData → Prop := fun _ => False
structure PostOK (K : PySem.W.Frag) (H0 : Hp) (S : List Addr) (P : Post) (D : Ends) : Prop where
  nx : ∀ O ρ σ H, P.nx ρ → StD K H0 S O ρ σ H → D.nx σ H
  rt : ∀ d v H, P.rt d → SameG H0 H → Rp K (hid H S) v d → D.rt v H
  bk : ∀ O ρ σ H, P.bk ρ → StD K H0 S O ρ σ H → D.bk σ H
  ct : ∀ O ρ σ H, P.ct ρ → StD K H0 S O ρ σ H → D.ct σ H
  rf : ∀ ds p xs H, P.rf ds → SameG H0 H → H0 p = none → H p = some (.lst xs) → RpAll K (hid H (p :: S)) xs ds → D.rt (.ref p) H
def ExD (K : PySem.W.Frag) (t : TS) (ρ : STt) (P : Post) : Prop :=
  ∀ (S O : List Addr) (H0 : Hp) (D : Ends) (σ : L2.St) (H : Hp), Dom H0 S → StD K H0 S O ρ σ H → PostOK K H0 S P D → t D σ H

theorem StD.domO {H0 : Hp} {S O : List Addr} {ρ : STt} {σ : L2.St} {H : Hp} (h : StD K H0 S O ρ σ H) (hd : Dom H0 S) : Dom H (O ++ S) := ⟨fun a ha => by
  rcases List.mem_append.mp ha with z | z
  · obtain ⟨_, xs, e⟩ := h.lst a z
    rw [e]
    exact ⟨fun q => (by cases q), fun xs q => by cases q⟩
  · exact (hd.same h.sm).1 a z, (hd.same h.sm).2⟩
theorem StD.same {H0 : Hp} {S O : List Addr} {ρ : STt} {σ : L2.St} {H H' : Hp} (h : StD K H0 S O ρ σ H) (e : SameG H H') : StD K H0 S O ρ σ H' :=
  ⟨h.len, fun i d q => by
    obtain ⟨v, a, r⟩ := h.dat i d q
    exact ⟨v, a, r.same (hid_same e)⟩, fun i ds q => by
    obtain ⟨a, xs, h1, h2, h3, h4⟩ := h.own i ds q
    exact ⟨a, xs, h1, h2, e.at (h.ng a h1) h3, h4.same (hid_same e)⟩, h.ap, fun a ha => by
    obtain ⟨h1, xs, h2⟩ := h.lst a ha
    exact ⟨h1, xs, e.at (h.ng a ha) h2⟩, h.sm.trans e, h.ng⟩
theorem StD.env {H0 : Hp} {S O : List Addr} {ρ : STt} {σ : L2.St} {H : Hp} (h : StD K H0 S O ρ σ H) : EnvD K H (O ++ S) σ (vs ρ) :=
  ⟨by rw [h.len]; simp [vs], fun i d q => by
    unfold vs at q
    rw [List.getElem?_map] at q
    cases e : ρ[i]? with
    | none =>
      rw [e] at q
      cases q
    | some x =>
      rw [e] at q
      cases x with
      | dat d' =>
        cases q
        exact h.dat i d e
      | own ds => cases q
      | no => cases q⟩
theorem StD.envW {H0 : Hp} {S O : List Addr} {ρ : STt} {σ : L2.St} {H : Hp} (h : StD K H0 S O ρ σ H) (hd : Dom H0 S) : EnvD K H S σ (vw ρ) :=
  ⟨by rw [h.len]; simp [vw], fun i d q => by
    have hl : Same (hid H (O ++ S)) (hid H S) := hid_less fun a ha => List.mem_append_right _ ha
    unfold vw at q
    rw [List.getElem?_map] at q
    cases e : ρ[i]? with
    | none =>
      rw [e] at q
      cases q
    | some x =>
      rw [e] at q
      cases x with
      | dat d' =>
        cases q
        obtain ⟨v, a, r⟩ := h.dat i d e
        exact ⟨v, a, r.same hl⟩
      | own ds =>
        cases q
        obtain ⟨a, xs, h1, h2, h3, h4⟩ := h.own i ds e
        refine ⟨_, h2, .lst (hid_at h3 ⟨fun z => ?_, h.ng a h1⟩) (h4.same hl)⟩
        exact (hd.1 a z).1 (h.lst a h1).1
      | no => cases q⟩
mutual
def noL : PyData → Bool
  | .list _ => false
  | .tuple ds => noLs ds
  | .dict ((.bool _, _) :: _) => false
  | _ => true
def noLs : List PyData → Bool
  | [] => true
  | d :: ds => noL d && noLs ds
end
theorem sqT_hide {H : Hp} {S O : List Addr} {a : Addr} {xs : List V} (hO : ∀ a ∈ O, ∃ ys, H a = some (.lst ys)) (h : SqT K (hid H S) a xs) : SqT K (hid H (O ++ S)) a xs := by
  have key : ∀ (o : HO), hid H S a = some o → (∀ ys, o ≠ .lst ys) → hid H (O ++ S) a = some o := fun o e ne => by
    have hH := hid_sub a o e
    refine hid_at hH ⟨fun z => ?_, (hid_out e).2⟩
    rcases List.mem_append.mp z with z | z
    · obtain ⟨ys, q⟩ := hO a z
      rw [hH] at q
      exact ne ys (Option.some.inj q)
    · exact (hid_out e).1 z
  rcases h with (h | ⟨o, h⟩) | h
  · exact .inl (.inl (key _ h fun ys z => by cases z))
  · exact .inl (.inr ⟨o, key _ h fun ys z => by cases z⟩)
  · exact .inr h
theorem scr_hide {H : Hp} {S O : List Addr} {a : Addr} {xs : List V} (hO : ∀ a ∈ O, ∃ ys, H a = some (.lst ys)) (h : ScrAt K (hid H S) a xs) : ScrAt K (hid H (O ++ S)) a xs := by
  rcases h with ⟨o, h⟩ | h
  · refine .inl ⟨o, hid_at (hid_sub _ _ h) ⟨fun z => ?_, (hid_out h).2⟩⟩
    rcases List.mem_append.mp z with z | z
    · obtain ⟨ys, q⟩ := hO a z
      rw [hid_sub _ _ h] at q
      cases q
    · exact (hid_out h).1 z
  · exact .inr h
mutual
theorem rp_hide {H : Hp} {S O : List Addr} (hO : ∀ a ∈ O, ∃ ys, H a = some (.lst ys)) : ∀ {v : V} {d : PyData}, noL d = true → Rp K (hid H S) v d → Rp K (hid H (O ++ S)) v d
  | _, _, _, .non => .non
  | _, _, _, .bl b => .bl b
  | _, _, _, .int i => .int i
  | _, _, _, .str x => .str x
  | _, _, n, .lst h r => by simp [noL] at n
  | _, _, n, .tup h r => .tup (sqT_hide hO h) (rpAll_hide hO (by simpa [noL] using n) r)
  | _, _, n, .scr h => .scr (scr_hide hO h)
  | _, _, n, .spr h => .spr h
  | _, _, n, .tab h r => by simp [noL] at n
  | _, _, n, .pt h => .pt (by
    refine hid_at (hid_sub _ _ h) ⟨fun z => ?_, (hid_out h).2⟩
    rcases List.mem_append.mp z with z | z
    · obtain ⟨ys, q⟩ := hO _ z
      rw [hid_sub _ _ h] at q
      cases q
    · exact (hid_out h).1 z)
  | _, _, n, .exc h => .exc (by
    refine hid_at (hid_sub _ _ h) ⟨fun z => ?_, (hid_out h).2⟩
    rcases List.mem_append.mp z with z | z
    · obtain ⟨ys, q⟩ := hO _ z
      rw [hid_sub _ _ h] at q
      cases q
    · exact (hid_out h).1 z)
  | _, _, n, .exp _ _ _ _ => by simp [noL] at n
theorem rpAll_hide {H : Hp} {S O : List Addr} (hO : ∀ a ∈ O, ∃ ys, H a = some (.lst ys)) : ∀ {v : List V} {d : List PyData}, noLs d = true → RpAll K (hid H S) v d → RpAll K (hid H (O ++ S)) v d
  | _, _, _, .nil => .nil
  | _, _, n, .cons h r => by
    simp only [noLs, Bool.and_eq_true] at n
    exact .cons (rp_hide hO n.1 h) (rpAll_hide hO n.2 r)
end
theorem StD.put {H0 : Hp} {S O : List Addr} {ρ : STt} {σ : L2.St} {H : Hp} {i : Nat} {v : V} {d : PyData} (h : StD K H0 S O ρ σ H) (r : Rp K (hid H (O ++ S)) v d) : StD K H0 S O (ρ.set i (.dat d)) (σ.set i (some v)) H := by
  refine ⟨by rw [List.length_set, List.length_set]; exact h.len, fun j e q => ?_, fun j ds q => ?_, fun j k ds es a q q' z z' => ?_, h.lst, h.sm, h.ng⟩
  · by_cases hj : i = j
    · subst hj
      have hi : i < ρ.length := by
        have := (List.getElem?_eq_some_iff.mp q).1
        rwa [List.length_set] at this
      rw [List.getElem?_set_self hi] at q
      cases q
      exact ⟨v, List.getElem?_set_self (by rw [h.len]; exact hi), r⟩
    · rw [List.getElem?_set_ne hj] at q ⊢
      exact h.dat j e q
  · by_cases hj : i = j
    · subst hj
      have hi : i < ρ.length := by
        have := (List.getElem?_eq_some_iff.mp q).1
        rwa [List.length_set] at this
      rw [List.getElem?_set_self hi] at q
      cases q
    · rw [List.getElem?_set_ne hj] at q ⊢
      exact h.own j ds q
  · have g : ∀ (j : Nat) (ds : List PyData), (ρ.set i (.dat d))[j]? = some (Sl.own ds) → i ≠ j := fun j ds q e => by
      subst e
      have hi : i < ρ.length := by
        have := (List.getElem?_eq_some_iff.mp q).1
        rwa [List.length_set] at this
      rw [List.getElem?_set_self hi] at q
      cases q
    have g1 := g j ds q
    have g2 := g k es q'
    rw [List.getElem?_set_ne g1] at q z
    rw [List.getElem?_set_ne g2] at q' z'
    exact h.ap j k ds es a q q' z z'
theorem StD.own_new {H0 : Hp} {S O : List Addr} {ρ : STt} {σ : L2.St} {H H' : Hp} {i : Nat} {p : Addr} {xs : List V} {ds : List PyData} (hd : Dom H0 S) (h : StD K H0 S O ρ σ H) (e : SameG H H') (hn : H p = none) (hp : H' p = some (.lst xs)) (r : RpAll K (hid H' (p :: (O ++ S))) xs ds) :
    StD K H0 S (p :: O) (ρ.set i (.own ds)) (σ.set i (some (.ref p))) H' := by
  have h' := h.same e
  have np : ∀ a ∈ O, a ≠ p := fun a ha z => by
    obtain ⟨_, ys, q⟩ := h.lst a ha
    rw [z, hn] at q
    cases q
  have up : Same (hid H (O ++ S)) (hid H' (p :: O ++ S)) := fun b o hb => by
    have hH := hid_sub b o hb
    refine hid_at (e.at (hid_out hb).2 hH) ⟨fun z => ?_, (hid_out hb).2⟩
    rcases List.mem_cons.mp z with z | z
    · rw [z, hn] at hH
      cases hH
    · exact (hid_out hb).1 z
  refine ⟨by rw [List.length_set, List.length_set]; exact h.len, fun j d q => ?_, fun j es q => ?_, fun j k ds' es a q q' z z' => ?_, fun a ha => ?_, h'.sm, fun a ha => ?_⟩
  · by_cases hj : i = j
    · subst hj
      have hi : i < ρ.length := by
        have := (List.getElem?_eq_some_iff.mp q).1
        rwa [List.length_set] at this
      rw [List.getElem?_set_self hi] at q
      cases q
    · rw [List.getElem?_set_ne hj] at q ⊢
      obtain ⟨v, z, rv⟩ := h.dat j d q
      exact ⟨v, z, rv.same up⟩
  · by_cases hj : i = j
    · subst hj
      have hi : i < ρ.length := by
        have := (List.getElem?_eq_some_iff.mp q).1
        rwa [List.length_set] at this
      rw [List.getElem?_set_self hi] at q
      cases q
      exact ⟨p, xs, List.mem_cons_self, List.getElem?_set_self (by rw [h.len]; exact hi), hp, r⟩
    · rw [List.getElem?_set_ne hj] at q ⊢
      obtain ⟨a, ys, h1, h2, h3, h4⟩ := h.own j es q
      exact ⟨a, ys, List.mem_cons_of_mem _ h1, h2, e.at (h.ng a h1) h3, h4.same up⟩
  · have g : ∀ (j : Nat) (es : List PyData), (ρ.set i (.own ds))[j]? = some (Sl.own es) → (σ.set i (some (V.ref p)))[j]? = some (some (.ref a)) → (j = i ∧ a = p) ∨ (j ≠ i ∧ ρ[j]? = some (.own es) ∧ σ[j]? = some (some (.ref a)) ∧ a ≠ p) := fun j es q z => by
      by_cases hj : i = j
      · subst hj
        have hi : i < ρ.length := by
          have := (List.getElem?_eq_some_iff.mp q).1
          rwa [List.length_set] at this
        rw [List.getElem?_set_self (by rw [h.len]; exact hi)] at z
        cases z
        exact .inl ⟨rfl, rfl⟩
      · rw [List.getElem?_set_ne hj] at q z
        obtain ⟨b, ys, h1, h2, h3, h4⟩ := h.own j es q
        rw [z] at h2
        cases h2
        exact .inr ⟨fun e => hj e.symm, q, z, np _ h1⟩
    rcases g j ds' q z with ⟨a1, a2⟩ | ⟨a1, a2, a3, a4⟩ <;> rcases g k es q' z' with ⟨b1, b2⟩ | ⟨b1, b2, b3, b4⟩
    · rw [a1, b1]
    · exact absurd a2 b4
    · exact absurd b2 a4
    · exact h.ap j k ds' es a a2 b2 a3 b3
  · rcases List.mem_cons.mp ha with z | z
    · rw [z]
      exact ⟨h.sm.free hn, xs, hp⟩
    · exact h'.lst a z
  · rcases List.mem_cons.mp ha with z | z
    · rw [z]
      exact (hd.fresh (h.sm.free hn)).2
    · exact h.ng a z
theorem StD.own_upd {H0 : Hp} {S O : List Addr} {ρ : STt} {σ : L2.St} {H : Hp} {i : Nat} {a : Addr} {xs : List V} {ds es : List PyData} (h : StD K H0 S O ρ σ H) (ho : ρ[i]? = some (.own es)) (ha : a ∈ O) (hs : σ[i]? = some (some (.ref a))) (r : RpAll K (hid H (O ++ S)) xs ds) :
    StD K H0 S O (ρ.set i (.own ds)) σ (upd H a (.lst xs)) := by
  have up : Same (hid H (O ++ S)) (hid (upd H a (.lst xs)) (O ++ S)) := hid_upd (List.mem_append_left _ ha)
  have hi : i < ρ.length := (List.getElem?_eq_some_iff.mp ho).1
  refine ⟨by rw [List.length_set]; exact h.len, fun j d q => ?_, fun j es' q => ?_, fun j k ds' es' b q q' z z' => ?_, fun b hb => ?_, h.sm.updN (h.lst a ha).1, h.ng⟩
  · by_cases hj : i = j
    · subst hj
      rw [List.getElem?_set_self hi] at q
      cases q
    · rw [List.getElem?_set_ne hj] at q
      obtain ⟨v, z, rv⟩ := h.dat j d q
      exact ⟨v, z, rv.same up⟩
  · by_cases hj : i = j
    · subst hj
      rw [List.getElem?_set_self hi] at q
      cases q
      exact ⟨a, xs, ha, hs, upd_same, r.same up⟩
    · rw [List.getElem?_set_ne hj] at q
      obtain ⟨b, ys, h1, h2, h3, h4⟩ := h.own j es' q
      refine ⟨b, ys, h1, h2, ?_, h4.same up⟩
      rw [upd_ne (fun e => hj (h.ap i j es es' b ho q (by rw [e]; exact hs) h2))]
      exact h3
  · have g : ∀ (j : Nat) (es'' : List PyData), (ρ.set i (.own ds))[j]? = some (Sl.own es'') → ∃ es', ρ[j]? = some (.own es') := fun j es'' q => by
      by_cases hj : i = j
      · subst hj
        exact ⟨es, ho⟩
      · rw [List.getElem?_set_ne hj] at q
        exact ⟨_, q⟩
    obtain ⟨e1, g1⟩ := g j ds' q
    obtain ⟨e2, g2⟩ := g k es' q'
    exact h.ap j k e1 e2 b g1 g2 z z'
  · obtain ⟨h1, ys, h2⟩ := h.lst b hb
    refine ⟨h1, ?_⟩
    by_cases e : b = a
    · exact ⟨xs, by rw [e]; exact upd_same⟩
    · exact ⟨ys, by rw [upd_ne e]; exact h2⟩
theorem StD.frz {H0 : Hp} {S O : List Addr} {ρ : STt} {σ : L2.St} {H : Hp} {i : Nat} {ds : List PyData} (hd : Dom H0 S) (h : StD K H0 S O ρ σ H) (ho : ρ[i]? = some (.own ds)) : ∃ O', StD K H0 S O' (ρ.set i (.dat (.list ds))) σ H := by
  obtain ⟨a, xs, ha, hs, hH, rx⟩ := h.own i ds ho
  have hi : i < ρ.length := (List.getElem?_eq_some_iff.mp ho).1
  have less : Same (hid H (O ++ S)) (hid H (O.filter (fun b => !decide (b = a)) ++ S)) := hid_less fun b hb => by
    rcases List.mem_append.mp hb with z | z
    · exact List.mem_append_left _ (List.mem_filter.mp z).1
    · exact List.mem_append_right _ z
  refine ⟨O.filter (fun b => !decide (b = a)), by rw [List.length_set]; exact h.len, fun j d q => ?_, fun j es' q => ?_, fun j k ds' es' b q q' z z' => ?_, fun b hb => h.lst b (List.mem_filter.mp hb).1, h.sm, fun b hb => h.ng b (List.mem_filter.mp hb).1⟩
  · by_cases hj : i = j
    · subst hj
      rw [List.getElem?_set_self hi] at q
      cases q
      refine ⟨_, hs, .lst (hid_at hH ⟨fun z => ?_, h.ng a ha⟩) (rx.same less)⟩
      rcases List.mem_append.mp z with z | z
      · have := (List.mem_filter.mp z).2
        simp at this
      · exact (hd.1 a z).1 (h.lst a ha).1
    · rw [List.getElem?_set_ne hj] at q
      obtain ⟨v, z, rv⟩ := h.dat j d q
      exact ⟨v, z, rv.same less⟩
  · by_cases hj : i = j
    · subst hj
      rw [List.getElem?_set_self hi] at q
      cases q
    · rw [List.getElem?_set_ne hj] at q
      obtain ⟨b, ys, h1, h2, h3, h4⟩ := h.own j es' q
      refine ⟨b, ys, List.mem_filter.mpr ⟨h1, ?_⟩, h2, h3, h4.same less⟩
      simp only [Bool.not_eq_true', decide_eq_false_iff_not]
      exact fun e => hj (h.ap i j ds es' b ho q (by rw [e]; exact hs) h2)
  · have g : ∀ (j : Nat) (es'' : List PyData), (ρ.set i (.dat (.list ds)))[j]? = some (Sl.own es'') → ρ[j]? = some (.own es'') := fun j es'' q => by
      by_cases hj : i = j
      · subst hj
        rw [List.getElem?_set_self hi] at q
        cases q
      · rw [List.getElem?_set_ne hj] at q
        exact q
    exact h.ap j k ds' es' b (g j ds' q) (g k es' q') z z'

/-! ### the rules of statements -/
variable {ρ : STt} {P : Post}
theorem x_nil (h : P.nx ρ) : ExD K tNext ρ P := fun S O H0 D σ H hd st p => p.nx O ρ σ H h st
theorem x_seq {t u : TS} {M : STt → Prop} (h : ExD K t ρ { P with nx := M }) (g : ∀ ρ', M ρ' → ExD K u ρ' P) : ExD K (tSeq t u) ρ P := fun S O H0 D σ H hd st p =>
  h S O H0 { D with nx := u D } σ H hd st ⟨fun O' ρ' σ' H' m st' => g ρ' m S O' H0 D σ' H' hd st' p, p.rt, p.bk, p.ct, p.rf⟩
/-- straight on -/
theorem x_sq {t u : TS} {ρ' : STt} (h : ExD K t ρ { P with nx := fun z => z = ρ' }) (g : ExD K u ρ' P) : ExD K (tSeq t u) ρ P :=
  x_seq h fun z e => by
    subst e
    exact g
theorem x_frz (i : Nat) {t : TS} {ds : List PyData} (ho : ρ[i]? = some (.own ds)) (h : ExD K t (ρ.set i (.dat (.list ds))) P) : ExD K t ρ P := fun S O H0 D σ H hd st p => by
  obtain ⟨O', st'⟩ := st.frz hd ho
  exact h S O' H0 D σ H hd st' p
theorem x_set {i : Nat} {te : TE} {d : PyData} (h : EvD K te (vw ρ) d) (hn : noL d = true) (hp : P.nx (ρ.set i (.dat d))) : ExD K (tAsg te (gName i)) ρ P := fun S O H0 D σ H hd st p =>
  h S σ H _ (hd.same st.sm) (st.envW hd) fun v H' s r => p.nx O _ _ H' hp ((st.same s).put (rp_hide (fun a ha => ((st.same s).lst a ha).2) hn r))
theorem x_setL {i : Nat} {te : TE} {d : PyData} (h : EvD K te (vs ρ) d) (hp : P.nx (ρ.set i (.dat d))) : ExD K (tAsg te (gName i)) ρ P := fun S O H0 D σ H hd st p =>
  h (O ++ S) σ H _ (st.domO hd) st.env fun v H' s r => p.nx O _ _ H' hp ((st.same s).put r)
theorem x_own {i : Nat} {te : TE} {ds : List PyData} (h : EvF K te (vs ρ) ds) (hp : P.nx (ρ.set i (.own ds))) : ExD K (tAsg te (gName i)) ρ P := fun S O H0 D σ H hd st p =>
  h (O ++ S) σ H _ (st.domO hd) st.env fun q H' xs s hn hq r => p.nx (q :: O) _ _ H' hp (st.own_new hd s hn hq r)
theorem x_if {c : TT} {t u : TS} {b : Bool} (h : EvB K c (vw ρ) b) (h1 : b = true → ExD K t ρ P) (h2 : b = false → ExD K u ρ P) : ExD K (tIfS c t u) ρ P := fun S O H0 D σ H hd st p =>
  h S σ H _ (hd.same st.sm) (st.envW hd) fun H' s => by
    cases b with
    | true => exact h1 rfl S O H0 D σ H' hd (st.same s) p
    | false => exact h2 rfl S O H0 D σ H' hd (st.same s) p
theorem x_ret {te : TE} {d : PyData} (h : EvD K te (vw ρ) d) (hp : P.rt d) : ExD K (tRet te) ρ P := fun S O H0 D σ H hd st p =>
  h S σ H _ (hd.same st.sm) (st.envW hd) fun v H' s r => p.rt d v H' hp (st.sm.trans s) r
theorem x_retF {te : TE} {ds : List PyData} (h : EvF K te (vw ρ) ds) (hp : P.rf ds) : ExD K (tRet te) ρ P := fun S O H0 D σ H hd st p =>
  h S σ H _ (hd.same st.sm) (st.envW hd) fun q H' xs s hn hq r => p.rf ds q xs H' hp (st.sm.trans s) (st.sm.free hn) hq r
theorem x_retO {i : Nat} {ds : List PyData} (ho : ρ[i]? = some (.own ds)) (hp : P.rf ds) : ExD K (tRet (tVar i)) ρ P := fun S O H0 D σ H hd st p => by
  obtain ⟨a, xs, ha, hs, hH, rx⟩ := st.own i ds ho
  refine ⟨_, hs, p.rf ds a xs H hp st.sm (st.lst a ha).1 hH (rx.same (hid_less fun b hb => ?_))⟩
  rcases List.mem_cons.mp hb with e | e
  · rw [e]
    exact List.mem_append_left _ ha
  · exact List.mem_append_right _ e
theorem x_retN (hp : P.rt .none) : ExD K tRetN ρ P := fun S O H0 D σ H hd st p => p.rt .none .non H hp st.sm .non
theorem x_drop {te : TE} {d : PyData} (h : EvD K te (vw ρ) d) (hp : P.nx ρ) : ExD K (tDrop te) ρ P := fun S O H0 D σ H hd st p =>
  h S σ H _ (hd.same st.sm) (st.envW hd) fun v H' s r => p.nx O ρ σ H' hp (st.same s)
theorem x_brk (hp : P.bk ρ) : ExD K tBreak ρ P := fun S O H0 D σ H hd st p => p.bk O ρ σ H hp st
theorem x_cont (hp : P.ct ρ) : ExD K tCont ρ P := fun S O H0 D σ H hd st p => p.ct O ρ σ H hp st
theorem x_par {i j : Nat} {ta : TA} {d e : PyData} (h : EvL K ta (vs ρ) [d, e]) (hp : P.nx ((ρ.set i (.dat d)).set j (.dat e))) : ExD K (tPar i j ta) ρ P := fun S O H0 D σ H hd st p =>
  h (O ++ S) σ H _ (st.domO hd) st.env fun xs H' s r => by
    cases r with
    | cons r1 r2 =>
      cases r2 with
      | cons r2 r3 =>
        cases r3
        exact ⟨_, _, rfl, p.nx O _ _ H' hp (((st.same s).put r1).put r2)⟩
theorem x_parW {i j : Nat} {ta : TA} {d e : PyData} (h : EvL K ta (vw ρ) [d, e]) (h1 : noL d = true) (h2 : noL e = true) (hp : P.nx ((ρ.set i (.dat d)).set j (.dat e))) : ExD K (tPar i j ta) ρ P := fun S O H0 D σ H hd st p =>
  h S σ H _ (hd.same st.sm) (st.envW hd) fun xs H' s r => by
    cases r with
    | cons r1 r2 =>
      cases r2 with
      | cons r2 r3 =>
        cases r3
        exact ⟨_, _, rfl, p.nx O _ _ H' hp (((st.same s).put (rp_hide (fun a ha => ((st.same s).lst a ha).2) h1 r1)).put (rp_hide (fun a ha => ((st.same s).lst a ha).2) h2 r2))⟩
theorem x_par3 {i j k : Nat} {ta : TA} {d e f : PyData} (h : EvL K ta (vs ρ) [d, e, f]) (hp : P.nx (((ρ.set i (.dat d)).set j (.dat e)).set k (.dat f))) : ExD K (tPar3 i j k ta) ρ P := fun S O H0 D σ H hd st p =>
  h (O ++ S) σ H _ (st.domO hd) st.env fun xs H' s r => by
    cases r with
    | cons r1 r2 =>
      cases r2 with
      | cons r2 r3 =>
        cases r3 with
        | cons r3 r4 =>
          cases r4
          exact ⟨_, _, _, rfl, p.nx O _ _ H' hp ((((st.same s).put r1).put r2).put r3)⟩
def putL : STt → List (Nat × PyData) → STt
  | ρ, (i, d) :: r => putL (ρ.set i (.dat d)) r
  | ρ, [] => ρ
theorem StD.putV {H0 : Hp} {S O : List Addr} {H : Hp} : ∀ {L : List (Nat × PyData)} {ρ : STt} {σ : L2.St} {ws : List V}, StD K H0 S O ρ σ H → RpAll K (hid H (O ++ S)) ws (L.map (·.2)) → StD K H0 S O (putL ρ L) (setV σ (L.map (·.1)) ws) H
  | [], _, _, _, h, r => by
    cases r
    exact h
  | (i, d) :: L, _, _, _, h, r => by
    cases r with
    | cons r1 r2 => exact StD.putV (L := L) (StD.put h r1) r2
/-- a, b = e -/
theorem x_asg {te : TE} {g : TG} {d : PyData} {L : List (Nat × PyData)} (h : EvD K te (vs ρ) d) (hg : EvG K g d L) (hp : P.nx (putL ρ L)) : ExD K (tAsg te g) ρ P := fun S O H0 D σ H hd st p =>
  h (O ++ S) σ H _ (st.domO hd) st.env fun v H' s r => by
    obtain ⟨ws, rw_, f⟩ := hg (O ++ S) H' v r
    exact f σ _ (p.nx O _ _ H' hp ((st.same s).putV rw_))
theorem x_asgW {te : TE} {g : TG} {d : PyData} {L : List (Nat × PyData)} (h : EvD K te (vw ρ) d) (hn : noL d = true) (hg : EvG K g d L) (hp : P.nx (putL ρ L)) : ExD K (tAsg te g) ρ P := fun S O H0 D σ H hd st p =>
  h S σ H _ (hd.same st.sm) (st.envW hd) fun v H' s r => by
    obtain ⟨ws, rw_, f⟩ := hg (O ++ S) H' v (rp_hide (fun a ha => ((st.same s).lst a ha).2) hn r)
    exact f σ _ (p.nx O _ _ H' hp ((st.same s).putV rw_))
/-- xs.append(e) of a list of one's own -/
theorem x_app {i : Nat} {te : TE} {ds : List PyData} {d : PyData} (ho : ρ[i]? = some (.own ds)) (h : EvD K te (vs ρ) d) (hz : ds.length < sizeLine) (hp : P.nx (ρ.set i (.own (ds ++ [d])))) :
    ExD K (tDrop (tBM K "list" rAppend (tVar i) (tCons te tNil))) ρ P := fun S O H0 D σ H hd st p => by
  obtain ⟨a, xs, ha, hs, hH, rx⟩ := st.own i ds ho
  refine ⟨_, hs, .inl ⟨rfl, _, .inl (.inl hH)⟩, ?_⟩
  refine h (O ++ S) σ H _ (st.domO hd) st.env fun v H' s r => ?_
  refine ⟨a, xs, v, rfl, rfl, s.at (st.ng a ha) hH, by rw [rx.len]; exact hz, ?_⟩
  exact p.nx O _ _ _ hp ((st.same s).own_upd ho ha hs ((rx.same (hid_same s)).app (.cons r .nil)))
theorem x_appW {i : Nat} {te : TE} {ds : List PyData} {d : PyData} (ho : ρ[i]? = some (.own ds)) (h : EvD K te (vw ρ) d) (hn : noL d = true) (hz : ds.length < sizeLine) (hp : P.nx (ρ.set i (.own (ds ++ [d])))) :
    ExD K (tDrop (tBM K "list" rAppend (tVar i) (tCons te tNil))) ρ P := fun S O H0 D σ H hd st p => by
  obtain ⟨a, xs, ha, hs, hH, rx⟩ := st.own i ds ho
  refine ⟨_, hs, .inl ⟨rfl, _, .inl (.inl hH)⟩, ?_⟩
  refine h S σ H _ (hd.same st.sm) (st.envW hd) fun v H' s r => ?_
  refine ⟨a, xs, v, rfl, rfl, s.at (st.ng a ha) hH, by rw [rx.len]; exact hz, ?_⟩
  exact p.nx O _ _ _ hp ((st.same s).own_upd ho ha hs ((rx.same (hid_same s)).app (.cons (rp_hide (fun a ha => ((st.same s).lst a ha).2) hn r) .nil)))
/-! ### loops -/
theorem StD.base {H0 H1 : Hp} {S O : List Addr} {σ : L2.St} {H : Hp} (h : StD K H1 S O ρ σ H) (e : SameG H0 H1) : StD K H0 S O ρ σ H :=
  ⟨h.len, h.dat, h.own, h.ap, fun a ha => ⟨e.free (h.lst a ha).1, (h.lst a ha).2⟩, e.trans h.sm, h.ng⟩
/-- the base moved up to all that stands, but the owned lists -/
theorem StD.up {H0 : Hp} {S O : List Addr} {σ : L2.St} {H : Hp} (h : StD K H0 S O ρ σ H) : StD K (hid0 H O) S O ρ σ H ∧ SameG H0 (hid0 H O) := by
  have key : ∀ b o, H0 b = some o → b ∉ O := fun b o e z => by
    rw [(h.lst b z).1] at e
    cases e
  refine ⟨⟨h.len, h.dat, h.own, h.ap, fun a ha => ⟨by unfold hid0; rw [if_pos ha], (h.lst a ha).2⟩, .of hid0_sub, h.ng⟩, fun b o e => ?_⟩
  have nb := key b o e
  rcases h.sm b o e with ⟨n, h1⟩ | ⟨m, ⟨o1, h1⟩, z⟩
  · exact .inl ⟨n, hid0_at h1 nb⟩
  · refine .inr ⟨m, ⟨o1, hid0_at h1 nb⟩, fun w => ?_⟩
    obtain ⟨i, j, k, q⟩ := z w
    exact ⟨i, j, k, hid0_at q nb⟩
theorem PostOK.base {H0 H1 : Hp} {S : List Addr} {D : Ends} (p : PostOK K H0 S P D) (e : SameG H0 H1) : PostOK K H1 S P D :=
  ⟨fun O ρ σ H h st => p.nx O ρ σ H h (st.base e), fun d v H h s r => p.rt d v H h (e.trans s) r, fun O ρ σ H h st => p.bk O ρ σ H h (st.base e), fun O ρ σ H h st => p.ct O ρ σ H h (st.base e), fun ds q xs H h s n z r => p.rf ds q xs H h (e.trans s) (e.free n) z r⟩
theorem StD.walk {S O O2 : List Addr} {σ : L2.St} {H H2 : Hp} (h : StD K (hid0 H O) S O2 ρ σ H2) : Same (hid H (O ++ S)) (hid H2 (O2 ++ S)) := fun b o e => by
  have hH := hid_sub b o e
  have nO : b ∉ O := fun z => (hid_out e).1 (List.mem_append_left _ z)
  have nS : b ∉ S := fun z => (hid_out e).1 (List.mem_append_right _ z)
  have h1 : hid0 H O b = some o := hid0_at hH nO
  refine hid_at (h.sm.at (hid_out e).2 h1) ⟨fun z => ?_, (hid_out e).2⟩
  rcases List.mem_append.mp z with z | z
  · rw [(h.lst b z).1] at h1
    cases h1
  · exact nS z
theorem dom_up {H0 : Hp} {S O : List Addr} {σ : L2.St} {H : Hp} (hd : Dom H0 S) (h : StD K H0 S O ρ σ H) : Dom (hid0 H O) S := hd.same h.up.2
/-- for x in ..: I i holds ahead of turn i -/
theorem x_for {wi : TI} {g : TG} {tb : TS} {ds : List PyData} (I : Nat → STt → Prop) (hw : EvI K wi (vs ρ) ds) (h0 : I 0 ρ)
    (hs : ∀ i d ρ', ds[i]? = some d → I i ρ' → ∃ L, EvG K g d L ∧ ExD K tb (putL ρ' L) { nx := I (i + 1), ct := I (i + 1), bk := P.nx, rt := P.rt, rf := P.rf })
    (he : ∀ ρ', I ds.length ρ' → P.nx ρ') : ExD K (tFor wi g tb) ρ P := fun S O H0 D σ H hd st p => by
  refine hw (O ++ S) σ H _ (st.domO hd) st.env fun J H1 s1 wk => ?_
  have st1 := st.same s1
  obtain ⟨stu, eu⟩ := st1.up
  have hdu := hd.same eu
  have pu := p.base eu
  refine ⟨fun i m σ2 H2 => m = ds.length - i ∧ i ≤ ds.length ∧ ∃ ρ2 O2, I i ρ2 ∧ StD K (hid0 H1 O) S O2 ρ2 σ2 H2, ⟨_, rfl, Nat.zero_le _, ρ, O, h0, stu⟩, ?_⟩
  rintro i m σ2 H2 ⟨rfl, hi, ρ2, O2, hI, st2⟩
  have wk2 := wk i (O2 ++ S) H2 (st2.domO hdu) st2.walk
  by_cases hlt : i < ds.length
  · have hdi := List.getElem?_eq_getElem hlt
    obtain ⟨w1, w2⟩ := wk2.1 _ hdi
    obtain ⟨L, hg, hb⟩ := hs i _ ρ2 hdi hI
    refine .inr ⟨w1, fun σ' H' => ∃ ρ' O', I (i + 1) ρ' ∧ StD K (hid0 H1 O) S O' ρ' σ' H', fun σ' H' ⟨ρ', O', q1, q2⟩ => ⟨_, by omega, rfl, hlt, ρ', O', q1, q2⟩, fun x H3 hy => ?_⟩
    obtain ⟨s3, r3⟩ := w2 x H3 hy
    obtain ⟨ws, rw_, f⟩ := hg (O2 ++ S) H3 x r3
    refine f σ2 _ ?_
    refine hb S O2 (hid0 H1 O) _ _ H3 hdu ((st2.same s3).putV rw_) ⟨fun O' ρ' σ' H' q1 q2 => ⟨ρ', O', q1, q2⟩, pu.rt, fun O' ρ' σ' H' q1 q2 => pu.nx O' ρ' σ' H' q1 q2, fun O' ρ' σ' H' q1 q2 => ⟨ρ', O', q1, q2⟩, pu.rf⟩
  · have ei : i = ds.length := by omega
    exact .inl ⟨wk2.2 (by omega), pu.nx O2 ρ2 σ2 H2 (he ρ2 (by rw [← ei]; exact hI)) st2⟩
/-- while: I with a measure -/
theorem x_while {c : TT} {tb : TS} (I : STt → Prop) (μ : STt → Nat) (h0 : I ρ) (hs : ∀ ρ', I ρ' → ∃ b, EvB K c (vw ρ') b ∧
      (b = true → ExD K tb ρ' { nx := fun z => I z ∧ μ z < μ ρ', ct := fun z => I z ∧ μ z < μ ρ', bk := P.nx, rt := P.rt, rf := P.rf }) ∧ (b = false → P.nx ρ')) : ExD K (tWhile c tb) ρ P := fun S O H0 D σ H hd st p => by
  refine ⟨fun m σ2 H2 => ∃ ρ2 O2, m = μ ρ2 ∧ I ρ2 ∧ StD K H0 S O2 ρ2 σ2 H2, ⟨_, ρ, O, rfl, h0, st⟩, ?_⟩
  rintro m σ2 H2 ⟨ρ2, O2, rfl, hI, st2⟩
  obtain ⟨b, hc, ht, hf⟩ := hs ρ2 hI
  refine hc S σ2 H2 _ (hd.same st2.sm) (st2.envW hd) fun H3 s3 => ?_
  cases b with
  | false => exact L2.iteF (p.nx O2 ρ2 σ2 H3 (hf rfl) (st2.same s3))
  | true =>
    refine L2.iteT ⟨fun σ' H' => ∃ ρ' O', (I ρ' ∧ μ ρ' < μ ρ2) ∧ StD K H0 S O' ρ' σ' H', fun σ' H' ⟨ρ', O', q1, q2⟩ => ⟨_, q1.2, ρ', O', rfl, q1.1, q2⟩, ?_⟩
    exact ht rfl S O2 H0 _ σ2 H3 hd (st2.same s3) ⟨fun O' ρ' σ' H' q1 q2 => ⟨ρ', O', q1, q2⟩, p.rt, fun O' ρ' σ' H' q1 q2 => p.nx O' ρ' σ' H' q1 q2, fun O' ρ' σ' H' q1 q2 => ⟨ρ', O', q1, q2⟩, p.rf⟩

/-! ### a def -/
def startE (N : List Str) (ds : List PyData) : STt := ds.map .dat ++ List.replicate (N.length - ds.length) .no
theorem start_ok {N : List Str} {H : Hp} {S : List Addr} {xs : List V} {ds : List PyData} (r : RpAll K (hid H S) xs ds) : StD K H S [] (startE N ds) (L2.start N xs) H := by
  have hl := r.len
  refine ⟨by unfold startE L2.start; simp [hl], fun i d q => ?_, fun i es q => ?_, fun i j es fs a q _ _ _ => ?_, fun a ha => (by cases ha), SameG.refl _, fun a ha => (by cases ha)⟩
  · unfold startE at q
    by_cases hi : i < ds.length
    · rw [List.getElem?_append_left (by simpa using hi), List.getElem?_map, List.getElem?_eq_getElem hi] at q
      cases q
      obtain ⟨v, hv, rv⟩ := r.at (List.getElem?_eq_getElem hi)
      refine ⟨v, ?_, rv⟩
      unfold L2.start
      rw [List.getElem?_append_left (by rw [List.length_map, hl]; exact hi), List.getElem?_map, hv]
      rfl
    · rw [List.getElem?_append_right (by simpa using hi)] at q
      rw [List.getElem?_replicate] at q
      split at q <;> cases q
  · exfalso
    unfold startE at q
    by_cases hi : i < ds.length
    · rw [List.getElem?_append_left (by simpa using hi), List.getElem?_map, List.getElem?_eq_getElem hi] at q
      cases q
    · rw [List.getElem?_append_right (by simpa using hi), List.getElem?_replicate] at q
      split at q <;> cases q
  · exfalso
    unfold startE at q
    by_cases hi : i < ds.length
    · rw [List.getElem?_append_left (by simpa using hi), List.getElem?_map, List.getElem?_eq_getElem hi] at q
      cases q
    · rw [List.getElem?_append_right (by simpa using hi), List.getElem?_replicate] at q
      split at q <;> cases q
end Dx
namespace Dx
open PySem PySem.Spec L2
open PyProof.Rows hiding St
/-! ### set(xs) of a list of ints -/
def ledOf (w : World) : Bool := !w.params.followText "set-order"
def newSet (w : World) : Obj := { cls := .type "set", dict := none, data := .set #[] 0 (.fresh 0 0 (ledOf w)) }
section
variable {P : Program} {w : World} {A : Around} {E : Value → Shared → Prop} {s : Shared}
theorem set_new_led (v : Value) {Q₁ : Value → Shared → Prop} (h : Q₁ (.ref s.heap.objs.size) { s with heap := s.heap.push (newSet w) }) :
    codeAny (model P w) A (.call (.builtin "set.__new__") ⟨[.type "set", v], []⟩) (wants Q₁ E) s := code_set_led1 v h
set_option maxRecDepth 100000 in
set_option maxHeartbeats 3200000 in
theorem call_setI {l : Addr} {its : Array Value} (ns : List Int) {Q : Value → Shared → Prop} (nh : A.handled = none) (isl : s.heap.IsList l its) (hints : IntsAre its.toList ns) (room : ns.length + 1 < scanBound)
    (k : ∀ (g : Heap) (t c : Nat), SetR w g s.heap.objs.size (fun j => decide (j ∈ ns)) c → c ≤ ns.length → (∀ b o, s.heap.get? b = some o → g.get? b = some o) → Q (.ref s.heap.objs.size) { s with heap := g, toks := t }) :
    wpAny (model P w) A (call (.type "set") [.ref l]) Q E s := by
  have sz : its.size = ns.length := by
    rw [← Array.length_toList]
    exact IntsAre.length hints
  obtain ⟨c0, t0, m0⟩ := F.called_set.mro
  have x1 := F.called_set.made
  have x2 := F.called_set.sub
  refine wpAny_call <| codeAny_of_tree ?_
  show wpAny _ _ (callAny (.type "set") _) _ _ s
  refine wpAny_pure ⟨Code.quiet_builtin _ (by decide +kernel),
    codeAny_builtin F.entry_type_call ?_⟩
  rw [Around.under_plain (weight_type_call_type "set" [Value.ref l] []) (by rfl)]
  have x3 := F.called_set.notType
  have x4 := F.called_set.canCreate
  have x5 := F.typeCall_set_1 (.ref l)
  repeat any_goals (first | assumption | wp_step)
  refine codeAny_mono (set_new_led (Value.ref l) (E := E) (Q₁ := fun ob s₁ => ob = .ref s.heap.objs.size ∧ s₁ = { s with heap := s.heap.push (newSet w) }) ⟨rfl, rfl⟩) fun r s₁ hr => ?_
  cases r with
  | error e => exact hr
  | ok fl =>
    cases fl with
    | ret ob =>
      obtain ⟨rfl, rfl⟩ := hr
      have a1 : (s.heap.push (newSet w)).get? s.heap.objs.size = some (newSet w) := Heap.get?_push_size _ rfl
      have a2 : Shared.TypeIs { s with heap := s.heap.push (newSet w) } (.ref s.heap.objs.size) "set" := ⟨_, a1, rfl⟩
      have x6 := F.called_set.init.lookup
      have x7 := F.called_set.init.bind (.ref s.heap.objs.size)
      repeat any_goals (first | assumption | wp_step)
      refine codeAny_mono (codeAny_call_builtin (R := wants (fun r s₂ => r = .none ∧ ∃ g t c, s₂ = { s with heap := g, toks := t } ∧ SetR w g s.heap.objs.size (fun j => decide (j ∈ ns)) c ∧ c ≤ ns.length ∧ (∀ b o, s.heap.get? b = some o → g.get? b = some o)) E) F.called_set.init.plain F.entry_set_init (check_set_init_1 a2 ?_)) fun r₂ s₂ q₂ => ?_
      · obtain ⟨ol, p1, p2, nl, p3⟩ := isl
        obtain ⟨ocl, odi, oda, osl⟩ := ol
        simp only at p2 p3
        subst p2 p3
        have p4 : (s.heap.push (newSet w)).get? l = some { cls := .type "list", dict := odi, data := .seq its nl, slots := osl } := Heap.get?_push_of_some _ p1
        have y1 := F.sub_list_set
        have y2 := F.sub_list_frozenset
        have y3 : (Value.type "list" == Value.type "dict") = false := by rfl
        have p5 : (s.heap.push (newSet w)).IsList l its := ⟨_, p4, rfl, nl, rfl⟩
        unfold Builtin.«set.__init__» noKeywords
        unfold Builtin.Frozenset.updateFrom
        generalize pit : pyIter = PI
        wp_walk
        subst pit
        refine wpAny_pyIter_list p5 ?_
        refine wpAny_bind <| wpAny_runValue ?_
        have below : l < s.heap.objs.size := Heap.lt_size p1
        have nh3 : A.in1.in1.in1.handled = none := by simp [nh]
        have nz : (s.heap.push (newSet w)).objs.size = s.heap.objs.size + 1 := Heap.size_push ..
        have d1 : l ≠ (s.heap.push (newSet w)).objs.size := by
          rw [nz]
          exact Nat.ne_of_lt (Nat.lt_succ_of_lt below)
        have d2 : s.heap.objs.size ∉ [(s.heap.push (newSet w)).objs.size, l] := by
          rw [nz]
          simp only [List.mem_cons, List.not_mem_nil, or_false, not_or]
          exact ⟨Nat.ne_of_lt (Nat.lt_succ_self _), Nat.ne_of_gt below⟩
        have vals : ∀ (i : Nat) (v : Value), its[i]? = some v → ∃ z t, ns[i]? = some z ∧ v = .int z t := fun i v hv => by
          have hi : i < ns.length := by
            rw [← sz]
            exact (Array.getElem?_eq_some_iff.mp hv).1
          obtain ⟨t, e⟩ := hints.int_at i v (by rw [Array.getElem?_toList]; exact hv)
          exact ⟨ns[i], t, List.getElem?_eq_getElem hi, by rw [e, List.getD_eq_getElem?_getD, List.getElem?_eq_getElem hi]; rfl⟩
        refine set_update_ints ((Walks.list nh3 _ l d1 its).toS) s.heap.objs.size d2 ns sz room vals (its.size - 0) 0 _ rfl (Nat.zero_le _) ⟨⟨_, Heap.get?_push_size _ rfl, rfl, rfl⟩, p5.push _⟩ ?s0 ?s1
        case s0 => exact ⟨0, Nat.le_refl 0, setR_new_at (Heap.get?_push_of_some _ a1)⟩
        case s1 =>
          intro s' c' mv hc' hS'
          obtain ⟨g, g2, d', t', os'⟩ := s'
          have e1 : g2 = s.gens := mv.gens
          have e2 : d' = s.drawn := mv.drawn
          have e3 : os' = s.os := mv.os
          subst e1 e2 e3
          refine wpAny_pure ?_
          show wpAny _ _ (ret Value.none) _ _ _
          refine wpAny_pure ⟨rfl, g, t', c', rfl, hS', by rw [← sz]; exact hc', fun b o e => ?_⟩
          have lt := Heap.lt_size e
          refine mv.heap b o ?_ (Heap.get?_push_of_some _ (Heap.get?_push_of_some _ e))
          rw [nz]
          simp only [List.mem_cons, List.not_mem_nil, or_false, not_or]
          exact ⟨Nat.ne_of_lt lt, Nat.ne_of_lt (Nat.lt_succ_of_lt lt)⟩
      · cases r₂ with
        | error e => exact q₂
        | ok fl₂ =>
          cases fl₂ with
          | ret r =>
            obtain ⟨rfl, g, t, c', rfl, u1, u2, u3⟩ := q₂
            repeat any_goals (first | assumption | wp_step)
            exact k _ _ _ u1 u2 u3
          | _ => exact q₂.elim
    | _ => exact hr.elim
end
end Dx
namespace Dx
open PySem PySem.Spec L2
open PyProof.Rows hiding St

/-! ### t[lo::-1] of a tuple -/
theorem places_back (m : Nat) : Builtin.Slice.slicePlaces ((m : Int) - 1) (-1) (-1) = m := by
  unfold Builtin.Slice.slicePlaces
  rw [if_neg (by decide)]
  by_cases h : m = 0
  · subst h
    decide
  · rw [if_pos (by omega)]
    show (((m : Int) - 1 - -1 - 1) / 1 + 1).toNat = m
    rw [Int.ediv_one]
    omega
theorem pick_back {α : Type} (xs : List α) : ∀ (m : Nat), m ≤ xs.length → (List.range m).filterMap (fun (k : Nat) => xs[((m : Int) - 1 + (k : Int) * (-1)).toNat]?) = (xs.take m).reverse
  | 0, _ => by simp
  | m + 1, hm => by
    have ih := pick_back xs m (by omega)
    have hg : xs[m]? = some xs[m] := List.getElem?_eq_getElem (by omega)
    have e0 : (((m + 1 : Nat) : Int) - 1 + ((0 : Nat) : Int) * (-1)).toNat = m := by omega
    rw [List.range_succ_eq_map, List.filterMap_cons, List.filterMap_map, List.take_add_one, List.reverse_append, e0, hg]
    have e1 : ((fun (k : Nat) => xs[(((m + 1 : Nat) : Int) - 1 + (k : Int) * (-1)).toNat]?) ∘ Nat.succ) = fun (k : Nat) => xs[((m : Int) - 1 + (k : Int) * (-1)).toNat]? := by
      funext k
      show xs[(((m + 1 : Nat) : Int) - 1 + ((k + 1 : Nat) : Int) * (-1)).toNat]? = _
      congr 1
      omega
    rw [e1, ih]
    rfl
section
variable {prog : Program} {w : World} {A : Around} {E : Value → Shared → Prop} {s : Shared}
theorem applied_back {sl : Addr} {vl vu vk : Value} {lo : Option Int} {n m : Nat} {Q : Int × Int × Nat → Shared → Prop} (hs : s.heap.IsSliceOf sl vl vu vk) (pl : IsPart vl lo) (pu : IsPart vu none) (pk : IsPart vk (some (-1)))
    (hm : Builtin.Slice.sliceAdjust lo none (-1) (n : Int) = ((m : Int) - 1, -1)) (h : Q ((m : Int) - 1, -1, m) s) : wpAny (model prog w) A (Builtin.Slice.sliceApplied (.ref sl) (pure (n : Int))) Q E s := by
  obtain ⟨os, o1, o2, o3⟩ := id hs
  unfold Builtin.Slice.sliceApplied
  unfold Builtin.Slice.sliceFields
  refine wpAny_bind (wpAny_bind (wpAny_field o1 o3 (x := vl) rfl ?_))
  refine wpAny_bind (wpAny_field o1 o3 (x := vu) rfl ?_)
  refine wpAny_bind (wpAny_field o1 o3 (x := vk) rfl (wpAny_pure ?_))
  refine wpAny_bind (HT.slicePart_ pk ?_)
  show wpAny _ _ (if ((-1 : Int) == 0) = true then _ else _) _ _ s
  rw [if_neg (by decide)]
  refine wpAny_bind (HT.slicePart_ pl ?_)
  refine wpAny_bind (HT.slicePart_ pu ?_)
  refine wpAny_bind (wpAny_pure ?_)
  show wpAny _ _ (match Builtin.Slice.sliceAdjust lo none (-1) (n : Int) with | (a, b) => pure (a, (-1 : Int), Builtin.Slice.slicePlaces a b (-1))) _ _ s
  rw [hm]
  show wpAny _ _ (pure (((m : Int) - 1), (-1 : Int), Builtin.Slice.slicePlaces ((m : Int) - 1) (-1) (-1))) _ _ s
  rw [places_back]
  exact wpAny_pure h
theorem item_back {t sl : Addr} {its : Array Value} {vl vu vk : Value} {lo : Option Int} {m : Nat} {Q : Value → Shared → Prop} (ht : IsTup s.heap t its) (hs : s.heap.IsSliceOf sl vl vu vk) (pl : IsPart vl lo) (pu : IsPart vu none) (pk : IsPart vk (some (-1)))
    (hm : Builtin.Slice.sliceAdjust lo none (-1) (its.size : Int) = ((m : Int) - 1, -1)) (hl : m ≤ its.size) (hz : its.size ≤ sizeLine)
    (h : Q (.ref s.heap.objs.size) { s with heap := s.heap.push { cls := .type "tuple", data := .seq (its.toList.take m).reverse.toArray } }) : wpAny (model prog w) A (getItem (.ref t) (.ref sl)) Q E s := by
  have fits : sizeOk (.seq (its.toList.take m).reverse.toArray) := by
    show (its.toList.take m).reverse.toArray.size ≤ sizeLine
    rw [List.size_toArray, List.length_reverse, List.length_take, Array.length_toList]
    omega
  obtain ⟨os, o1, o2, o3⟩ := id hs
  have isS : s.TypeIs (.ref sl) "slice" := ⟨os, o1, o2⟩
  unfold getItem
  try with_reducible refine wpAny_holding ?_
  try refine wpAny_bind (wpAny_pure ?_)
  refine wpAny_bind <| wpAny_sequenceKey ht.typeIs (by decide) ?_
  refine wpAny_bind <| wpAny_callSpecial?_slot (name := Str.ofString "__getitem__") ht.typeIs slot_tuple_getitem ?_
  refine wpAny_call_entry slot_tuple_getitem ht.typeIs entry_tuple_getitem ?_ (args_tuple_getitem _ _)
  show wpAny _ _ (Builtin.Tuple.tupleItemsOf (Value.ref t) >>= _) _ _ s
  refine wpAny_bind <| tupleItemsOf_ ht ?_
  refine wpAny_bind <| wpAny_typeOf isS ?_
  rw [if_pos (by decide)]
  refine wpAny_bind <| applied_back hs pl pu pk hm ?_
  have nw : ¬ ((((m : Int) - 1 == 0) && ((-1 : Int) == 1) && (m == its.size)) = true) := by
    intro z
    rw [Bool.and_eq_true, Bool.and_eq_true] at z
    exact absurd z.1.2 (by decide)
  show wpAny _ _ (if ((((m : Int) - 1 == 0) && ((-1 : Int) == 1) && (m == its.size)) = true) then _ else _) _ _ s
  rw [if_neg nw]
  have ep : (List.range m).filterMap (fun (k : Nat) => its[((m : Int) - 1 + (k : Int) * (-1)).toNat]?) = (its.toList.take m).reverse := by
    rw [← pick_back its.toList m (by rw [Array.length_toList]; exact hl)]
    congr 1
    funext k
    rw [Array.getElem?_toList]
  rw [ep]
  first
    | exact wpAny_bind (m := Builtin.Tuple.tupleExact _) (wpAny_newObj_type (wpAny_pure ⟨_, rfl, wpAny_pure h⟩) fits)
    | exact wpAny_bind (wpAny_bind (m := Builtin.Tuple.tupleExact _) (wpAny_newObj_type (wpAny_pure (wpAny_pure ⟨_, rfl, wpAny_pure h⟩)) fits))
    | exact wpAny_bind (wpAny_bind (m := Builtin.Tuple.tupleExact _) (wpAny_newObj_type (wpAny_pure ⟨_, rfl, wpAny_pure h⟩) fits))
    | exact wpAny_bind (m := Builtin.Tuple.tupleExact _) (wpAny_newObj_type (wpAny_bind (wpAny_pure (wpAny_pure ⟨_, rfl, wpAny_pure h⟩))) fits)
end
section
variable {X : Cx}
def tStepT (K : PySem.W.Frag) (te : TE) (tl th tk : TO) : TE := fun σ H Q => te σ H fun x H1 => tl σ H1 fun l H2 => th σ H2 fun u H3 => tk σ H3 fun o H4 => u = none ∧ o = some (-1) ∧ ∃ a xs m, x = .ref a ∧ SqT K H4 a xs ∧
  Builtin.Slice.sliceAdjust l none (-1) ((xs.length : Nat) : Int) = (((m : Nat) : Int) - 1, -1) ∧ m ≤ xs.length ∧ ∀ p, H4 p = none → Q (.ref p) (upd H4 p (.tup (xs.take m).reverse))
theorem pe_stepT {e : Expr} {te : TE} {lo hi : Option Expr} {st : Expr} {tl th tk : TO} {p3 pos : Pos} (he : PE X e te) (hl : PO X lo tl) (hh : PO X hi th) (hk : PO X (some st) tk) : PE X (.Subscript e (.Slice lo hi (some st) p3) pos) (tStepT X.K te tl th tk) := by
  refine ⟨fun pins s σ H Q I h => ?_⟩
  refine Subscript_ <| thn (he.run pins s σ H _ I h) fun v s1 ⟨x, H1, I1, r1, q1⟩ => ?_
  refine wpAny_Slice <| thn (hl.run pins s1 σ H1 _ I1 q1) fun vl s2 ⟨l, H2, I2, pl, q2⟩ => ?_
  refine thn (hh.run pins s2 σ H2 _ I2 q2) fun vu s3 ⟨u, H3, I3, pu, q3⟩ => ?_
  refine thn (hk.run pins s3 σ H3 _ I3 q3) fun vk s4 ⟨o, H4, I4, pk, q4⟩ => ?_
  obtain ⟨eu, eo, a, xs, m, ex, hx, hm, hl, q⟩ := q4
  subst ex eu eo
  cases r1
  have I5 : Inv X pins σ H4 { s4 with heap := s4.heap.push { cls := .type "slice", data := .fields #[vl, vu, vk] } } := I4.kept (t' := s4.toks) fun b ob z => Heap.get?_push_of_some _ z
  obtain ⟨its, rv, ht, hz⟩ := I5.tuple hx
  have len := rv.length
  show wpAny (model X.prog X.w) X.A (subscriptTail e (.Slice lo hi (some st) p3) (.ref a) (.ref s4.heap.objs.size)) (EP X pins σ Q) X.xe { s4 with heap := s4.heap.push { cls := .type "slice", data := .fields #[vl, vu, vk] } }
  refine tail_any (ops := [.ref a, .ref s4.heap.objs.size]) ht.typeIs (slot_tuple_getitem.lookup) ?_ (by with_unfolding_all rfl)
  refine item_back ht (Heap.IsSliceOf.new _ vl vu vk) pl pu pk (m := m) (by rw [List.size_toArray, ← len]; exact hm) (by rw [List.size_toArray, ← len]; exact hl) (by rw [List.size_toArray, ← len]; exact hz) ?_
  refine ⟨.ref _, _, I5.laid (t' := s4.toks) (o := .tup (xs.take m).reverse) (fun b ob z => Heap.get?_push_of_some _ z) (Nat.le_refl _) ?_, rfl, q _ (I5.hok.fresh (Nat.le_refl _))⟩
  exact ⟨by rw [List.length_reverse, List.length_take]; omega, _, (rv.take m).reverse, IsTup.new _ _⟩
end
variable [G : Sprs] {K : PySem.W.Frag} {ρ : Env}
theorem e_stepT {te : TE} {tl th tk : TO} {ds : List PyData} {lo : Option Int} {m : Nat} (h : EvD K te ρ (.tuple ds)) (hl : EvO K tl ρ lo) (hh : EvO K th ρ none) (hk : EvO K tk ρ (some (-1)))
    (hm : Builtin.Slice.sliceAdjust lo none (-1) ((ds.length : Nat) : Int) = (((m : Nat) : Int) - 1, -1)) (hle : m ≤ ds.length) : EvD K (tStepT K te tl th tk) ρ (.tuple (ds.take m).reverse) := fun S σ H Q hd he hq =>
  h S σ H _ hd he fun x H1 s1 r1 => hl S σ H1 _ (hd.same s1) (he.same s1) fun H2 s2 => by
    have s12 := s1.trans s2
    refine hh S σ H2 _ (hd.same s12) (he.same s12) fun H3 s3 => ?_
    have s13 := s12.trans s3
    refine hk S σ H3 _ (hd.same s13) (he.same s13) fun H4 s4 => ?_
    have s := s13.trans s4
    obtain ⟨a, xs, e, ha, rx⟩ := (r1.same (hid_same ((s2.trans s3).trans s4))).tupE
    refine ⟨rfl, rfl, a, xs, m, e, sqT_same hid_sub ha, by rw [rx.len]; exact hm, by rw [rx.len]; exact hle, fun p hp => ?_⟩
    exact hq _ _ (s.trans (same_new hp)) (.tup (.inl (.inl (hid_at upd_same ((hd.same s).fresh hp)))) (((rx.take m).rev).same (hid_same (same_new hp))))
omit G in
theorem adj_none (n : Nat) : Builtin.Slice.sliceAdjust none none (-1) (n : Int) = ((n : Int) - 1, -1) := rfl
omit G in
theorem adj_two (n : Nat) (h : 1 ≤ n) : Builtin.Slice.sliceAdjust (some (-2)) none (-1) (n : Int) = (((n - 1 : Nat) : Int) - 1, -1) := by
  show (((if (-2 : Int) < 0 then max (-2 + (n : Int)) (-1) else min (-2) ((n : Int) - 1)) : Int), (-1 : Int)) = _
  rw [if_pos (by decide)]
  congr 1
  omega

end Dx
namespace Dx
open PySem PySem.Spec L2
open PyProof.Rows hiding St

/-! ### a def's promise where no repr is under way around it -/
def Clr (A : Around) : Prop := A.guards = some []
structure FnG (P : Program) (w : World) (K : PySem.W.Frag) (mg : Str → Option Value) (base : Heap) (CX : CXT) (k : Nat) (f : Addr) (fd : FuncData) (ps : List Str) (sp : Sp) : Prop where
  ln : ∀ xs H Q E, sp xs H Q E → xs.length = ps.length
  go : ∀ (A : Around) (out : List PySem.Env) (s : Shared) (H : Hp) (ar : Args) (us : List Value) (xs : List V) (Q : VK) (E : XK), Clr A → Room k A → Env0 P w K mg base A out s H →
    BindsTo s fd ar (ps.zip us) → Vals xs us → sp xs H Q E → codeAny (model P w) A (.call (.ref f) ar) (CR CX out P w H s Q E) s
theorem FnG.imp {P : Program} {w : World} {K : PySem.W.Frag} {mg : Str → Option Value} {base : Heap} {CX : CXT} {k : Nat} {f : Addr} {fd : FuncData} {ps : List Str} {sp sp' : Sp} (F : FnG P w K mg base CX k f fd ps sp)
    (h : ∀ xs H Q E, sp' xs H Q E → sp xs H Q E) : FnG P w K mg base CX k f fd ps sp' :=
  ⟨fun xs H Q E z => F.ln xs H Q E (h _ _ _ _ z), fun A out s H ar us xs Q E c r e b v z => F.go A out s H ar us xs Q E c r e b v (h _ _ _ _ z)⟩
section
variable {P : Program} {w : World} {K : PySem.W.Frag} {mg : Str → Option Value} {base : Heap} {CX : CXT}
/-- by the def's body -/
theorem Fun.okG {x qual : Str} {st : Stmt} {f : Addr} {fd : FuncData} {N ps : List Str} {k : Nat} {sp : Sp} (F : Fun K x qual st f fd) (Sc : FnScope N ps (defScope st)) (ln : ∀ xs H Q E, sp xs H Q E → xs.length = ps.length)
    (body : ∀ (cdv : Value) (A : Around) (out : List PySem.Env) (s : Shared) (H : Hp) (xs : List V) (Q : VK) (E : XK), Clr (A.deeper (envOfC qual (defScope st) s.heap.objs.size f cdv)) → Room k (A.deeper (envOfC qual (defScope st) s.heap.objs.size f cdv)) → sp xs H Q E →
      ∃ t, PSs (cxOf CX P w K mg base N qual (defScope st) f cdv A out s H E) (defBody st) t ∧ t { nx := fun _ H' => Q .non H', rt := Q } (L2.start N xs) H) : FnG P w K mg base CX (k + 1) f fd ps sp := by
  obtain ⟨oc, od, kV, doc, pm, an, cdv, ct, osl, rfl, lk, hcd⟩ := F.ex
  refine ⟨ln, fun A out s H ar us xs Q E clr room env bind vals z => ?_⟩
  have keep : ∀ b o, base.get? b = some o → s.heap.get? b = some o := fun b o e => (env.bs b o e).1
  have KX := env.mod.kin.keeps keep
  have NL := env.mod.nolimit.keeps keep
  have kinds : ∀ y ∈ ps.zip us, (defScope st).names.lookup y.1 = some .local ∨
      ((defScope st).names.lookup y.1 = some .cell ∧ ((cellsFrom (s.heap.objs.size + 1) (defScope st).names []).lookup y.1).isSome = true) := by
    rintro ⟨n, v⟩ hy
    refine (Sc.par n (List.of_mem_zip hy).1).imp id fun q => ⟨q, ?_⟩
    exact PySem.W.cellsFrom_some _ _ _ (Or.inl q)
  refine codeAny_call_function room.depth (KX _ _ lk) rfl Sc.co Sc.gen rfl (PySem.W.codeRec_of KX hcd) (bind _ _ _ _ ?_)
  refine wpAny_newFunctionEnv_cells Sc.kind kinds fun ev hev s1 fresh => ?_
  subst hev
  refine ⟨NL.keeps fresh.toInCall.keep, codeAny_func ?_⟩
  obtain ⟨t, run, wish⟩ := body cdv A out s H xs Q E clr (room.deeper _) z
  have I0 : Inv (cxOf CX P w K mg base N qual (defScope st) f cdv A out s H E) [] (L2.start N xs) H s1 :=
    inv_start Sc room.hd env (ln _ _ _ _ z) vals fresh
  refine wpAny_mono (run.run [] s1 (L2.start N xs) H _ I0 wish) (fun fl s' got => ?_) (fun _ _ got => got)
  cases fl with
  | next =>
    obtain ⟨σ', H', J, q⟩ := got
    exact ⟨.non, H', J.os, J.bare, J.base, J.hok, rfl, q⟩
  | ret u =>
    obtain ⟨v, σ', H', J, rv, q⟩ := got
    exact ⟨v, H', J.os, J.bare, J.base, J.hok, rv, q⟩
  | brk =>
    obtain ⟨_, _, _, q⟩ := got
    cases q
  | cont =>
    obtain ⟨_, _, _, q⟩ := got
    cases q
end
section
variable {X : Cx} {CX : CXT} {k : Nat} {f : Addr} {fd : FuncData} {ps : List Str} {sp : Sp} {E : XK} {x : Str} {p pos : Pos} {e : Expr} {es : List Expr} {t : TA}
/-- f(e, ..) -/
theorem pe_callG (F : FnG X.prog X.w X.K X.mg X.base CX k f fd ps sp) (clr : Clr X.A) (room : Room k X.A) (gl : Gl X x) (at_ : X.mg x = some (.ref f)) (kp : PySem.W.keepIn X.K (.ref f) = true) (bd : Binds X.K fd ps []) (pass : Passes CX X E)
    (ha : PA X (e :: es) t) (nodbg : (x == ("__debug__" : Str)) = false := by decide) (st1 : starEach (e :: es) X.env = (false, eval e X.env) :: starEach es X.env := by rfl) (st2 : (backTo pos (starEach es X.env)).any (·.1) = false := by rfl) :
    PE X (.Call (.Name x p) (e :: es) [] pos) (tCall sp [] E t) := by
  refine ⟨fun pins s σ H Q I h => wpAny_Call_Name_kw (ld_glob I gl at_ ?_ nodbg)⟩
  refine PySem.W.callWith_K (h₀ := X.base) I.ok.mod.kin kp (thn (ha.run pos pins s σ H _ I h) fun us s1 ⟨xs, H1, I1, rv, z⟩ => ⟨I1.kIn, ?_⟩) st1 st2
  have z' : sp xs H1 Q E := by
    have z0 : sp (xs ++ []) H1 Q E := z
    rwa [List.append_nil] at z0
  have len : us.length = ps.length := by
    rw [← rv.length]
    exact F.ln _ _ _ _ z'
  have bd1 := bd s1 us I1.kIn (by rw [List.append_nil]; exact len)
  rw [List.append_nil] at bd1
  refine wpAny_call (codeAny_mono (F.go X.A X.stack s1 H1 ⟨us, []⟩ us xs Q E clr room I1.env0 bd1 rv z') fun r s' got => ?_)
  cases r with
  | error err => exact pass pins σ H1 s1 err s' I1 got
  | ok fl =>
    cases fl with
    | ret u => exact I1.after got
    | next => cases got
    | brk => cases got
    | cont => cases got
end

/-! ### repr of data -/
section
variable {X : Cx}
def rRepr (K : PySem.W.Frag) : List V → Hp → VK → Prop := fun xs H Q => ∃ a d, xs = [.ref a] ∧ Dp K H (.ref a) d ∧ d.showable = true ∧ d.hasDict = false ∧ d.depth ≤ 60 ∧ d.shown.length ≤ sizeLine ∧ Q (.str d.shown) H
theorem cr_repr {k : Nat} (clr : Clr X.A) (room : Room k X.A) : CallR X (.builtin "repr") (rRepr X.K) := by
  intro pins s σ H xs us Q I rv h
  obtain ⟨a, d, rfl, hd, h1, h2, h3, h4, q⟩ := h
  rw [Vals.ref1 rv]
  obtain ⟨as, rd⟩ := Dp.reads I d (.ref a) (.ref a) hd rfl
  refine repr_of_reads' rd h1 (PyData.noDict_hsm h2) clr (by have := room.un; omega) (fun _ _ z => z) (fun h' u tk z => ?_) h4
  exact ⟨.str d.shown, H, I.kept z, ⟨_, rfl⟩, q⟩
end

/-! ### the law's def, called by the row -/
section
variable {P : Program} {w : World} {K : PySem.W.Frag} {mg mb : Str → Option Value} {k : Nat} {fa a : Addr} {fd : FuncData} {x : Str} {sp : Sp} {s₁ : Shared} {ws : List Value} {ns : List Int}
/-- the heap in which the script alone is tracked (where the top has not written it) -/
def scrH (K : PySem.W.Frag) (a : Addr) (ws : List Value) (ns : List Int) : Hp := fun b => if b = a ∧ K.lookup a = none then some (.frz { cls := .type "list", data := .seq ws.toArray } (.lst (ns.map V.int))) else none
theorem scrH_none {b : Addr} (h : b ≠ a) : scrH K a ws ns b = none := if_neg fun z => h z.1
theorem scrH_some {b : Addr} {o : HO} (h : scrH K a ws ns b = some o) : b = a ∧ K.lookup a = none ∧ o = .frz { cls := .type "list", data := .seq ws.toArray } (.lst (ns.map V.int)) := by
  unfold scrH at h
  by_cases c : b = a ∧ K.lookup a = none
  · rw [if_pos c] at h
    exact ⟨c.1, c.2, (Option.some.inj h).symm⟩
  · rw [if_neg c] at h
    cases h
theorem scr_only : Only (scrH K a ws ns) := fun b => by
  cases e : scrH K a ws ns b with
  | none => exact .inl rfl
  | some o => exact .inr ⟨_, _, by rw [(scrH_some e).2.2]⟩
theorem lawG_call (KX : K.In s₁.heap) (nsm : s₁.heap.Ns mainGlobals mg) (nsb : s₁.heap.Ns builtinsNs mb) (bb : ∀ y : Str, y ≠ "__name__" → mb y = bootBuiltins y) (nl : s₁.heap.NoLimit) (ng : s₁.gens = #[])
    (isl : s₁.heap.get? a = some { cls := .type "list", data := .seq ws.toArray }) (hi : IntsAre ws ns) (len : ns.length ≤ sizeLine) (room : Room k callerA)
    (F : ∀ base : Heap, K.In base → base.Ns mainGlobals mg → FnG P w K mg base CX0 k fa fd [x] sp) (bd : ∀ (s : Shared) (u : Value), BindsTo s fd ⟨[u], []⟩ [(x, u)])
    (wish : ∀ H : Hp, Only H → SqL K H a (ns.map V.int) → sp [.ref a] H (fun v _ => v = .bl true) fun _ _ _ => False) :
    codeAny (model P w) callerA (.call (.ref fa) ⟨[.ref a], []⟩) (fun r s' => r = .ok (.ret (.bool true)) ∧ OldK s₁.heap s'.heap ∧ s'.os = s₁.os ∧ AllBare s'.gens) s₁ := by
  have rv := vals_ints hi
  have eqlen := hi.length
  -- what the heap of the abstract entry hides
  have back : ∀ {b : Addr} {o : Obj}, s₁.heap.get? b = some o → scrH K a ws ns b = none → (hidT s₁.heap (scrH K a ws ns)).get? b = some o := fun e z => hidT_get e z
  have dictOut : ∀ {b : Addr} {o : Obj} {es : Array DictEntry} {ep : Nat}, s₁.heap.get? b = some o → o.data = .dict es ep → scrH K a ws ns b = none := by
    intro b o es ep e d
    refine scrH_none fun z => ?_
    rw [z, isl] at e
    cases e
    cases d
  have nsBack : ∀ {b : Addr} {m : Str → Option Value}, s₁.heap.Ns b m → (hidT s₁.heap (scrH K a ws ns)).Ns b m := by
    rintro b m ⟨o, es, ep, e, d, r⟩
    exact ⟨o, es, ep, back e (dictOut e d), d, r⟩
  have kBack : K.In (hidT s₁.heap (scrH K a ws ns)) := fun b o e => back (KX b o e) (by
    cases q : scrH K a ws ns b with
    | none => rfl
    | some u =>
      obtain ⟨z1, z2, _⟩ := scrH_some q
      rw [z1, z2] at e
      cases e)
  have held : HOk P w (scrH K a ws ns) s₁.heap := fun b o e => by
    obtain ⟨z1, z2, z3⟩ := scrH_some e
    subst z1 z3
    exact ⟨isl, by rw [List.length_map]; exact len, ws, _, rv, isl⟩
  have md : Mod K mg (hidT s₁.heap (scrH K a ws ns)) := by
    obtain ⟨mc, c1, c2⟩ := nl
    exact ⟨kBack, nsBack nsm, ⟨mb, nsBack nsb, bb⟩, ⟨mc, nsBack c1, c2⟩⟩
  have env : Env0 P w K mg (hidT s₁.heap (scrH K a ws ns)) callerA [] s₁ (scrH K a ws ns) :=
    ⟨rfl, md, fun b o e => of_hidT e, Nat.le_of_eq (hidT_size _ _), trivial, fun b z => (by cases z), held, .of_eq ng⟩
  have seen : SqL K (scrH K a ws ns) a (ns.map V.int) := by
    cases q : K.lookup a with
    | none => exact .inl (.inr ⟨_, if_pos ⟨rfl, q⟩⟩)
    | some o =>
      have e := KX a o q
      rw [isl] at e
      cases e
      exact .inr ⟨_, ws.toArray, _, q, rfl, rfl, rfl, by rw [List.size_toArray, eqlen]; exact len, by simpa using rv⟩
  refine codeAny_mono ((F _ kBack (nsBack nsm)).go callerA [] s₁ _ ⟨[.ref a], []⟩ [.ref a] [.ref a] _ _ rfl room env (bd s₁ (.ref a)) (.cons rfl .nil) (wish _ scr_only seen)) fun r s' got => ?_
  cases r with
  | error err => cases got
  | ok fl =>
    cases fl with
    | next => cases got
    | brk => cases got
    | cont => cases got
    | ret u =>
      obtain ⟨v, H', os, bare, un, hok', ru, hv⟩ := got
      have hv' : v = .bl true := hv
      subst hv'
      obtain rfl : u = Value.bool true := ru
      refine ⟨rfl, OldK.of_keep fun b o e => ?_, os, bare⟩
      cases q : scrH K a ws ns b with
      | none => exact un.keep b o e q (fun z => by cases z) (fun z => by cases z)
      | some u =>
        obtain ⟨z1, z2, z3⟩ := scrH_some q
        subst z1 z3
        have g := (hok' b _ (un.frzs b _ _ q)).1
        rw [isl] at e
        cases e
        exact g
end
theorem walkG_of {l : PySem.W.OpenLaw} {n k : Nat} {q : Program} {loose : List Str} {XP : (Str → Option Value) → Heap → Prop} {YP : World → Heap → Prop} {d : DefRec} {K : Params → PySem.W.Frag} {sp : PySem.W.Frag → Sp} {x : Str}
    (most : l.most = some n) (n2 : n ≤ sizeLine) (nodef : d.params.defaults = []) (room : Room k callerA) (hY : ∀ (w : World) (h : Heap), YP w h → (K w.params).In h)
    (F : ∀ (w : World) (mg : Str → Option Value) (fa : Addr) (h : Heap), (K w.params).In h → h.Ns mainGlobals mg → mg d.name = some (.ref fa) →
      ∃ fd : FuncData, (∀ (s : Shared) (u : Value), BindsTo s fd ⟨[u], []⟩ [(x, u)]) ∧
        ∀ base : Heap, (K w.params).In base → base.Ns mainGlobals mg → FnG l.prog w (K w.params) mg base CX0 k fa fd [x] (sp (K w.params)))
    (wish : ∀ (K : PySem.W.Frag) (H : Hp) (a : Addr) (ns : List Int), ns.length ≤ n → Only H → SqL K H a (ns.map V.int) → sp K [.ref a] H (fun v _ => v = .bl true) fun _ _ _ => False) :
    PySem.W.WalkO q loose XP YP l.row.toRowW d [] (fun f vs => PySem.call f vs) := by
  refine Att.attach_call most nodef fun w s₀ s₁ mg mb fa o pm cd doc a ws ns G Y ho hd hcd hmg hobj hints hlen hg => ?_
  have KX := hY w _ Y
  obtain ⟨fd, b1, b2⟩ := F w mg fa _ KX G.T.g hmg
  exact lawG_call KX G.T.g G.T.b G.T.builtins G.T.nolimit hg hobj hints (Nat.le_trans hlen n2) room b2 b1 fun H z1 z2 => wish _ H a ns hlen z1 z2

/-! ### over data -/
variable {K : PySem.W.Frag} {ρ : Env}
theorem fnG_ok {Pg : Program} {w : World} {mg : Str → Option Value} {base : Heap} {x qual : Str} {st : Stmt} {f : Addr} {fd : FuncData} {N ps : List Str} {k : Nat} {pre : List PyData → Prop} {g : List PyData → PyData}
    (F : Fun K x qual st f fd) (Sc : FnScope N ps (defScope st)) (len : ∀ ds, pre ds → ds.length = ps.length)
    (hbody : ∀ (cdv : Value) (A : Around) (out : List PySem.Env) (s : Shared) (H : Hp) (E : XK), Clr (A.deeper (envOfC qual (defScope st) s.heap.objs.size f cdv)) → Room k (A.deeper (envOfC qual (defScope st) s.heap.objs.size f cdv)) →
      ∃ t, PSs (cxOf CX0 Pg w K mg base N qual (defScope st) f cdv A out s H E).nox (defBody st) t ∧ ∀ [Sprs] (ds : List PyData), pre ds → ExD K t (startE N ds) { nx := fun _ => g ds = .none, rt := fun d => d = g ds }) : FnG Pg w K mg base CX0 (k + 1) f fd ps (spD K pre g) := by
  refine Fun.okG F Sc (fun vs H Q E h => ?_) fun cdv A out s H vs Q E clr hr h => ?_
  · obtain ⟨G, S, ds, _, r, hp, _⟩ := h
    rw [r.len]
    exact len ds hp
  · obtain ⟨G, S, ds, hd, r, hp, hQ⟩ := h
    obtain ⟨t, ht, hx⟩ := hbody cdv A out s H E clr hr
    refine ⟨t, ht.nox, hx ds hp S [] H _ _ H hd (start_ok r) ⟨fun O ρ σ H' h st => ?_, fun d v H' h s r => ?_, fun _ _ _ _ h => h.elim, fun _ _ _ _ h => h.elim, fun _ _ _ _ h => h.elim⟩⟩
    · refine hQ _ _ st.sm ?_
      rw [h]
      exact .non
    · rw [h] at r
      exact hQ v H' s r
/-- a promise of a new list -/
def spF (K : PySem.W.Frag) (pre : List PyData → Prop) (f : List PyData → List PyData) : Sp := fun vs H Q _ =>
  ∃ (_ : Sprs) (S : List Addr) (ds : List PyData), Dom H S ∧ RpAll K (hid H S) vs ds ∧ pre ds ∧ ∀ p H' xs, SameG H H' → H p = none → H' p = some (.lst xs) → RpAll K (hid H' (p :: S)) xs (f ds) → Q (.ref p) H'
theorem fnF_ok {Pg : Program} {w : World} {mg : Str → Option Value} {base : Heap} {x qual : Str} {st : Stmt} {f : Addr} {fd : FuncData} {N ps : List Str} {k : Nat} {pre : List PyData → Prop} {g : List PyData → List PyData}
    (F : Fun K x qual st f fd) (Sc : FnScope N ps (defScope st)) (len : ∀ ds, pre ds → ds.length = ps.length)
    (hbody : ∀ (cdv : Value) (A : Around) (out : List PySem.Env) (s : Shared) (H : Hp) (E : XK), Clr (A.deeper (envOfC qual (defScope st) s.heap.objs.size f cdv)) → Room k (A.deeper (envOfC qual (defScope st) s.heap.objs.size f cdv)) →
      ∃ t, PSs (cxOf CX0 Pg w K mg base N qual (defScope st) f cdv A out s H E).nox (defBody st) t ∧ ∀ [Sprs] (ds : List PyData), pre ds → ExD K t (startE N ds) { nx := fun _ => False, rf := fun l => l = g ds }) : FnG Pg w K mg base CX0 (k + 1) f fd ps (spF K pre g) := by
  refine Fun.okG F Sc (fun vs H Q E h => ?_) fun cdv A out s H vs Q E clr hr h => ?_
  · obtain ⟨G, S, ds, _, r, hp, _⟩ := h
    rw [r.len]
    exact len ds hp
  · obtain ⟨G, S, ds, hd, r, hp, hQ⟩ := h
    obtain ⟨t, ht, hx⟩ := hbody cdv A out s H E clr hr
    refine ⟨t, ht.nox, hx ds hp S [] H _ _ H hd (start_ok r) ⟨fun _ _ _ _ h => h.elim, fun _ _ _ h => h.elim, fun _ _ _ _ h => h.elim, fun _ _ _ _ h => h.elim, fun l p xs H' h s n z r => ?_⟩⟩
    rw [h] at r
    exact hQ p H' xs s n z r
theorem f_call [G : Sprs] {pre : List PyData → Prop} {f : List PyData → List PyData} {E : XK} {t : TA} {ds : List PyData} (h : EvL K t ρ ds) (hp : pre ds) : EvF K (tCall (spF K pre f) [] E t) ρ (f ds) := fun S σ H Q hd he hq =>
  h S σ H _ hd he fun xs H1 s1 r1 => by
    show spF K pre f (xs ++ []) H1 Q E
    rw [List.append_nil]
    exact ⟨G, S, ds, hd.same s1, r1, hp, fun p H' ys s n z r => hq p H' ys (s1.trans s) (s1.free n) z r⟩
def spLaw (K : PySem.W.Frag) : Sp := fun vs H Q _ => ∃ (a : Addr) (ns : List Int), vs = [.ref a] ∧ SqL K H a (ns.map V.int) ∧ Only H ∧ ns.length ≤ 63 ∧ ∀ H', Q (.bl true) H'
theorem lawG_ok {Pg : Program} {w : World} {mg : Str → Option Value} {base : Heap} {f : Addr} {fd : FuncData} {k : Nat} {g : List PyData → PyData}
    (F : FnG Pg w K mg base CX0 k f fd ["script"] (spD K (fun ds => ∃ ns : List Int, ds = [scrD ns] ∧ ns.length ≤ 63) g)) (hg : ∀ ns : List Int, ns.length ≤ 63 → g [scrD ns] = .bool true) :
    FnG Pg w K mg base CX0 k f fd ["script"] (spLaw K) := by
  refine F.imp (fun vs H Q E h => ?_)
  obtain ⟨a, ns, rfl, hS, hO, hl, q⟩ := h
  have hs : ScrAt K H a (ns.map V.int) := by
    rcases hS with (z | ⟨o, z⟩) | z
    · rcases hO a with y | ⟨o, xs, y⟩
      · rw [y] at z
        cases z
      · rw [y] at z
        cases z
    · exact .inl ⟨o, z⟩
    · exact .inr z
  letI : Sprs := ⟨[]⟩
  refine ⟨⟨[]⟩, [], [scrD ns], ⟨fun a h => (by cases h), fun a h => (by cases h)⟩, RpAll.cons (Rp.scr ?_) RpAll.nil, ⟨ns, rfl, hl⟩, fun v H' s r => ?_⟩
  · have hh : hid H [] = H := by
      funext b
      unfold hid
      rw [if_neg (fun z => by rcases z with z | z <;> cases z)]
    rw [hh]
    exact hs
  · rw [hg ns hl] at r
    rw [r.blEq]
    exact q H'
theorem isRef [G : Sprs] {H : Hp} {v : V} {d : PyData} (r : Rp K H v d) (h : scalD d = false) : ∃ a, v = .ref a := by
  cases r <;> first | exact ⟨_, rfl⟩ | cases h
theorem cb_repr [G : Sprs] {t : TA} {d : PyData} (h : EvL K t ρ [d]) (h0 : scalD d = false) (hx : noX d = true) (h1 : d.showable = true) (h2 : d.hasDict = false) (h3 : d.depth ≤ 60) (h4 : d.shown.length ≤ sizeLine) : EvD K (tCB (rRepr K) t) ρ (.str d.shown) := fun S σ H Q hd he hq =>
  h S σ H _ hd he fun xs H1 s1 r1 => by
    cases r1 with
    | cons r1 r2 =>
      cases r2
      obtain ⟨a, e⟩ := isRef r1 h0
      subst e
      exact ⟨a, d, rfl, (r1.same hid_sub).dp hx, h1, h2, h3, h4, hq _ _ s1 (.str _)⟩
end Dx
namespace Dx
open PySem PySem.Spec L2
open PyProof.Rows hiding St
variable [G : Sprs] {K : PySem.W.Frag} {ρ : Env}

/-! ### sorted(set(xs)) of ints -/
def ins (x : Int) : List Int → List Int
  | [] => [x]
  | y :: r => if x < y then x :: y :: r else if x = y then y :: r else y :: ins x r
def usort : List Int → List Int
  | [] => []
  | x :: r => ins x (usort r)
omit G in
theorem mem_ins {x z : Int} : ∀ {l : List Int}, z ∈ ins x l ↔ z = x ∨ z ∈ l
  | [] => by simp [ins]
  | y :: r => by
    unfold ins
    split
    · simp
    · split
      · rename_i h
        subst h
        simp
      · rw [List.mem_cons, mem_ins, List.mem_cons]
        constructor
        · rintro (h | h | h)
          · exact .inr (.inl h)
          · exact .inl h
          · exact .inr (.inr h)
        · rintro (h | h | h)
          · exact .inr (.inl h)
          · exact .inl h
          · exact .inr (.inr h)
omit G in
theorem mem_usort {z : Int} : ∀ {l : List Int}, z ∈ usort l ↔ z ∈ l
  | [] => Iff.rfl
  | x :: r => by
    unfold usort
    rw [mem_ins, mem_usort, List.mem_cons]
omit G in
theorem ins_sorted {x : Int} : ∀ {l : List Int}, l.Pairwise (· < ·) → (ins x l).Pairwise (· < ·)
  | [], _ => by simp [ins]
  | y :: r, h => by
    obtain ⟨h1, h2⟩ := List.pairwise_cons.mp h
    unfold ins
    split
    · rename_i lt
      refine List.pairwise_cons.mpr ⟨fun z hz => ?_, h⟩
      rcases List.mem_cons.mp hz with e | e
      · rw [e]; exact lt
      · exact Int.lt_trans lt (h1 z e)
    · split
      · exact h
      · rename_i n1 n2
        refine List.pairwise_cons.mpr ⟨fun z hz => ?_, ins_sorted h2⟩
        rcases mem_ins.mp hz with e | e
        · rw [e]; omega
        · exact h1 z e
omit G in
theorem usort_sorted : ∀ l : List Int, (usort l).Pairwise (· < ·)
  | [] => List.Pairwise.nil
  | x :: r => ins_sorted (usort_sorted r)
omit G in
theorem sorted_ext : ∀ {l m : List Int}, l.Pairwise (· < ·) → m.Pairwise (· < ·) → (∀ z, z ∈ l ↔ z ∈ m) → l = m
  | [], [], _, _, _ => rfl
  | [], y :: m, _, _, h => by have := (h y).mpr List.mem_cons_self; cases this
  | x :: l, [], _, _, h => by have := (h x).mp List.mem_cons_self; cases this
  | x :: l, y :: m, hl, hm, h => by
    obtain ⟨a1, a2⟩ := List.pairwise_cons.mp hl
    obtain ⟨b1, b2⟩ := List.pairwise_cons.mp hm
    have exy : x = y := by
      have hx := (h x).mp List.mem_cons_self
      have hy := (h y).mpr List.mem_cons_self
      rcases List.mem_cons.mp hx with e | e
      · exact e
      · rcases List.mem_cons.mp hy with e' | e'
        · exact e'.symm
        · have := b1 x e
          have := a1 y e'
          omega
    subst exy
    rw [sorted_ext a2 b2 fun z => ?_]
    constructor
    · intro hz
      rcases List.mem_cons.mp ((h z).mp (List.mem_cons_of_mem _ hz)) with e | e
      · have := a1 z hz
        omega
      · exact e
    · intro hz
      rcases List.mem_cons.mp ((h z).mpr (List.mem_cons_of_mem _ hz)) with e | e
      · have := b1 z hz
        omega
      · exact e
omit G in
theorem ins_len {x : Int} : ∀ {l : List Int}, (ins x l).length ≤ l.length + 1
  | [] => by simp [ins]
  | y :: r => by
    unfold ins
    split
    · simp
    · split
      · simp
      · have := ins_len (x := x) (l := r)
        simp; omega
omit G in
theorem usort_len : ∀ l : List Int, (usort l).length ≤ l.length
  | [] => Nat.le_refl _
  | x :: r => by
    have h1 := usort_len r
    have h2 := ins_len (x := x) (l := usort r)
    show (ins x (usort r)).length ≤ r.length + 1
    omega
section
variable {X : Cx}
def rSetL (K : PySem.W.Frag) (w : World) : List V → Hp → VK → Prop := fun xs H Q => ∃ (a : Addr) (ns : List Int), xs = [.ref a] ∧ SqL K H a (ns.map V.int) ∧ ns.length ≤ 1000 ∧
  ∀ (p : Addr) (c : Nat), H p = none → c ≤ ns.length → Q (.ref p) (upd H p (SetO w p (fun j => decide (j ∈ ns)) c))
omit G in
theorem cr_setL (hc : X.calm = true) : CallR X (.type "set") (rSetL X.K X.w) := by
  intro pins s σ H xs us Q I rv h
  obtain ⟨a, ns, rfl, hs, hl, q⟩ := h
  rw [Vals.ref1 rv]
  obtain ⟨its, r, isl, hz⟩ := I.list hs
  refine call_setI (its := its.toArray) ns (I.ok.hd hc) isl.isList (intsAre_of r) (by show ns.length + 1 < 4096; omega) fun g t c z1 z2 z3 => ?_
  have J := I.laid (t' := t) (o := SetO X.w s.heap.objs.size (fun j => decide (j ∈ ns)) c) z3 (Nat.le_refl _) (setO_new z1)
  exact ⟨.ref _, _, J, rfl, q _ c (I.hok.fresh (Nat.le_refl _)) z2⟩
end
theorem f_sortset {w : World} {ta : TA} {ns : List Int} (h : EvL K ta ρ [.list (ns.map PyData.int)]) (hl : ns.length < 64) : EvF K (tCB (rSortedSet w) (tCons (tCB (rSetL K w) ta) tNil)) ρ ((usort ns).map PyData.int) := fun S σ H Q hd he hq =>
  h S σ H _ hd he fun xs H1 s1 r1 => by
    cases r1 with
    | cons r1 r2 =>
      cases r2
      obtain ⟨a, ys, e, ha, ry⟩ := r1.lstE
      refine ⟨a, ns, by rw [e], .inl (.inl (by rw [← ry.ints]; exact hid_sub _ _ ha)), by omega, fun p c hp hc => ?_⟩
      refine ⟨p, fun j => decide (j ∈ ns), c, rfl, upd_same, by omega, fun ms q hs hm hn hq2 => ?_⟩
      have em : ms = usort ns := sorted_ext hs (usort_sorted ns) fun z => by rw [hm, mem_usort]; simp
      subst em
      have s2 := s1.trans (same_new (o := SetO w p (fun j => decide (j ∈ ns)) c) hp)
      exact hq q _ _ (s2.trans (same_new hq2)) (s2.free hq2) upd_same (RpAll.ofInts _)

/-! ### isinstance(x, T) of data, T a built-in type -/
def tyD : PyData → String
  | .none => "NoneType"
  | .bool _ => "bool"
  | .int _ => "int"
  | .str _ => "str"
  | .list _ => "list"
  | .tuple _ => "tuple"
  | .dict _ => "dict"
theorem rp_ty {H : Hp} {S : List Addr} {v : V} {d : PyData} (r : Rp K (hid H S) v d) (hx : noX d = true) : TyX K H v (.type (tyD d)) := by
  cases r with
  | non => exact .base .non
  | bl b => exact .base (.bl b)
  | int i => exact .base (.int i)
  | str x => exact .base (.str x)
  | lst h r => exact .base (.lst (hid_sub _ _ h))
  | tup h r =>
    rcases h with (h | ⟨o, h⟩) | ⟨o, its, n, h1, h2, _⟩
    · exact .base (.tup (hid_sub _ _ h))
    · exact .fTuple (hid_sub _ _ h)
    · exact .kTuple h1 h2
  | scr h => simp [noX] at hx
  | spr h => simp [noX] at hx
  | tab h r => simp [noX] at hx
  | pt h => simp [noX] at hx
  | exc h => simp [noX] at hx
  | exp => simp [noX] at hx
theorem cb_isi {te : TE} {d : PyData} {n : String} {b : Bool} (h : EvD K te ρ d) (hx : noX d = true) (hk : kitB (tyD d) n = some b) : EvD K (tCB (rIsi K) (tCons te (tCons (tC (.ty n)) tNil))) ρ (.bool b) := fun S σ H Q hd he hq =>
  h S σ H _ hd he fun v H1 s1 r1 => ⟨v, .ty n, _, _, b, rfl, .ty n, rp_ty r1 hx, kit_ty hk, hq _ _ s1 (.bl b)⟩

/-! ### in, not in over flat items -/
def flatD : PyData → Bool
  | .none | .bool _ | .int _ | .str _ => true
  | _ => false
theorem flat_v {H : Hp} {v : V} {d : PyData} (r : Rp K H v d) (h : flatD d = true) : v = vOf d ∧ flatV v = true := by
  cases r <;> first | exact ⟨rfl, rfl⟩ | cases h
theorem flat_vs {H : Hp} : ∀ {vs : List V} {ds : List PyData}, RpAll K H vs ds → ds.all flatD = true → vs = ds.map vOf ∧ vs.all flatV = true
  | _, _, .nil, _ => ⟨rfl, rfl⟩
  | _, _, .cons h r, z => by
    rw [List.all_cons, Bool.and_eq_true] at z
    obtain ⟨a1, a2⟩ := flat_v h z.1
    obtain ⟨b1, b2⟩ := flat_vs r z.2
    exact ⟨by rw [List.map_cons, ← a1, ← b1], by rw [List.all_cons, a2, b2]; rfl⟩
theorem e_inT {ta tb : TE} {d : PyData} {ds : List PyData} {neg : Bool} (ha : EvD K ta ρ d) (hb : EvD K tb ρ (.tuple ds)) (h1 : flatD d = true) (h2 : ds.all flatD = true) : EvD K (tOp (rIn K neg) ta tb) ρ (.bool (if neg then !inV (vOf d) (ds.map vOf) else inV (vOf d) (ds.map vOf))) := fun S σ H Q hd he hq =>
  ha S σ H _ hd he fun x H1 s1 r1 => hb S σ H1 _ (hd.same s1) (he.same s1) fun y H2 s2 r2 => by
    obtain ⟨a, ys, e, ha, ry⟩ := r2.tupE
    obtain ⟨f1, f2⟩ := flat_v r1 h1
    obtain ⟨g1, g2⟩ := flat_vs ry h2
    refine ⟨a, ys, e, .inr (sqT_same hid_sub ha), f2, g2, ?_⟩
    rw [f1, g1]
    exact hq _ _ (s1.trans s2) (.bl _)
theorem e_inL {ta tb : TE} {d : PyData} {ds : List PyData} {neg : Bool} (ha : EvD K ta ρ d) (hb : EvD K tb ρ (.list ds)) (h1 : flatD d = true) (h2 : ds.all flatD = true) : EvD K (tOp (rIn K neg) ta tb) ρ (.bool (if neg then !inV (vOf d) (ds.map vOf) else inV (vOf d) (ds.map vOf))) := fun S σ H Q hd he hq =>
  ha S σ H _ hd he fun x H1 s1 r1 => hb S σ H1 _ (hd.same s1) (he.same s1) fun y H2 s2 r2 => by
    obtain ⟨a, ys, e, ha, ry⟩ := r2.lstE
    obtain ⟨f1, f2⟩ := flat_v r1 h1
    obtain ⟨g1, g2⟩ := flat_vs ry h2
    refine ⟨a, ys, e, .inl (.inl (.inl (hid_sub _ _ ha))), f2, g2, ?_⟩
    rw [f1, g1]
    exact hq _ _ (s1.trans s2) (.bl _)
/-! ### xs.insert(i, e) of a list of one's own -/
theorem x_insert {ρ : STt} {P : Post} {i : Nat} {ti te : TE} {ds : List PyData} {d : PyData} {k : Nat} (ho : ρ[i]? = some (.own ds)) (hi : EvD K ti (vw ρ) (.int k)) (hki : (k : Int) < 2 ^ 63) (h : EvD K te (vw ρ) d) (hn : noL d = true) (hz : ds.length < sizeLine) (hp : P.nx (ρ.set i (.own (ds.take k ++ [d] ++ ds.drop k)))) :
    ExD K (tDrop (tBM K "list" (fun x vs H Q => ∃ (l : Addr) (xs : List V) (i : Int) (y : V), x = .ref l ∧ vs = [.int i, y] ∧ H l = some (.lst xs) ∧ xs.length < sizeLine ∧ 0 ≤ i ∧ i < 2 ^ 63 ∧ Q .non (upd H l (.lst (xs.take i.toNat ++ [y] ++ xs.drop i.toNat)))) (tVar i) (tCons ti (tCons te tNil)))) ρ P := fun S O H0 D σ H hd st p => by
  obtain ⟨a, xs, ha, hs, hH, rx⟩ := st.own i ds ho
  refine ⟨_, hs, .inl ⟨rfl, _, .inl (.inl hH)⟩, ?_⟩
  refine hi S σ H _ (hd.same st.sm) (st.envW hd) fun vi H1 s1 r1 => ?_
  have st1 := st.same s1
  refine h S σ H1 _ (hd.same st1.sm) (st1.envW hd) fun v H' s2 r => ?_
  have s := s1.trans s2
  refine ⟨a, xs, k, v, rfl, by rw [r1.intEq], s.at (st.ng a ha) hH, by rw [rx.len]; exact hz, by omega, hki, ?_⟩
  refine p.nx O _ _ _ hp ((st.same s).own_upd ho ha hs ?_)
  have rx' := rx.same (hid_same s)
  rw [Int.toNat_natCast]
  exact ((rx'.take k).app (.cons (rp_hide (fun a ha => ((st.same s).lst a ha).2) hn r) .nil)).app (rx'.drop k)
end Dx
namespace Dx
open PySem PySem.Spec L2
open PyProof.Rows hiding St
variable [G : Sprs] {K : PySem.W.Frag} {ρ : STt} {P : Post}
theorem x_sif {c : TT} {t u : TS} {b : Bool} (h : EvB K c (vw ρ) b) (h1 : b = true → ExD K (tSeq t u) ρ P) (h2 : b = false → ExD K u ρ P) : ExD K (tSeq (tIfS c t tNext) u) ρ P := fun S O H0 D σ H hd st p =>
  h S σ H _ (hd.same st.sm) (st.envW hd) fun H' s => by
    cases b with
    | true => exact h1 rfl S O H0 D σ H' hd (st.same s) p
    | false => exact h2 rfl S O H0 D σ H' hd (st.same s) p
theorem x_sif2 {c : TT} {t v u : TS} {b : Bool} (h : EvB K c (vw ρ) b) (h1 : b = true → ExD K (tSeq t u) ρ P) (h2 : b = false → ExD K (tSeq v u) ρ P) : ExD K (tSeq (tIfS c t v) u) ρ P := fun S O H0 D σ H hd st p =>
  h S σ H _ (hd.same st.sm) (st.envW hd) fun H' s => by
    cases b with
    | true => exact h1 rfl S O H0 D σ H' hd (st.same s) p
    | false => exact h2 rfl S O H0 D σ H' hd (st.same s) p
theorem x_sret {te : TE} {u : TS} {d : PyData} (h : EvD K te (vw ρ) d) (hp : P.rt d) : ExD K (tSeq (tRet te) u) ρ P := fun S O H0 D σ H hd st p =>
  h S σ H _ (hd.same st.sm) (st.envW hd) fun v H' s r => p.rt d v H' hp (st.sm.trans s) r
theorem x_sset {i : Nat} {te : TE} {u : TS} {d : PyData} (h : EvD K te (vw ρ) d) (hn : noL d = true) (g : ExD K u (ρ.set i (.dat d)) P) : ExD K (tSeq (tAsg te (gName i)) u) ρ P := x_sq (x_set h hn rfl) g
theorem x_ssetL {i : Nat} {te : TE} {u : TS} {d : PyData} (h : EvD K te (vs ρ) d) (g : ExD K u (ρ.set i (.dat d)) P) : ExD K (tSeq (tAsg te (gName i)) u) ρ P := x_sq (x_setL h rfl) g
theorem x_sown {i : Nat} {te : TE} {u : TS} {ds : List PyData} (h : EvF K te (vs ρ) ds) (g : ExD K u (ρ.set i (.own ds)) P) : ExD K (tSeq (tAsg te (gName i)) u) ρ P := x_sq (x_own h rfl) g
theorem x_sdrop {te : TE} {u : TS} {d : PyData} (h : EvD K te (vw ρ) d) (g : ExD K u ρ P) : ExD K (tSeq (tDrop te) u) ρ P := x_sq (x_drop h rfl) g
theorem x_spar {i j : Nat} {ta : TA} {u : TS} {d e : PyData} (h : EvL K ta (vs ρ) [d, e]) (g : ExD K u ((ρ.set i (.dat d)).set j (.dat e)) P) : ExD K (tSeq (tPar i j ta) u) ρ P := x_sq (x_par h rfl) g
theorem x_spar3 {i j k : Nat} {ta : TA} {u : TS} {d e f : PyData} (h : EvL K ta (vs ρ) [d, e, f]) (g : ExD K u (((ρ.set i (.dat d)).set j (.dat e)).set k (.dat f)) P) : ExD K (tSeq (tPar3 i j k ta) u) ρ P := x_sq (x_par3 h rfl) g
theorem x_sasg {te : TE} {g : TG} {u : TS} {d : PyData} {L : List (Nat × PyData)} (h : EvD K te (vs ρ) d) (hg : EvG K g d L) (k : ExD K u (putL ρ L) P) : ExD K (tSeq (tAsg te g) u) ρ P := x_sq (x_asg h hg rfl) k
theorem x_sfor {wi : TI} {g : TG} {tb u : TS} {ds : List PyData} (I : Nat → STt → Prop) (hw : EvI K wi (vs ρ) ds) (h0 : I 0 ρ)
    (hs : ∀ i d ρ', ds[i]? = some d → I i ρ' → ∃ L, EvG K g d L ∧ ExD K tb (putL ρ' L) { nx := I (i + 1), ct := I (i + 1), bk := fun z => ExD K u z P, rt := P.rt, rf := P.rf })
    (he : ∀ ρ', I ds.length ρ' → ExD K u ρ' P) : ExD K (tSeq (tFor wi g tb) u) ρ P :=
  x_seq (M := fun z => ExD K u z P) (x_for (P := { P with nx := fun z => ExD K u z P }) I hw h0 hs he) fun _ h => h
theorem x_swhile {c : TT} {tb u : TS} (I : STt → Prop) (μ : STt → Nat) (h0 : I ρ) (hs : ∀ ρ', I ρ' → ∃ b, EvB K c (vw ρ') b ∧
      (b = true → ExD K tb ρ' { nx := fun z => I z ∧ μ z < μ ρ', ct := fun z => I z ∧ μ z < μ ρ', bk := fun z => ExD K u z P, rt := P.rt, rf := P.rf }) ∧ (b = false → ExD K u ρ' P)) : ExD K (tSeq (tWhile c tb) u) ρ P :=
  x_seq (M := fun z => ExD K u z P) (x_while (P := { P with nx := fun z => ExD K u z P }) I μ h0 hs) fun _ h => h
theorem e_gt {ρ : Env} {ta tb : TE} {i j : Int} (ha : EvD K ta ρ (.int i)) (hb : EvD K tb ρ (.int j)) : EvD K (tOp (rI0 fun i j => .bl (decide (j < i))) ta tb) ρ (.bool (decide (j < i))) := e_opI0 ha hb fun _ => .bl _
theorem e_ge {ρ : Env} {ta tb : TE} {i j : Int} (ha : EvD K ta ρ (.int i)) (hb : EvD K tb ρ (.int j)) : EvD K (tOp (rI0 fun i j => .bl (decide (j ≤ i))) ta tb) ρ (.bool (decide (j ≤ i))) := e_opI0 ha hb fun _ => .bl _
/-- one def of many data -/
theorem i_for {wi : TI} {ρ : Env} {ds : List PyData} (h : EvI K wi ρ ds) : EvI K wi ρ ds := h
end Dx
namespace Dx
open PySem PySem.Spec L2
open PyProof.Rows hiding St
variable [G : Sprs] {K : PySem.W.Frag} {ρ : Env}

/-! ### data that repr serves -/
mutual
def okD : PyData → Bool
  | .int i => decide (i.natAbs.log2 < 1920)
  | .str x => x.cps.toList.all fun c => decide (c < 16 ^ 8)
  | .list ds => okDs ds
  | .tuple ds => okDs ds
  | .dict _ => false
  | _ => true
def okDs : List PyData → Bool
  | [] => true
  | d :: ds => okD d && okDs ds
end
omit G in
mutual
theorem okD.noX : ∀ {d : PyData}, okD d = true → noX d = true
  | .none, _ => rfl
  | .bool _, _ => rfl
  | .int _, _ => rfl
  | .str _, _ => rfl
  | .list ds, h => by
    simp only [okD] at h
    simp only [Dx.noX]
    exact okDs.noX h
  | .tuple ds, h => by
    simp only [okD] at h
    simp only [Dx.noX]
    exact okDs.noX h
  | .dict _, h => by simp [okD] at h
theorem okDs.noX : ∀ {d : List PyData}, okDs d = true → noXs d = true
  | [], _ => rfl
  | d :: ds, h => by
    simp only [okDs, Bool.and_eq_true] at h
    simp only [noXs, Bool.and_eq_true]
    exact ⟨okD.noX h.1, okDs.noX h.2⟩
end
omit G in
mutual
theorem okD.show : ∀ {d : PyData}, okD d = true → d.showable = true
  | .none, _ => by simp [PyData.showable]
  | .bool _, _ => by simp [PyData.showable]
  | .int i, h => by simpa [PyData.showable, okD] using h
  | .str _, _ => by simp [PyData.showable]
  | .list ds, h => by
    simp only [okD] at h
    simp only [PyData.showable]
    exact okDs.show h
  | .tuple ds, h => by
    simp only [okD] at h
    simp only [PyData.showable]
    exact okDs.show h
  | .dict _, h => by simp [okD] at h
theorem okDs.show : ∀ {d : List PyData}, okDs d = true → PyData.showableAll d = true
  | [], _ => by simp [PyData.showableAll]
  | d :: ds, h => by
    simp only [okDs, Bool.and_eq_true] at h
    simp only [PyData.showableAll, Bool.and_eq_true]
    exact ⟨okD.show h.1, okDs.show h.2⟩
end
omit G in
mutual
theorem okD.nodict : ∀ {d : PyData}, okD d = true → d.hasDict = false
  | .none, _ => by simp [PyData.hasDict]
  | .bool _, _ => by simp [PyData.hasDict]
  | .int i, h => by simp [PyData.hasDict]
  | .str _, _ => by simp [PyData.hasDict]
  | .list ds, h => by
    simp only [okD] at h
    simp only [PyData.hasDict]
    exact okDs.nodict h
  | .tuple ds, h => by
    simp only [okD] at h
    simp only [PyData.hasDict]
    exact okDs.nodict h
  | .dict _, h => by simp [okD] at h
theorem okDs.nodict : ∀ {d : List PyData}, okDs d = true → PyData.hasDictAll d = false
  | [], _ => by simp [PyData.hasDictAll]
  | d :: ds, h => by
    simp only [okDs, Bool.and_eq_true] at h
    simp only [PyData.hasDictAll, okD.nodict h.1, okDs.nodict h.2, Bool.or_self]
end
omit G in
mutual
theorem okD.short : ∀ {d : PyData}, okD d = true → d.leavesShort 1921 = true
  | .none, _ => by simp [PyData.leavesShort]
  | .bool _, _ => by simp [PyData.leavesShort]
  | .int i, h => by
    simp only [okD, decide_eq_true_eq] at h
    simp only [PyData.leavesShort, decide_eq_true_eq]
    exact int_text_len_1921 h
  | .str _, h => by simpa [PyData.leavesShort, okD] using h
  | .list ds, h => by
    simp only [okD] at h
    simp only [PyData.leavesShort]
    exact okDs.short h
  | .tuple ds, h => by
    simp only [okD] at h
    simp only [PyData.leavesShort]
    exact okDs.short h
  | .dict _, h => by simp [okD] at h
theorem okDs.short : ∀ {d : List PyData}, okDs d = true → PyData.leavesShortAll 1921 d = true
  | [], _ => by simp [PyData.leavesShortAll]
  | d :: ds, h => by
    simp only [okDs, Bool.and_eq_true] at h
    simp only [PyData.leavesShortAll, Bool.and_eq_true]
    exact ⟨okD.short h.1, okDs.short h.2⟩
end
omit G in
theorem fits {d : PyData} (h : okD d = true) (hb : d.bulk ≤ 8000) : d.shown.length ≤ sizeLine := by
  have h1 := PyData.shown_le_bulk 1921 (by decide) d (okD.short h)
  have h2 : (1921 + 2) * d.bulk ≤ 1923 * 8000 := Nat.mul_le_mul (Nat.le_refl _) hb
  have h3 : sizeLine = 16777216 := rfl
  omega
theorem cb_rep {t : TA} {d : PyData} (h : EvL K t ρ [d]) (h0 : scalD d = false) (h1 : okD d = true) (h2 : d.bulk ≤ 8000) (h3 : d.depth ≤ 60) : EvD K (tCB (rRepr K) t) ρ (.str d.shown) :=
  cb_repr h h0 (okD.noX h1) (okD.show h1) (okD.nodict h1) h3 (fits h1 h2)
omit G in
theorem okDs_map {ns : List Int} (h : ∀ n ∈ ns, n.natAbs < 2 ^ 200) : okDs (ns.map PyData.int) = true := by
  induction ns with
  | nil => rfl
  | cons n ns ih =>
    rw [List.map_cons]
    simp only [okDs, Bool.and_eq_true]
    refine ⟨?_, ih fun m hm => h m (List.mem_cons_of_mem _ hm)⟩
    have h1 := h n List.mem_cons_self
    simp only [okD, decide_eq_true_eq]
    by_cases h0 : n.natAbs = 0
    · rw [h0]
      decide
    · have := (Nat.log2_lt h0).mpr (Nat.lt_of_lt_of_le h1 (Nat.pow_le_pow_right (by decide) (by decide : 200 ≤ 1920)))
      exact this
omit G in
theorem bulk_map (ns : List Int) : PyData.bulkAll (ns.map PyData.int) = ns.length := by
  induction ns with
  | nil => simp [PyData.bulkAll]
  | cons n ns ih =>
    rw [List.map_cons]
    simp only [PyData.bulkAll, PyData.bulk, ih, List.length_cons]
    omega
omit G in
theorem depth_map (ns : List Int) : PyData.depthAll (ns.map PyData.int) = 0 := by
  induction ns with
  | nil => simp [PyData.depthAll]
  | cons n ns ih =>
    rw [List.map_cons]
    simp only [PyData.depthAll, PyData.depth, ih]
    rfl
/-! ### range(a, b, -1) -/
theorem i_rng3 {ta : TA} {i j : Int} (h : EvL K ta ρ [.int i, .int j, .int (-1)]) (h1 : -(2 ^ 62) ≤ i ∧ i < 2 ^ 62 ∧ -(2 ^ 62) ≤ j ∧ j < 2 ^ 62) : EvI K (iRng3 ta) ρ (rngD i (i - j).toNat) := fun S σ H R hd he hq =>
  h S σ H _ hd he fun vs H1 s r => by
    cases r with
    | cons r1 r2 =>
      cases r2 with
      | cons r2 r3 =>
        cases r3 with
        | cons r3 r4 =>
          cases r4
          refine ⟨i, j, -1, (i - j).toNat, by rw [r1.intEq, r2.intEq, r3.intEq], RgC.neg h1.1 h1.2.1 h1.2.2.1 h1.2.2.2, hq _ _ s ?_⟩
          intro k T H2 hT s2
          refine ⟨fun d hd => ?_, fun hi => by rw [rngD_len] at hi; exact hi⟩
          obtain ⟨hk, rfl⟩ := rngD_at hd
          refine ⟨hk, fun y H3 hy => ?_⟩
          obtain ⟨rfl, rfl⟩ := hy
          exact ⟨SameG.refl _, .int _⟩
theorem cb_is {te : TE} {d : PyData} {n T : String} {b : Bool} (h : EvD K te ρ d) (hx : noX d = true) (hT : tyD d = T) (hk : kitB T n = some b) : EvD K (tCB (rIsi K) (tCons te (tCons (tC (.ty n)) tNil))) ρ (.bool b) :=
  cb_isi h hx (hT ▸ hk)
theorem e_chle {ta tb tc : TE} {i j k : Int} (ha : EvD K ta ρ (.int i)) (hb : EvD K tb ρ (.int j)) (hc : EvD K tc ρ (.int k)) :
    EvD K (tChain (rI0 fun i j => .bl (decide (i ≤ j))) (rI0 fun i j => .bl (decide (i ≤ j))) ta tb tc) ρ (.bool (decide (i ≤ j) && decide (j ≤ k))) :=
  e_chain (f := fun i j => decide (i ≤ j)) (f' := fun i j => decide (i ≤ j)) ha hb (fun _ => hc) (fun H Q q => ⟨_, _, rfl, rfl, q⟩) fun H Q q => ⟨_, _, rfl, rfl, q⟩
end Dx
namespace Dx
open PySem PySem.Spec L2
open PyProof.Rows hiding St
variable [G : Sprs] {K : PySem.W.Frag} {ρ : Env}
/-! ### sizes -/
def Sm (k : Nat) (i : Int) : Prop := i.natAbs < 2 ^ k
omit G in
theorem Sm.mono {a b : Nat} {i : Int} (h : Sm a i) (hab : a ≤ b) : Sm b i := Nat.lt_of_lt_of_le h (Nat.pow_le_pow_right (by decide) hab)
omit G in
theorem Sm.add {a : Nat} {i j : Int} (h : Sm a i) (g : Sm a j) : Sm (a + 1) (i + j) := by
  unfold Sm at *
  rw [Nat.pow_succ]
  omega
omit G in
theorem Sm.neg {a : Nat} {i : Int} (h : Sm a i) : Sm a (-i) := by
  unfold Sm at *
  rw [Int.natAbs_neg]
  exact h
omit G in
theorem Sm.sub {a : Nat} {i j : Int} (h : Sm a i) (g : Sm a j) : Sm (a + 1) (i - j) := by
  rw [Int.sub_eq_add_neg]
  exact h.add g.neg
omit G in
theorem Sm.mul {a b : Nat} {i j : Int} (h : Sm a i) (g : Sm b j) : Sm (a + b) (i * j) := wide_lt h g
omit G in
theorem Sm.div {a : Nat} {i j : Int} (h : Sm a i) : Sm a (i / j) := Nat.lt_of_le_of_lt (Int.natAbs_ediv_le_natAbs i j) h
omit G in
theorem Sm.mod {a : Nat} {i j : Int} (h : Sm a j) (hj : 0 < j) : Sm a (i % j) := by
  unfold Sm at *
  have h1 := Int.emod_nonneg i (b := j) (by omega)
  have h2 := Int.emod_lt_of_pos i hj
  omega
omit G in
theorem Sm.cmul {a b : Nat} {i j : Int} (h : Sm a i) (g : Sm b j) (ha : 0 < a) (hb : 0 < b) (hab : a + b ≤ 1000000) : CMulW i j := wide_mul h g ha hb hab
omit G in
theorem Sm.cdiv {b : Nat} {i j : Int} (h : 0 < j) (g : Sm b j) (hb : 0 < b) (h9 : b ≤ 9000) : CDivW i j := wide_div h g hb h9
omit G in
theorem Sm.lt {a : Nat} {i : Int} (h0 : 0 ≤ i) (h : Sm a i) : i < 2 ^ a := by
  unfold Sm at h
  have : ((i.natAbs : Nat) : Int) < ((2 ^ a : Nat) : Int) := Int.ofNat_lt.mpr h
  rw [Int.natAbs_of_nonneg h0] at this
  simpa using this
omit G in
theorem Sm.le {a : Nat} {i j : Int} (h0 : 0 ≤ i) (h : i ≤ j) (g : Sm a j) : Sm a i := by
  unfold Sm at *
  omega
omit G in
theorem okD_int {i : Int} (h : Sm 1900 i) : okD (.int i) = true := by
  simp only [okD, decide_eq_true_eq]
  by_cases h0 : i.natAbs = 0
  · rw [h0]
    decide
  · exact (Nat.log2_lt h0).mpr (Nat.lt_of_lt_of_le h (Nat.pow_le_pow_right (by decide) (by decide)))
/-! ### gcd, lcm -/
section
variable {X : Cx}
def rLcm : List V → Hp → VK → Prop := fun vs H Q => ∃ a b : Int, vs = [.int a, .int b] ∧ Sm 6000 a ∧ Sm 6000 b ∧ Q (.int ((Nat.lcm a.natAbs b.natAbs : Nat) : Int)) H
omit G in
theorem lcm_le (m n : Nat) : m.lcm n ≤ m * n := Nat.div_le_self _ _
omit G in
theorem cr_lcm : CallR X (.builtin "math.lcm") rLcm := by
  intro pins s σ H vs us Q I r h
  obtain ⟨a, b, rfl, ha, hb, q⟩ := h
  obtain ⟨t, u, rfl⟩ := Vals.int2 r
  have one : (1 : Nat) < 2 ^ 6000 := Nat.one_lt_two_pow (by decide)
  have lg : ∀ n : Nat, n < 2 ^ 6000 → ¬ n.log2 / 30 + 1 > 450 := fun n hn => by
    have h1 : n.log2 < 6000 := by
      by_cases h0 : n = 0
      · rw [h0]
        decide
      · exact (Nat.log2_lt h0).mpr hn
    omega
  have e1 : (Nat.lcm 1 a.natAbs) = a.natAbs := Nat.lcm_one_left _
  have big : ((((Nat.lcm 1 a.natAbs).lcm b.natAbs : Nat) : Int)).natAbs.log2 < bitsLine := by
    rw [e1]
    show (a.natAbs.lcm b.natAbs).log2 < bitsLine
    have h1 : a.natAbs.lcm b.natAbs < 2 ^ 12000 := by
      refine Nat.lt_of_le_of_lt (lcm_le _ _) ?_
      have : (2 : Nat) ^ 12000 = 2 ^ 6000 * 2 ^ 6000 := (Nat.pow_add 2 6000 6000)
      rw [this]
      exact Nat.mul_lt_mul'' ha hb
    have h2 : (a.natAbs.lcm b.natAbs).log2 < 12000 := by
      by_cases h0 : a.natAbs.lcm b.natAbs = 0
      · rw [h0]
        decide
      · exact (Nat.log2_lt h0).mpr h1
    have h3 : 12000 ≤ bitsLine := by decide
    omega
  have g := PySem.W.mg_run_lcm a t b u (lg _ (Nat.max_lt.mpr ⟨one, ha⟩)) (lg _ (Nat.max_lt.mpr ⟨ha, hb⟩)) big
  rw [e1] at g
  exact call_function_meets PySem.W.MGF.kind_lcm PySem.W.MGF.plain_lcm PySem.W.MGF.entry_lcm (PySem.W.MGF.args_lcm _ _) g.meets ⟨.int _, H, I.tok _, ⟨_, rfl⟩, q⟩
end
theorem cb_gcd {t : TA} {i j : Int} (h : EvL K t ρ [.int i, .int j]) : EvD K (tCB rGcd t) ρ (.int ((Nat.gcd i.natAbs j.natAbs : Nat) : Int)) :=
  cb_two h rfl rfl (fun H Q q => ⟨i, j, rfl, q⟩) fun _ => .int _
theorem cb_lcm {t : TA} {i j : Int} (h : EvL K t ρ [.int i, .int j]) (hi : Sm 6000 i) (hj : Sm 6000 j) : EvD K (tCB rLcm t) ρ (.int ((Nat.lcm i.natAbs j.natAbs : Nat) : Int)) :=
  cb_two h rfl rfl (fun H Q q => ⟨i, j, rfl, hi, hj, q⟩) fun _ => .int _
/-! ### f(k = v, ..) -/
def ro {α : Type} (perm : List Nat) (l : List α) : List α := perm.filterMap (l[·]?)
omit G in
theorem paired_at {α β : Type} {R : α → β → Prop} : ∀ {as : List α} {bs : List β}, Paired R as bs → ∀ i : Nat, (as[i]? = none ∧ bs[i]? = none) ∨ ∃ a b, as[i]? = some a ∧ bs[i]? = some b ∧ R a b
  | _, _, .nil, i => .inl ⟨by simp, by simp⟩
  | _, _, .cons h r, 0 => .inr ⟨_, _, rfl, rfl, h⟩
  | _, _, .cons h r, i + 1 => by simpa using paired_at r i
omit G in
theorem ro_vals {vs : List V} {us : List Value} (r : Vals vs us) : ∀ perm : List Nat, Vals (ro perm vs) (ro perm us)
  | [] => .nil
  | i :: p => by
    have ih := ro_vals r p
    unfold ro at ih ⊢
    rcases paired_at r i with ⟨h1, h2⟩ | ⟨a, b, h1, h2, h3⟩
    · rw [List.filterMap_cons, List.filterMap_cons, h1, h2]
      exact ih
    · rw [List.filterMap_cons, List.filterMap_cons, h1, h2]
      exact .cons h3 ih
theorem ro_rp {H : Hp} {vs : List V} {ds : List PyData} (r : RpAll K H vs ds) : ∀ perm : List Nat, RpAll K H (ro perm vs) (ro perm ds)
  | [] => .nil
  | i :: p => by
    have ih := ro_rp r p
    unfold ro at ih ⊢
    rw [List.filterMap_cons, List.filterMap_cons]
    cases e : ds[i]? with
    | none =>
      have : vs[i]? = none := by
        rw [List.getElem?_eq_none_iff] at e ⊢
        rw [r.len]
        exact e
      rw [this]
      exact ih
    | some d =>
      obtain ⟨v, h1, h2⟩ := r.at e
      rw [h1]
      exact .cons h2 ih
def KB (K : PySem.W.Frag) (fd : FuncData) (ps ks : List Str) (perm : List Nat) : Prop := ∀ (s : Shared) (us : List Value), (ro perm us).length = ps.length → BindsTo s fd ⟨[], ks.zip us⟩ (ps.zip (ro perm us))
omit G in
theorem Fun.kb {x qual : Str} {st : Stmt} {f : Addr} {fd : FuncData} {ps ks : List Str} {perm : List Nat} (F : Fun K x qual st f fd)
    (h : ∀ (kV doc pm : Value) (an : Option Addr) (cdv ct : Value) (us : List Value), (ro perm us).length = ps.length → bindArgs (PySem.W.fnOf x qual (defArgs st) (defBody st) (defScope st) .none kV doc pm an cdv ct) ⟨[], ks.zip us⟩ = pure (ps.zip (ro perm us))) : KB K fd ps ks perm := by
  obtain ⟨oc, od, kV, doc, pm, an, cdv, ct, osl, rfl, lk, hcd⟩ := F.ex
  exact fun s us hl => .of_eq (h kV doc pm an cdv ct us hl)
def tCallR (sp : Sp) (perm : List Nat) (E : XK) (tk : TA) : TE := fun σ H Q => tk σ H fun zs H1 => sp (ro perm zs) H1 Q E
section
variable {X : Cx} {CX : CXT} {k : Nat} {f : Addr} {fd : FuncData} {ps ks : List Str} {sp : Sp} {E : XK} {x : Str} {p pos : Pos} {kws : List Keyword} {tk : TA} {perm : List Nat}
omit G in
theorem pe_callR (F : FnG X.prog X.w X.K X.mg X.base CX k f fd ps sp) (clr : Clr X.A) (room : Room k X.A) (gl : Gl X x) (at_ : X.mg x = some (.ref f)) (kp : PySem.W.keepIn X.K (.ref f) = true) (bd : KB X.K fd ps ks perm) (pass : Passes CX X E)
    (hk : PK X kws tk) (all1 : (backToKw pos (keywordEach kws X.env)).all (·.1.isSome) = true := by rfl) (names : (backToKw pos (keywordEach kws X.env)).filterMap (·.1) = ks := by rfl)
    (nodbg : (x == ("__debug__" : Str)) = false := by decide)
    (plain : ((backTo pos (starEach [] X.env)).any (·.1) || (backToKw pos (keywordEach kws X.env)).any (·.1.isNone)) = false := by rfl) :
    PE X (.Call (.Name x p) [] kws pos) (tCallR sp perm E tk) := by
  refine ⟨fun pins s σ H Q I h => wpAny_Call_Name_kw (ld_glob I gl at_ ?_ nodbg)⟩
  refine PySem.W.callWith_KW0 (h₀ := X.base) I.ok.mod.kin kp all1 (thn (hk.run pos pins s σ H _ I h) fun ws s2 ⟨zs, H2, I2, rz, z⟩ => ⟨I2.kIn, ?_⟩) plain
  rw [names]
  have rv := ro_vals rz perm
  have bd1 := bd s2 ws (by rw [← rv.length]; exact F.ln _ _ _ _ z)
  refine wpAny_call (codeAny_mono (F.go X.A X.stack s2 H2 ⟨[] ++ [], ks.zip ws⟩ (ro perm ws) (ro perm zs) Q E clr room I2.env0 bd1 rv z) fun r s' got => ?_)
  cases r with
  | error err => exact pass pins σ H2 s2 err s' I2 got
  | ok fl =>
    cases fl with
    | ret u => exact I2.after got
    | next => cases got
    | brk => cases got
    | cont => cases got
end
theorem e_callR {pre : List PyData → Prop} {f : List PyData → PyData} {E : XK} {perm : List Nat} {t : TA} {ds : List PyData} (h : EvL K t ρ ds) (hp : pre (ro perm ds)) : EvD K (tCallR (spD K pre f) perm E t) ρ (f (ro perm ds)) := fun S σ H Q hd he hq =>
  h S σ H _ hd he fun xs H1 s1 r1 => ⟨G, S, ro perm ds, hd.same s1, ro_rp r1 perm, hp, fun v H' s r => hq v H' (s1.trans s) r⟩
theorem f_callR {pre : List PyData → Prop} {f : List PyData → List PyData} {E : XK} {perm : List Nat} {t : TA} {ds : List PyData} (h : EvL K t ρ ds) (hp : pre (ro perm ds)) : EvF K (tCallR (spF K pre f) perm E t) ρ (f (ro perm ds)) := fun S σ H Q hd he hq =>
  h S σ H _ hd he fun xs H1 s1 r1 => ⟨G, S, ro perm ds, hd.same s1, ro_rp r1 perm, hp, fun p H' ys s n z r => hq p H' ys (s1.trans s) (s1.free n) z r⟩
/-! ### reversed(range(n)) -/
theorem wk_rngD {S : List Addr} {H : Hp} (lo : Int) (n : Nat) : Wk K (Itc lo (-1) n) S (rngD lo n) H := by
  intro k T H2 hT s2
  refine ⟨fun d hd => ?_, fun hi => by rw [rngD_len] at hi; exact hi⟩
  obtain ⟨hk, rfl⟩ := rngD_at hd
  refine ⟨hk, fun y H3 hy => ?_⟩
  obtain ⟨rfl, rfl⟩ := hy
  exact ⟨SameG.refl _, .int _⟩
theorem i_rev1 {te : TE} {n : Int} (h : EvD K te ρ (.int n)) (h0 : 0 ≤ n) (h1 : n < 2 ^ 62) : EvI K (iRevR (tRg1 te)) ρ (rngD (n - 1) n.toNat) := fun S σ H R hd he hq =>
  h S σ H _ hd he fun v H1 s r => ⟨n, r.intEq, by decide, by decide, by omega, h1, by
    have e1 : (0 : Int) + ((((n - 0).toNat : Nat)) : Int) - 1 = n - 1 := by omega
    have e2 : (n - 0).toNat = n.toNat := by omega
    rw [e1, e2]
    exact hq _ _ s (wk_rngD _ _)⟩
/-! ### comprehensions with a target of two names -/
theorem f_map2 {wi : TI} {i j : Nat} {te : TE} {ds : List (PyData × PyData)} {f : PyData → PyData → PyData} {n : Nat} (hi : EvI K wi ρ (ds.map fun p => .tuple [p.1, p.2])) (hz : ds.length ≤ 1000000)
    (he : ∀ p, p ∈ ds → EvD K te ((((ρ.set j none).set i none).set i (some p.1)).set j (some p.2)) (f p.1 p.2)) :
    EvF K (tLc wi (gTup K 2 (gCons (gName i) (gCons (gName j) gNil))) tYes te [i, j]) ρ (ds.map fun p => f p.1 p.2) := by
  have h := f_lc (K := K) (ρ := ρ) (wi := wi) (g := gTup K 2 (gCons (gName i) (gCons (gName j) gNil))) (tt := tYes) (te := te) (vs := [i, j]) (ds := ds.map fun p => .tuple [p.1, p.2])
    (L := fun k => [(i, (ds.getD k (.none, .none)).1), (j, (ds.getD k (.none, .none)).2)]) (keep := fun _ => true) (out := fun k => f (ds.getD k (.none, .none)).1 (ds.getD k (.none, .none)).2) hi (by rw [List.length_map]; show _ ≤ 2 ^ 24; omega)
    (fun k d hd => by
      rw [List.getElem?_map] at hd
      cases q : ds[k]? with
      | none => rw [q] at hd; cases hd
      | some p =>
        rw [q] at hd
        cases hd
        have e : ds.getD k (.none, .none) = p := by rw [List.getD_eq_getElem?_getD, q]; rfl
        rw [e]
        exact ⟨g_tup (gs_name (gs_name gs_nil)) rfl, by simp⟩)
    (fun k d hd => b_yes)
    (fun k d hd _ => by
      rw [List.getElem?_map] at hd
      cases q : ds[k]? with
      | none => rw [q] at hd; cases hd
      | some p =>
        have e : ds.getD k (.none, .none) = p := by rw [List.getD_eq_getElem?_getD, q]; rfl
        rw [e]
        exact he p (List.mem_of_getElem? q))
  refine h.cast ?_
  rw [lcOut_all, List.length_map]
  refine List.ext_getElem? fun k => ?_
  rw [List.getElem?_map, List.getElem?_map]
  by_cases hk : k < ds.length
  · rw [List.getElem?_range hk, List.getElem?_eq_getElem hk]
    simp [hk]
  · rw [List.getElem?_eq_none (by simpa using hk), List.getElem?_eq_none (by simpa using hk)]
    rfl
end Dx
namespace Dx
open PySem PySem.Spec L2
open PyProof.Rows hiding St
variable [G : Sprs] {K : PySem.W.Frag}
/-- a, b = (e, a new list), the second a list of one's own -/
theorem x_asgO {i j : Nat} {t1 t2 : TE} {ρ : STt} {P : Post} {d : PyData} {ds : List PyData} (h1 : EvD K t1 (vs ρ) d) (h2 : EvF K t2 (vs ρ) ds) (hp : P.nx ((ρ.set i (.dat d)).set j (.own ds))) :
    ExD K (tAsg (tTup (tCons t1 (tCons t2 tNil))) (gTup K 2 (gCons (gName i) (gCons (gName j) gNil)))) ρ P := fun S O H0 D σ H hd st p =>
  h1 (O ++ S) σ H _ (st.domO hd) st.env fun v1 H1 s1 r1 =>
    h2 (O ++ S) σ H1 _ ((st.same s1).domO hd) (st.same s1).env fun q H2 xs s2 hn hq r2 => by
      refine ⟨show 2 ≤ 2 ^ 24 by decide, fun a ha => ⟨a, [v1, .ref q], rfl, .inl (.inl upd_same), rfl, v1, [.ref q], rfl, .ref q, [], rfl, rfl, ?_⟩⟩
      have s3 : SameG H2 (upd H2 a (.tup [v1, .ref q])) := same_new ha
      have s3p : Same H2 (upd H2 a (.tup [v1, .ref q])) := same_newP ha
      exact p.nx (q :: O) _ _ _ hp (((st.same s1).put r1).own_new hd (s2.trans s3) hn (s3p _ _ hq) (r2.same (hid_same s3)))
theorem x_sasgO {i j : Nat} {t1 t2 : TE} {u : TS} {ρ : STt} {P : Post} {d : PyData} {ds : List PyData} (h1 : EvD K t1 (vs ρ) d) (h2 : EvF K t2 (vs ρ) ds) (g : ExD K u ((ρ.set i (.dat d)).set j (.own ds)) P) :
    ExD K (tSeq (tAsg (tTup (tCons t1 (tCons t2 tNil))) (gTup K 2 (gCons (gName i) (gCons (gName j) gNil)))) u) ρ P := x_sq (x_asgO h1 h2 rfl) g
theorem rp_rep {H : Hp} {xs : List V} {ds : List PyData} (r : RpAll K H xs ds) : ∀ n, RpAll K H (List.replicate n xs).flatten (List.replicate n ds).flatten
  | 0 => .nil
  | n + 1 => by
    rw [List.replicate_succ, List.replicate_succ, List.flatten_cons, List.flatten_cons]
    exact r.app (rp_rep r n)
theorem f_rep {ρ : Env} {ta tb : TE} {ds : List PyData} {k : Int} (ha : EvD K ta ρ (.list ds)) (hb : EvD K tb ρ (.int k)) (h1 : -(2 ^ 63) ≤ k ∧ k < 2 ^ 63) (hz : ds.length * k.toNat ≤ sizeLine) : EvF K (tOp rRep ta tb) ρ (List.replicate k.toNat ds).flatten := fun S σ H Q hd he hq =>
  ha S σ H _ hd he fun x H1 s1 r1 => hb S σ H1 _ (hd.same s1) (he.same s1) fun y H2 s2 r2 => by
    have s := s1.trans s2
    obtain ⟨a, xs, e, ha, rx⟩ := (r1.same (hid_same s2)).lstE
    refine ⟨a, k, xs, e, r2.intEq, hid_sub _ _ ha, h1.1, h1.2, by rw [rx.len]; exact hz, fun p hp => ?_⟩
    exact hq p _ _ (s.trans (same_new hp)) (s.free hp) upd_same (fresh_list (H := H) hp (rp_rep rx _))
end Dx
namespace Dx
open PySem PySem.Spec L2
open PyProof.Rows hiding St
variable [G : Sprs]
omit G in
/-- a range of any bounds, walked -/
theorem turn_long {P : Program} {w : World} {K : PySem.W.Frag} {tg : Expr} (it : Addr) (lo : Int) (n : Nat) : Turn P w K tg (Itr lo n) [it] it (fun i h => IsLongIter h it (lo + (i : Nat) * 1) ((n : Int) - (i : Nat)) 1) where
  mem := by simp
  obj := fun i h st b hb => by
    have e : b = it := by simpa using hb
    subst e
    exact ⟨_, st, fun v z => by
      have z' : Data.fields _ = Data.cell v := z
      cases z'⟩
  keep := fun i h h' st k => k it (by simp) _ st
  item := by
    intro X hP hw hK hc i pins s σ H E I hf st hg
    subst hP hw hK
    obtain ⟨f0, f1, f2, f3, f4, f5⟩ := hf it (by simp)
    have W := Walks.longrange (prog := X.prog) (w := X.w) (I.ok.hd hc) it lo 1 n
    refine W.item i s _ _ hg st fun v h' tk hv st' kk => ?_
    obtain ⟨t, rfl⟩ := hv
    have I1 : Inv X pins σ H { s with heap := h', toks := tk } := I.turned (fun b o hb e => kk b o (by simpa using hb) e) f0 f1 f3 f4 f5
    refine ⟨_, rfl, go_of (s := { s with heap := h', toks := tk }) (n := "longrange_iterator") st' rfl rfl (by decide) ⟨.int (lo + i), H, I1, ⟨t, ?_⟩, ⟨rfl, rfl⟩, st', fun b hb => (hf b hb).1⟩⟩
    rw [Int.mul_one]
  done := by
    intro X hP hw hK hc i pins s σ H E I hf st hg
    subst hP hw hK
    obtain ⟨f0, f1, f2, f3, f4, f5⟩ := hf it (by simp)
    exact wpAny_pyNext_long_end (I.ok.hd hc) st (by have : n ≤ i := hg; omega) fun h' eb => ⟨rfl, I.turned (t' := s.toks) (fun b o hb e => eb b o hb e) f0 f1 f3 f4 f5⟩
  self := fun _ _ _ _ _ st h => wpAny_pyIter_longiter st h
section
variable {X : Cx} {tg : Expr}
omit G in
theorem range_itW {pins : List (Addr × Obj)} {σ : L2.St} {H : Hp} {s : Shared} {R : It → Hp → Prop} {E : Value → Shared → Prop} {lo hi : Int} {t u v : Tok} {tk : Nat} (I : Inv X pins σ H s)
    (q : R (Itr lo (hi - lo).toNat) H) : wpAny (model X.prog X.w) X.A (pyIter (.ref s.heap.objs.size)) (PIE X pins σ tg R) E { s with heap := s.heap.push { cls := .type "range", data := .fields #[.int lo t, .int hi u, .int 1 v] }, toks := tk } := by
  have I1 : Inv X pins σ H { s with heap := s.heap.push { cls := .type "range", data := .fields #[.int lo t, .int hi u, .int 1 v] }, toks := tk } := I.kept fun b o e => Heap.get?_push_of_some _ e
  have e1 : lo + ((0 : Nat) : Int) * 1 = lo := by simp
  have e2 : (((hi - lo).toNat : Nat) : Int) - ((0 : Nat) : Int) = Builtin.Range.rangeSize lo hi 1 := by rw [rangeSize_one]; split <;> omega
  by_cases hsm : Builtin.Range.small lo hi 1 = true
  · refine wpAny_pyIter_range (IsRange.new ..) hsm ?_
    refine ⟨(s.heap.push { cls := .type "range", data := .fields #[.int lo t, .int hi u, .int 1 v] }).objs.size, [(s.heap.push { cls := .type "range", data := .fields #[.int lo t, .int hi u, .int 1 v] }).objs.size], _, _, H, rfl,
      I1.kept (t' := tk) fun b o e => Heap.get?_push_of_some _ e, turn_range _ lo (hi - lo).toNat, ?_, fun b hb => ?_, q⟩
    · show IsRangeIter _ _ (lo + ((0 : Nat) : Int) * 1) ((((hi - lo).toNat : Nat) : Int) - ((0 : Nat) : Int)) 1
      rw [e1, e2]
      exact Heap.get?_push_size _ rfl
    · have e : b = (s.heap.push { cls := .type "range", data := .fields #[.int lo t, .int hi u, .int 1 v] }).objs.size := by simpa using hb
      subst e
      exact I1.fpOk (Nat.le_refl _) (I1.hok.fresh (Nat.le_refl _))
  · refine wpAny_pyIter_longrange (IsRange.new ..) (by simpa using hsm) ?_
    refine ⟨(s.heap.push { cls := .type "range", data := .fields #[.int lo t, .int hi u, .int 1 v] }).objs.size, [(s.heap.push { cls := .type "range", data := .fields #[.int lo t, .int hi u, .int 1 v] }).objs.size], _, _, H, rfl,
      I1.kept (t' := tk) fun b o e => Heap.get?_push_of_some _ e, turn_long _ lo (hi - lo).toNat, ?_, fun b hb => ?_, q⟩
    · show IsLongIter _ _ (lo + ((0 : Nat) : Int) * 1) ((((hi - lo).toNat : Nat) : Int) - ((0 : Nat) : Int)) 1
      rw [e1, e2]
      exact Heap.get?_push_size _ rfl
    · have e : b = (s.heap.push { cls := .type "range", data := .fields #[.int lo t, .int hi u, .int 1 v] }).objs.size := by simpa using hb
      subst e
      exact I1.fpOk (Nat.le_refl _) (I1.hok.fresh (Nat.le_refl _))
def iRngW (ta : TA) : TI := fun σ H R => ta σ H fun vs H1 => ∃ i j : Int, vs = [.int i, .int j] ∧ R (Itr i (j - i).toNat) H1
omit G in
theorem pi_rangeW {a b : Expr} {ta : TA} {p pos : Pos} (hg : Gl X "range") (hm : X.mg "range" = none) (ha : PA X [a, b] ta) (hs : starEach [a, b] X.env = [(false, eval a X.env), (false, eval b X.env)] := by rfl) (hs2 : starEach [b] X.env = [(false, eval b X.env)] := by rfl) :
    PI X tg (.Call (.Name "range" p) [a, b] [] pos) (iRngW ta) := by
  refine ⟨fun pins s σ H R I h => ?_⟩
  refine Call_ (ld_blt I hg hm boot_range (PyProof.Rows.callWith_type1 (thn (ha.run pos pins s σ H _ I h) fun us s1 ⟨vs, H1, I1, r1, q1⟩ => ?_) (by rw [hs, hs2]) (by rw [hs2]; rfl)))
  obtain ⟨i, j, e, q⟩ := q1
  subst e
  cases r1 with
  | cons r rr =>
    cases rr with
    | cons r' rr =>
      cases rr
      obtain ⟨t, rfl⟩ := r
      obtain ⟨t', rfl⟩ := r'
      exact call_range_2 (range_itW I1 q)
end
theorem i_rngW {K : PySem.W.Frag} {ρ : Env} {ta : TA} {i j : Int} (h : EvL K ta ρ [.int i, .int j]) : EvI K (iRngW ta) ρ (rng i (j - i).toNat) := fun S σ H R hd he hq =>
  h S σ H _ hd he fun vs H1 s r => by
    cases r with
    | cons r1 r2 =>
      cases r2 with
      | cons r2 r3 =>
        cases r3
        refine ⟨i, j, by rw [r1.intEq, r2.intEq], hq _ _ s ?_⟩
        intro k T H2 hT s2
        refine ⟨fun d hd => ?_, fun hi => by rw [rng_len] at hi; exact hi⟩
        obtain ⟨hk, rfl⟩ := rng_at hd
        refine ⟨hk, fun y H3 hy => ?_⟩
        obtain ⟨rfl, rfl⟩ := hy
        exact ⟨SameG.refl _, .int _⟩
/-- a if t else b -/
theorem e_ifE {K : PySem.W.Frag} {ρ : Env} {t : TT} {ta tb : TE} {b : Bool} {d : PyData} (h : EvB K t ρ b) (h1 : b = true → EvD K ta ρ d) (h2 : b = false → EvD K tb ρ d) : EvD K (tIf t ta tb) ρ d := fun S σ H Q hd he hq =>
  h S σ H _ hd he fun H1 s1 => by
    cases b with
    | true =>
      rw [if_pos rfl]
      exact h1 rfl S σ H1 Q (hd.same s1) (he.same s1) fun v H2 s2 r => hq v H2 (s1.trans s2) r
    | false =>
      rw [if_neg (by decide)]
      exact h2 rfl S σ H1 Q (hd.same s1) (he.same s1) fun v H2 s2 r => hq v H2 (s1.trans s2) r
/-- repr of an integer -/
theorem cb_repI {K : PySem.W.Frag} {ρ : Env} {t : TA} {i : Int} (h : EvL K t ρ [.int i]) (hi : i.natAbs.log2 < 1920) : EvD K (tCB (fun xs H Q => ∃ i, xs = [.int i] ∧ i.natAbs.log2 < 1920 ∧ Q (.str (toString i)) H) t) ρ (.str (toString i)) := fun S σ H Q hd he hq =>
  h S σ H _ hd he fun xs H1 s1 r1 => by
    cases r1 with
    | cons r1 r2 =>
      cases r2
      exact ⟨i, by rw [r1.intEq], hi, hq _ _ s1 (.str _)⟩
end Dx
namespace Dx
open PySem PySem.Spec L2
open PyProof.Rows hiding St
variable [G : Sprs] {K : PySem.W.Frag} {ρ : Env}
/-! ### what an expression may give: any data of which something holds -/
def EvR (K : PySem.W.Frag) (t : TE) (ρ : Env) (Φ : PyData → Prop) : Prop :=
  ∀ (S : List Addr) (σ : L2.St) (H : Hp) (Q : VK), Dom H S → EnvD K H S σ ρ → (∀ v H' d, SameG H H' → Φ d → Rp K (hid H' S) v d → Q v H') → t σ H Q
def EvZ (K : PySem.W.Frag) (t : TE) (ρ : Env) (φ : Int → Prop) : Prop :=
  ∀ (S : List Addr) (σ : L2.St) (H : Hp) (Q : VK), Dom H S → EnvD K H S σ ρ → (∀ i H', SameG H H' → φ i → Q (.int i) H') → t σ H Q
def EvFR (K : PySem.W.Frag) (t : TE) (ρ : Env) (Φ : List PyData → Prop) : Prop :=
  ∀ (S : List Addr) (σ : L2.St) (H : Hp) (Q : VK), Dom H S → EnvD K H S σ ρ →
    (∀ p H' xs ds, SameG H H' → Φ ds → H p = none → H' p = some (.lst xs) → RpAll K (hid H' (p :: S)) xs ds → Q (.ref p) H') → t σ H Q
def EvBR (K : PySem.W.Frag) (t : TT) (ρ : Env) (Φ : Bool → Prop) : Prop :=
  ∀ (S : List Addr) (σ : L2.St) (H : Hp) (Q : Bool → Hp → Prop), Dom H S → EnvD K H S σ ρ → (∀ b H', SameG H H' → Φ b → Q b H') → t σ H Q
def EvLR (K : PySem.W.Frag) (t : TA) (ρ : Env) (Φ : List PyData → Prop) : Prop :=
  ∀ (S : List Addr) (σ : L2.St) (H : Hp) (Q : List V → Hp → Prop), Dom H S → EnvD K H S σ ρ → (∀ vs H' ds, SameG H H' → Φ ds → RpAll K (hid H' S) vs ds → Q vs H') → t σ H Q
def EvIR (K : PySem.W.Frag) (wi : TI) (ρ : Env) (Φ : List PyData → Prop) : Prop :=
  ∀ (S : List Addr) (σ : L2.St) (H : Hp) (R : It → Hp → Prop), Dom H S → EnvD K H S σ ρ → (∀ J H' ds, SameG H H' → Φ ds → Wk K J S ds H' → R J H') → wi σ H R
theorem EvD.r {t : TE} {d : PyData} {Φ : PyData → Prop} (h : EvD K t ρ d) (q : Φ d) : EvR K t ρ Φ := fun S σ H Q hd he hq => h S σ H Q hd he fun v H' s r => hq v H' d s q r
theorem EvD.z {t : TE} {i : Int} {φ : Int → Prop} (h : EvD K t ρ (.int i)) (q : φ i) : EvZ K t ρ φ := fun S σ H Q hd he hq => h S σ H Q hd he fun v H' s r => by
  rw [r.intEq]
  exact hq i H' s q
theorem EvF.r {t : TE} {ds : List PyData} {Φ : List PyData → Prop} (h : EvF K t ρ ds) (q : Φ ds) : EvFR K t ρ Φ := fun S σ H Q hd he hq => h S σ H Q hd he fun p H' xs s n hp r => hq p H' xs ds s q n hp r
theorem EvB.r {t : TT} {b : Bool} {Φ : Bool → Prop} (h : EvB K t ρ b) (q : Φ b) : EvBR K t ρ Φ := fun S σ H Q hd he hq => h S σ H Q hd he fun H' s => hq b H' s q
theorem EvL.r {t : TA} {ds : List PyData} {Φ : List PyData → Prop} (h : EvL K t ρ ds) (q : Φ ds) : EvLR K t ρ Φ := fun S σ H Q hd he hq => h S σ H Q hd he fun vs H' s r => hq vs H' ds s q r
theorem EvI.r {t : TI} {ds : List PyData} {Φ : List PyData → Prop} (h : EvI K t ρ ds) (q : Φ ds) : EvIR K t ρ Φ := fun S σ H Q hd he hq => h S σ H Q hd he fun J H' s w => hq J H' ds s q w
theorem EvZ.r {t : TE} {φ : Int → Prop} {Φ : PyData → Prop} (h : EvZ K t ρ φ) (q : ∀ i, φ i → Φ (.int i)) : EvR K t ρ Φ := fun S σ H Q hd he hq => h S σ H Q hd he fun i H' s z => hq _ H' _ s (q i z) (.int i)
theorem EvR.z {t : TE} {φ : Int → Prop} {Φ : PyData → Prop} (h : EvR K t ρ Φ) (q : ∀ d, Φ d → ∃ i, d = .int i ∧ φ i) : EvZ K t ρ φ := fun S σ H Q hd he hq => h S σ H Q hd he fun v H' d s z r => by
  obtain ⟨i, rfl, f⟩ := q d z
  rw [r.intEq]
  exact hq i H' s f
theorem EvFR.r {t : TE} {Φ : List PyData → Prop} {Ψ : PyData → Prop} (h : EvFR K t ρ Φ) (q : ∀ ds, Φ ds → Ψ (.list ds)) : EvR K t ρ Ψ := fun S σ H Q hd he hq =>
  h S σ H Q hd he fun p H' xs ds s f n hp r => hq _ _ _ s (q ds f) (.lst (hid_at hp (hd.fresh n)) (r.same (hid_less fun a h => List.mem_cons_of_mem _ h)))
theorem EvR.imp {t : TE} {Φ Ψ : PyData → Prop} (h : EvR K t ρ Φ) (q : ∀ d, Φ d → Ψ d) : EvR K t ρ Ψ := fun S σ H Q hd he hq => h S σ H Q hd he fun v H' d s z r => hq v H' d s (q d z) r
theorem EvZ.imp {t : TE} {φ ψ : Int → Prop} (h : EvZ K t ρ φ) (q : ∀ i, φ i → ψ i) : EvZ K t ρ ψ := fun S σ H Q hd he hq => h S σ H Q hd he fun i H' s z => hq i H' s (q i z)
theorem EvFR.imp {t : TE} {Φ Ψ : List PyData → Prop} (h : EvFR K t ρ Φ) (q : ∀ d, Φ d → Ψ d) : EvFR K t ρ Ψ := fun S σ H Q hd he hq => h S σ H Q hd he fun p H' xs ds s f n hp r => hq p H' xs ds s (q ds f) n hp r
/-- what is sure of the one thing that can come -/
theorem EvR.d {t : TE} {d : PyData} (h : EvR K t ρ (fun x => x = d)) : EvD K t ρ d := fun S σ H Q hd he hq => h S σ H Q hd he fun v H' e s z r => hq v H' s (z ▸ r)
/-! ### operators -/
theorem z_op {C : Int → Int → Prop} {g : Int → Int → Int} {ta tb : TE} {φ ψ χ : Int → Prop} (ha : EvZ K ta ρ φ) (hb : EvZ K tb ρ ψ) (hc : ∀ i j, φ i → ψ j → C i j ∧ χ (g i j)) : EvZ K (tOp (rI C fun i j => .int (g i j)) ta tb) ρ χ := fun S σ H Q hd he hq =>
  ha S σ H _ hd he fun i H1 s1 f1 => hb S σ H1 _ (hd.same s1) (he.same s1) fun j H2 s2 f2 => ⟨i, j, rfl, rfl, (hc i j f1 f2).1, hq _ _ (s1.trans s2) (hc i j f1 f2).2⟩
theorem z_op0 {g : Int → Int → Int} {ta tb : TE} {φ ψ χ : Int → Prop} (ha : EvZ K ta ρ φ) (hb : EvZ K tb ρ ψ) (hc : ∀ i j, φ i → ψ j → χ (g i j)) : EvZ K (tOp (rI0 fun i j => .int (g i j)) ta tb) ρ χ := fun S σ H Q hd he hq =>
  ha S σ H _ hd he fun i H1 s1 f1 => hb S σ H1 _ (hd.same s1) (he.same s1) fun j H2 s2 f2 => ⟨i, j, rfl, rfl, hq _ _ (s1.trans s2) (hc i j f1 f2)⟩
theorem z_int {ta : TE} {φ χ : Int → Prop} (ha : EvZ K ta ρ φ) (hc : ∀ i, φ i → χ i) : EvZ K (tCB (fun xs H Q => (∃ i, xs = [.int i] ∧ Q (.int i) H) ∨ ∃ k, xs = [.bl k] ∧ Q (.int (if k then 1 else 0)) H) (tCons ta tNil)) ρ χ := fun S σ H Q hd he hq =>
  ha S σ H _ hd he fun i H1 s1 f1 => .inl ⟨i, rfl, hq _ _ s1 (hc i f1)⟩
theorem br_cmp {g : Int → Int → Bool} {ta tb : TE} {φ ψ : Int → Prop} {Χ : Bool → Prop} (ha : EvZ K ta ρ φ) (hb : EvZ K tb ρ ψ) (hc : ∀ i j, φ i → ψ j → Χ (g i j)) : EvR K (tOp (rI0 fun i j => .bl (g i j)) ta tb) ρ (fun d => ∃ b, d = .bool b ∧ Χ b) := fun S σ H Q hd he hq =>
  ha S σ H _ hd he fun i H1 s1 f1 => hb S σ H1 _ (hd.same s1) (he.same s1) fun j H2 s2 f2 => ⟨i, j, rfl, rfl, hq _ _ _ (s1.trans s2) ⟨_, rfl, hc i j f1 f2⟩ (.bl _)⟩
/-! ### arguments, displays -/
theorem lr_nil : EvLR K tNil ρ (fun ds => ds = []) := fun S σ H Q hd he hq => hq _ _ _ (SameG.refl _) rfl .nil
theorem lr_cons {t : TE} {u : TA} {Φ : PyData → Prop} {Ψ : List PyData → Prop} (h : EvR K t ρ Φ) (g : EvLR K u ρ Ψ) : EvLR K (tCons t u) ρ (fun l => ∃ d ds, l = d :: ds ∧ Φ d ∧ Ψ ds) := fun S σ H Q hd he hq =>
  h S σ H _ hd he fun x H1 d s1 f1 r1 => g S σ H1 _ (hd.same s1) (he.same s1) fun xs H2 ds s2 f2 r2 => hq _ _ _ (s1.trans s2) ⟨d, ds, rfl, f1, f2⟩ (.cons (r1.same (hid_same s2)) r2)
theorem EvLR.imp {t : TA} {Φ Ψ : List PyData → Prop} (h : EvLR K t ρ Φ) (q : ∀ d, Φ d → Ψ d) : EvLR K t ρ Ψ := fun S σ H Q hd he hq => h S σ H Q hd he fun vs H' ds s f r => hq vs H' ds s (q ds f) r
/-- items of which the same holds -/
def AllN (n : Nat) (Φ : PyData → Prop) (ds : List PyData) : Prop := ds.length = n ∧ ∀ d ∈ ds, Φ d
theorem la_nil {Φ : PyData → Prop} : EvLR K tNil ρ (AllN 0 Φ) := lr_nil.imp fun ds e => by
  subst e
  exact ⟨rfl, fun d h => by cases h⟩
theorem la_cons {t : TE} {u : TA} {n : Nat} {Φ : PyData → Prop} (h : EvR K t ρ Φ) (g : EvLR K u ρ (AllN n Φ)) : EvLR K (tCons t u) ρ (AllN (n + 1) Φ) := (lr_cons h g).imp fun l ⟨d, ds, e, f1, f2⟩ => by
  subst e
  refine ⟨by rw [List.length_cons, f2.1], fun x hx => ?_⟩
  rcases List.mem_cons.mp hx with z | z
  · rw [z]
    exact f1
  · exact f2.2 x z
theorem r_tup {t : TA} {Φ : List PyData → Prop} (h : EvLR K t ρ Φ) (hz : ∀ ds, Φ ds → ds.length ≤ sizeLine) : EvR K (tTup t) ρ (fun d => ∃ ds, d = .tuple ds ∧ Φ ds) := fun S σ H Q hd he hq =>
  h S σ H _ hd he fun xs H1 ds s1 f r1 => ⟨by rw [r1.len]; exact hz ds f, fun p hp => hq _ _ _ (s1.trans (same_new hp)) ⟨ds, rfl, f⟩ (.tup (.inl (.inl (hid_at upd_same ((hd.same s1).fresh hp)))) (r1.same (hid_same (same_new hp))))⟩
theorem fr_lst {t : TA} {Φ : List PyData → Prop} (h : EvLR K t ρ Φ) (hz : ∀ ds, Φ ds → ds.length ≤ sizeLine) : EvFR K (tLst t) ρ Φ := fun S σ H Q hd he hq =>
  h S σ H _ hd he fun xs H1 ds s1 f r1 => ⟨by rw [r1.len]; exact hz ds f, fun p hp => hq p _ xs ds (s1.trans (same_new hp)) f (s1.free hp) upd_same (fresh_list (H := H) hp r1)⟩
theorem r_tupleOf {t : TE} {Φ : List PyData → Prop} (h : EvFR K t ρ Φ) : EvR K (tCB (fun xs H Q => ∃ p ys, xs = [.ref p] ∧ ((SqL K H p ys ∧ ∀ l, H l = none → Q (.ref l) (upd H l (.tup ys))) ∨ (SqT K H p ys ∧ Q (.ref p) H))) (tCons t tNil)) ρ (fun d => ∃ ds, d = .tuple ds ∧ Φ ds) := fun S σ H Q hd he hq =>
  h S σ H _ hd he fun p H1 xs ds s1 f n hp r1 => ⟨p, xs, rfl, .inl ⟨.inl (.inl hp), fun q hq2 => hq _ _ _ (s1.trans (same_new hq2)) ⟨ds, rfl, f⟩ (.tup (.inl (.inl (hid_at upd_same ((hd.same s1).fresh hq2)))) ((r1.same (hid_less fun a h => List.mem_cons_of_mem _ h)).same (hid_same (same_new hq2))))⟩⟩
/-- [.., ..][k] -/
theorem r_pick {ta tb : TE} {n : Nat} {Φ : PyData → Prop} {φ : Int → Prop} (ha : EvFR K ta ρ (AllN n Φ)) (hb : EvZ K tb ρ φ) (hc : ∀ i, φ i → 0 ≤ i ∧ i < n) : EvR K (tOp (rIxL K) ta tb) ρ Φ := fun S σ H Q hd he hq =>
  ha S σ H _ hd he fun p H1 xs ds s1 f hn hp r1 => hb S σ H1 _ (hd.same s1) (he.same s1) fun i H2 s2 f2 => by
    have n1 := (hd.fresh hn).2
    obtain ⟨h0, h1⟩ := hc i f2
    have hi : i.toNat < ds.length := by rw [f.1]; omega
    obtain ⟨v, hv, rv⟩ := (r1.same (hid_same s2)).at (List.getElem?_eq_getElem hi)
    refine ⟨p, xs, i, v, rfl, rfl, .inl (.inl (s2.at n1 hp)), ?_, hq _ _ _ (s1.trans s2) (f.2 _ (List.getElem_mem hi)) (rv.same (hid_less fun a h => List.mem_cons_of_mem _ h))⟩
    have e : i = ((i.toNat : Nat) : Int) := by omega
    rw [e]
    exact atI_nat hv
/-- a if t else b -/
theorem r_ifE {t : TT} {ta tb : TE} {b : Bool} {Φ : PyData → Prop} (h : EvB K t ρ b) (h1 : b = true → EvR K ta ρ Φ) (h2 : b = false → EvR K tb ρ Φ) : EvR K (tIf t ta tb) ρ Φ := fun S σ H Q hd he hq =>
  h S σ H _ hd he fun H1 s1 => by
    cases b with
    | true =>
      rw [if_pos rfl]
      exact h1 rfl S σ H1 Q (hd.same s1) (he.same s1) fun v H2 d s2 f r => hq v H2 d (s1.trans s2) f r
    | false =>
      rw [if_neg (by decide)]
      exact h2 rfl S σ H1 Q (hd.same s1) (he.same s1) fun v H2 d s2 f r => hq v H2 d (s1.trans s2) f r
theorem r_ifER {t : TT} {ta tb : TE} {Χ : Bool → Prop} {Φ : PyData → Prop} (h : EvBR K t ρ Χ) (h1 : Χ true → EvR K ta ρ Φ) (h2 : Χ false → EvR K tb ρ Φ) : EvR K (tIf t ta tb) ρ Φ := fun S σ H Q hd he hq =>
  h S σ H _ hd he fun b H1 s1 f1 => by
    cases b with
    | true =>
      rw [if_pos rfl]
      exact h1 f1 S σ H1 Q (hd.same s1) (he.same s1) fun v H2 d s2 f r => hq v H2 d (s1.trans s2) f r
    | false =>
      rw [if_neg (by decide)]
      exact h2 f1 S σ H1 Q (hd.same s1) (he.same s1) fun v H2 d s2 f r => hq v H2 d (s1.trans s2) f r
/-! ### calls -/
def spR (K : PySem.W.Frag) (pre : List PyData → Prop) (post : List PyData → PyData → Prop) : Sp := fun vs H Q _ =>
  ∃ (_ : Sprs) (S : List Addr) (ds : List PyData), Dom H S ∧ RpAll K (hid H S) vs ds ∧ pre ds ∧ ∀ v H' d, SameG H H' → post ds d → Rp K (hid H' S) v d → Q v H'
theorem r_call {pre : List PyData → Prop} {post : List PyData → PyData → Prop} {E : XK} {t : TA} {ds : List PyData} (h : EvL K t ρ ds) (hp : pre ds) : EvR K (tCall (spR K pre post) [] E t) ρ (post ds) := fun S σ H Q hd he hq =>
  h S σ H _ hd he fun xs H1 s1 r1 => by
    show spR K pre post (xs ++ []) H1 Q E
    rw [List.append_nil]
    exact ⟨G, S, ds, hd.same s1, r1, hp, fun v H' d s f r => hq v H' d (s1.trans s) f r⟩
theorem r_callA {pre : List PyData → Prop} {f : List PyData → PyData} {E : XK} {t : TA} {Φ : List PyData → Prop} {Ψ : PyData → Prop} (h : EvLR K t ρ Φ) (hp : ∀ ds, Φ ds → pre ds ∧ Ψ (f ds)) : EvR K (tCall (spD K pre f) [] E t) ρ Ψ := fun S σ H Q hd he hq =>
  h S σ H _ hd he fun xs H1 ds s1 f1 r1 => by
    show spD K pre f (xs ++ []) H1 Q E
    rw [List.append_nil]
    exact ⟨G, S, ds, hd.same s1, r1, (hp ds f1).1, fun v H' s r => hq v H' _ (s1.trans s) (hp ds f1).2 r⟩
/-! ### what is walked -/
theorem ir_rng1 {ta : TE} {φ : Int → Prop} (h : EvZ K ta ρ φ) (h1 : ∀ i, φ i → -(2 ^ 62) ≤ i ∧ i < 2 ^ 62) : EvIR K (iRng1 (tCons ta tNil)) ρ (fun ds => ∃ i, φ i ∧ ds = rng 0 i.toNat) := fun S σ H R hd he hq =>
  h S σ H _ hd he fun j H1 s f => by
    refine ⟨j, rfl, (h1 j f).1, (h1 j f).2, hq _ _ _ s ⟨j, f, rfl⟩ ?_⟩
    intro i T H2 hT s2
    refine ⟨fun d hd => ?_, fun hi => by rw [rng_len] at hi; exact hi⟩
    obtain ⟨hk, rfl⟩ := rng_at hd
    refine ⟨hk, fun y H3 hy => ?_⟩
    obtain ⟨rfl, rfl⟩ := hy
    exact ⟨SameG.refl _, .int _⟩
/-- [e for x in ..] -/
theorem fr_map {wi : TI} {j : Nat} {te : TE} {Φ : List PyData → Prop} {Ψ : PyData → Prop} (hi : EvIR K wi ρ Φ) (hz : ∀ ds, Φ ds → ds.length ≤ sizeLine)
    (he : ∀ ds, Φ ds → ∀ d, d ∈ ds → EvR K te (ρ.set j (some d)) Ψ) : EvFR K (tLc wi (gName j) tYes te [j]) ρ (fun es => ∃ ds, Φ ds ∧ es.length = ds.length ∧ ∀ e ∈ es, Ψ e) := fun S σ H Q hd hen hq =>
  hi S σ H _ hd hen fun J H1 ds s1 fds wk D nD => by
    have d1 : Dom H1 S := hd.same s1
    have e1 : EnvD K H1 S σ ρ := hen.same s1
    let Pv : Nat → Hp → Prop := fun i H2 => i ≤ ds.length ∧ SameG H1 H2 ∧ ∃ acc es, H2 D = some (.lst acc) ∧ RpAll K (hid H2 (D :: S)) acc es ∧ es.length = i ∧ ∀ e ∈ es, Ψ e
    refine ⟨fun i m H2 => m = ds.length - i ∧ Pv i H2, ⟨_, rfl, Nat.zero_le _, same_new nD, [], [], upd_same, .nil, rfl, fun e h => by cases h⟩, ?_⟩
    rintro i m H2 ⟨rfl, hi, sm, acc, es, hD, ra, le, he2⟩
    have nDS := d1.fresh nD
    have dT : Dom H2 (D :: S) := (d1.same sm).cons hD
    have sh : ∀ (H3 : Hp), SameG H2 H3 → Same (hid H1 S) (hid H3 (D :: S)) := fun H3 s3 b o hb => by
      have hH : H1 b = some o := hid_sub b o hb
      refine hid_at ((sm.trans s3).at (hid_out hb).2 hH) ⟨fun z => ?_, (hid_out hb).2⟩
      rcases List.mem_cons.mp z with e | e
      · exact ne_of_none hH nD e
      · exact (hid_out hb).1 e
    by_cases hlt : i < ds.length
    · have hdi := List.getElem?_eq_getElem hlt
      obtain ⟨w1, w2⟩ := (wk i (D :: S) H2 dT (sh _ (SameG.refl _))).1 _ hdi
      refine .inr ⟨w1, fun H' => Pv (i + 1) H', fun H' p => ⟨_, by omega, rfl, p⟩, fun x H3 hy => ?_⟩
      obtain ⟨s3, r3⟩ := w2 x H3 hy
      have hD3 : H3 D = some (.lst acc) := s3.at nDS.2 hD
      have d3 : Dom H3 (D :: S) := dT.same s3
      obtain ⟨ws, rw_, f⟩ := g_name (i := j) (d := ds[i]) (K := K) (D :: S) H3 x r3
      refine f _ _ ⟨by rw [wipe_setV (by simp), wipe_wipe], ?_⟩
      have e3 : EnvD K H3 (D :: S) (setV (wipe σ [j]) [j] ws) (setE (wipeE ρ [j]) [(j, ds[i])]) := ((e1.wipe [j]).hide (sh _ s3)).setV rw_
      have e3' : EnvD K H3 (D :: S) (setV (wipe σ [j]) [j] ws) (ρ.set j (some ds[i])) := by
        have q : setE (wipeE ρ [j]) [(j, ds[i])] = ρ.set j (some ds[i]) := by
          show (ρ.set j none).set j (some ds[i]) = _
          rw [List.set_set]
        rw [← q]
        exact e3
      refine b_yes (K := K) (ρ := ρ.set j (some ds[i])) (D :: S) _ H3 _ d3 e3' fun H4 s4 => L2.iteT ?_
      refine he ds fds _ (List.getElem_mem hlt) (D :: S) _ H4 _ (d3.same s4) (e3'.same s4) fun y H5 dy s5 fy r5 => ?_
      have hD5 : H5 D = some (.lst acc) := s5.at nDS.2 (s4.at nDS.2 hD3)
      have hal : acc.length < sizeLine := by
        have h1 := ra.len
        have h2 := hz ds fds
        omega
      refine ⟨acc, hD5, hal, hlt, (sm.trans (s3.trans (s4.trans s5))).updN nD, acc ++ [y], es ++ [dy], upd_same, ?_, by rw [List.length_append, le]; rfl, fun e h => ?_⟩
      · refine RpAll.same (hid_upd List.mem_cons_self) ?_
        exact (ra.same (hid_same (s3.trans (s4.trans s5)))).app (.cons r5 .nil)
      · rcases List.mem_append.mp h with z | z
        · exact he2 e z
        · rw [List.mem_singleton.mp z]
          exact fy
    · exact .inl ⟨(wk i (D :: S) H2 dT (sh _ (SameG.refl _))).2 (by omega), hq D H2 acc es (s1.trans sm) ⟨ds, fds, by omega, he2⟩ (s1.free nD) hD ra⟩
/-! ### the springs themselves -/
theorem z_spr {j k : Nat} (h : ρ[j]? = some (some sprD)) (hk : k < 3) : EvZ K (tOp (rIxL K) (tVar j) (tC (.int k))) ρ (fun _ => True) := fun S σ H Q hd he hq => by
  obtain ⟨v, hv, r⟩ := he.2 j sprD h
  generalize e : sprD = d at r
  cases r with
  | spr m =>
    rename_i a
    obtain ⟨x, y, z, q⟩ := hd.2 a m
    refine ⟨_, hv, ?_⟩
    have : k = 0 ∨ k = 1 ∨ k = 2 := by omega
    rcases this with rfl | rfl | rfl
    · exact ⟨a, _, _, .int x, rfl, rfl, .inl (.inl q), rfl, hq _ _ (SameG.refl _) trivial⟩
    · exact ⟨a, _, _, .int y, rfl, rfl, .inl (.inl q), rfl, hq _ _ (SameG.refl _) trivial⟩
    · exact ⟨a, _, _, .int z, rfl, rfl, .inl (.inl q), rfl, hq _ _ (SameG.refl _) trivial⟩
  | scr m => cases e
  | tab => cases e
  | pt => cases e
  | exc => cases e
  | exp => cases e
  | non => cases e
  | bl => cases e
  | int => cases e
  | str => cases e
  | lst => cases e
  | tup => cases e
end Dx
namespace Dx
open PySem PySem.Spec L2
open PyProof.Rows hiding St
variable [G : Sprs] {K : PySem.W.Frag} {ρ : STt} {P : Post}
/-! ### statements of what may come -/
theorem x_setR {i : Nat} {te : TE} {Φ : PyData → Prop} (h : EvR K te (vs ρ) Φ) (hp : ∀ d, Φ d → P.nx (ρ.set i (.dat d))) : ExD K (tAsg te (gName i)) ρ P := fun S O H0 D σ H hd st p =>
  h (O ++ S) σ H _ (st.domO hd) st.env fun v H' d s f r => p.nx O _ _ H' (hp d f) ((st.same s).put r)
theorem x_ssetR {i : Nat} {te : TE} {u : TS} {Φ : PyData → Prop} (h : EvR K te (vs ρ) Φ) (g : ∀ d, Φ d → ExD K u (ρ.set i (.dat d)) P) : ExD K (tSeq (tAsg te (gName i)) u) ρ P :=
  x_seq (M := fun z => ∃ d, Φ d ∧ z = ρ.set i (.dat d)) (x_setR h fun d f => ⟨d, f, rfl⟩) fun z ⟨d, f, e⟩ => by
    subst e
    exact g d f
theorem x_ownR {i : Nat} {te : TE} {Φ : List PyData → Prop} (h : EvFR K te (vs ρ) Φ) (hp : ∀ ds, Φ ds → P.nx (ρ.set i (.own ds))) : ExD K (tAsg te (gName i)) ρ P := fun S O H0 D σ H hd st p =>
  h (O ++ S) σ H _ (st.domO hd) st.env fun q H' xs ds s f hn hq r => p.nx (q :: O) _ _ H' (hp ds f) (st.own_new hd s hn hq r)
theorem x_sownR {i : Nat} {te : TE} {u : TS} {Φ : List PyData → Prop} (h : EvFR K te (vs ρ) Φ) (g : ∀ ds, Φ ds → ExD K u (ρ.set i (.own ds)) P) : ExD K (tSeq (tAsg te (gName i)) u) ρ P :=
  x_seq (M := fun z => ∃ d, Φ d ∧ z = ρ.set i (.own d)) (x_ownR h fun d f => ⟨d, f, rfl⟩) fun z ⟨d, f, e⟩ => by
    subst e
    exact g d f
theorem x_retR {te : TE} {Φ : PyData → Prop} (h : EvR K te (vw ρ) Φ) (hp : ∀ d, Φ d → P.rt d) : ExD K (tRet te) ρ P := fun S O H0 D σ H hd st p =>
  h S σ H _ (hd.same st.sm) (st.envW hd) fun v H' d s f r => p.rt d v H' (hp d f) (st.sm.trans s) r
theorem x_ifR {c : TT} {t u : TS} {Χ : Bool → Prop} (h : EvBR K c (vw ρ) Χ) (h1 : Χ true → ExD K t ρ P) (h2 : Χ false → ExD K u ρ P) : ExD K (tIfS c t u) ρ P := fun S O H0 D σ H hd st p =>
  h S σ H _ (hd.same st.sm) (st.envW hd) fun b H' s f => by
    cases b with
    | true => exact h1 f S O H0 D σ H' hd (st.same s) p
    | false => exact h2 f S O H0 D σ H' hd (st.same s) p
theorem x_sifR {c : TT} {t u : TS} {Χ : Bool → Prop} (h : EvBR K c (vw ρ) Χ) (h1 : Χ true → ExD K (tSeq t u) ρ P) (h2 : Χ false → ExD K u ρ P) : ExD K (tSeq (tIfS c t tNext) u) ρ P := fun S O H0 D σ H hd st p =>
  h S σ H _ (hd.same st.sm) (st.envW hd) fun b H' s f => by
    cases b with
    | true => exact h1 f S O H0 D σ H' hd (st.same s) p
    | false => exact h2 f S O H0 D σ H' hd (st.same s) p
theorem x_appR {i : Nat} {te : TE} {ds : List PyData} {Φ : PyData → Prop} (ho : ρ[i]? = some (.own ds)) (h : EvR K te (vs ρ) Φ) (hz : ds.length < sizeLine) (hp : ∀ d, Φ d → P.nx (ρ.set i (.own (ds ++ [d])))) :
    ExD K (tDrop (tBM K "list" rAppend (tVar i) (tCons te tNil))) ρ P := fun S O H0 D σ H hd st p => by
  obtain ⟨a, xs, ha, hs, hH, rx⟩ := st.own i ds ho
  refine ⟨_, hs, .inl ⟨rfl, _, .inl (.inl hH)⟩, ?_⟩
  refine h (O ++ S) σ H _ (st.domO hd) st.env fun v H' d s f r => ?_
  refine ⟨a, xs, v, rfl, rfl, s.at (st.ng a ha) hH, by rw [rx.len]; exact hz, ?_⟩
  exact p.nx O _ _ _ (hp d f) ((st.same s).own_upd ho ha hs ((rx.same (hid_same s)).app (.cons r .nil)))
theorem x_appRW {i : Nat} {te : TE} {ds : List PyData} {Φ : PyData → Prop} (ho : ρ[i]? = some (.own ds)) (h : EvR K te (vw ρ) Φ) (hn : ∀ d, Φ d → noL d = true) (hz : ds.length < sizeLine) (hp : ∀ d, Φ d → P.nx (ρ.set i (.own (ds ++ [d])))) :
    ExD K (tDrop (tBM K "list" rAppend (tVar i) (tCons te tNil))) ρ P := fun S O H0 D σ H hd st p => by
  obtain ⟨a, xs, ha, hs, hH, rx⟩ := st.own i ds ho
  refine ⟨_, hs, .inl ⟨rfl, _, .inl (.inl hH)⟩, ?_⟩
  refine h S σ H _ (hd.same st.sm) (st.envW hd) fun v H' d s f r => ?_
  refine ⟨a, xs, v, rfl, rfl, s.at (st.ng a ha) hH, by rw [rx.len]; exact hz, ?_⟩
  exact p.nx O _ _ _ (hp d f) ((st.same s).own_upd ho ha hs ((rx.same (hid_same s)).app (.cons (rp_hide (fun a ha => ((st.same s).lst a ha).2) (hn d f) r) .nil)))
theorem x_asgR {te : TE} {g : TG} {Φ : PyData → Prop} (h : EvR K te (vs ρ) Φ) (hg : ∀ d, Φ d → ∃ L, EvG K g d L ∧ P.nx (putL ρ L)) : ExD K (tAsg te g) ρ P := fun S O H0 D σ H hd st p =>
  h (O ++ S) σ H _ (st.domO hd) st.env fun v H' d s f r => by
    obtain ⟨L, g1, g2⟩ := hg d f
    obtain ⟨ws, rw_, f⟩ := g1 (O ++ S) H' v r
    exact f σ _ (p.nx O _ _ H' g2 ((st.same s).putV rw_))
theorem x_sasgR {te : TE} {g : TG} {u : TS} {Φ : PyData → Prop} (h : EvR K te (vs ρ) Φ) (hg : ∀ d, Φ d → ∃ L, EvG K g d L ∧ ExD K u (putL ρ L) P) : ExD K (tSeq (tAsg te g) u) ρ P :=
  x_seq (M := fun z => ExD K u z P) (x_asgR h hg) fun z e => e
theorem x_sparR {i j : Nat} {ta : TA} {u : TS} {Φ : List PyData → Prop} (h : EvLR K ta (vs ρ) Φ) (g : ∀ ds, Φ ds → ∃ d e, ds = [d, e] ∧ ExD K u ((ρ.set i (.dat d)).set j (.dat e)) P) : ExD K (tSeq (tPar i j ta) u) ρ P :=
  x_seq (M := fun z => ExD K u z P) (fun S O H0 D σ H hd st p => h (O ++ S) σ H _ (st.domO hd) st.env fun xs H' ds s f r => by
    obtain ⟨d, e, e1, hx⟩ := g ds f
    subst e1
    cases r with
    | cons r1 r2 =>
      cases r2 with
      | cons r2 r3 =>
        cases r3
        exact ⟨_, _, rfl, p.nx O _ _ H' hx (((st.same s).put r1).put r2)⟩) fun z e => e
theorem x_parR {i j : Nat} {ta : TA} {Φ : List PyData → Prop} (h : EvLR K ta (vs ρ) Φ) (g : ∀ ds, Φ ds → ∃ d e, ds = [d, e] ∧ P.nx ((ρ.set i (.dat d)).set j (.dat e))) : ExD K (tPar i j ta) ρ P :=
  fun S O H0 D σ H hd st p => h (O ++ S) σ H _ (st.domO hd) st.env fun xs H' ds s f r => by
    obtain ⟨d, e, e1, hx⟩ := g ds f
    subst e1
    cases r with
    | cons r1 r2 =>
      cases r2 with
      | cons r2 r3 =>
        cases r3
        exact ⟨_, _, rfl, p.nx O _ _ H' hx (((st.same s).put r1).put r2)⟩
/-- a, b = e, [..] with the second a list of one's own -/
theorem x_sparRO {i j : Nat} {t1 t2 : TE} {u : TS} {Φ : PyData → Prop} {Ψ : List PyData → Prop} (h1 : EvR K t1 (vs ρ) Φ) (h2 : EvFR K t2 (vs ρ) Ψ) (g : ∀ d ds, Φ d → Ψ ds → ExD K u ((ρ.set i (.dat d)).set j (.own ds)) P) :
    ExD K (tSeq (tPar i j (tCons t1 (tCons t2 tNil))) u) ρ P :=
  x_seq (M := fun z => ExD K u z P) (fun S O H0 D σ H hd st p => h1 (O ++ S) σ H _ (st.domO hd) st.env fun v H1 d s1 f1 r1 =>
    h2 (O ++ S) σ H1 _ ((st.same s1).domO hd) (st.same s1).env fun q H2 xs ds s2 f2 hn hq r2 => ⟨_, _, rfl, p.nx (q :: O) _ _ H2 (g d ds f1 f2) (((st.same s1).put r1).own_new hd s2 hn hq r2)⟩) fun z e => e
theorem x_sparOR {i j : Nat} {t1 t2 : TE} {u : TS} {Φ : PyData → Prop} {Ψ : List PyData → Prop} (h1 : EvFR K t1 (vs ρ) Ψ) (h2 : EvR K t2 (vs ρ) Φ) (g : ∀ d ds, Φ d → Ψ ds → ExD K u ((ρ.set i (.own ds)).set j (.dat d)) P) :
    ExD K (tSeq (tPar i j (tCons t1 (tCons t2 tNil))) u) ρ P :=
  x_seq (M := fun z => ExD K u z P) (fun S O H0 D σ H hd st p => h1 (O ++ S) σ H _ (st.domO hd) st.env fun q H1 xs ds s1 f1 hn hq r1 => by
    have hd1 : Dom H1 (q :: (O ++ S)) := ((st.domO hd).same s1).cons hq
    have nq := ((st.domO hd).fresh hn)
    have env1 : EnvD K H1 (q :: (O ++ S)) σ (vs ρ) := st.env.hide (fun b o hb => by
      have hH : H b = some o := hid_sub b o hb
      refine hid_at (s1.at (hid_out hb).2 hH) ⟨fun z => ?_, (hid_out hb).2⟩
      rcases List.mem_cons.mp z with e | e
      · exact ne_of_none hH hn e
      · exact (hid_out hb).1 e)
    refine h2 (q :: (O ++ S)) σ H1 _ hd1 env1 fun v H2 d s2 f2 r2 => ?_
    exact ⟨_, _, rfl, p.nx (q :: O) _ _ H2 (g d ds f2 f1) ((st.own_new hd (s1.trans s2) hn (s2.at nq.2 hq) (r1.same (hid_same s2))).put r2)⟩) fun z e => e
/-! ### a spring written -/
theorem SameG.spr {H : Hp} {a : Addr} {i j k : Int} (m : a ∈ G.g) : SameG H (upd H a (.lst [.int i, .int j, .int k])) := fun b o h => by
  by_cases e : b = a
  · subst e
    exact .inr ⟨m, ⟨_, upd_same⟩, fun _ => ⟨i, j, k, upd_same⟩⟩
  · by_cases q : b ∈ G.g
    · exact .inr ⟨q, ⟨o, by rw [upd_ne e]; exact h⟩, fun ⟨x, y, z, w⟩ => ⟨x, y, z, by rw [upd_ne e]; exact w⟩⟩
    · exact .inl ⟨q, by rw [upd_ne e]; exact h⟩
theorem x_sprset {j k : Nat} {te : TE} {φ : Int → Prop} (h : ρ[j]? = some (.dat sprD)) (hk : k < 3) (ht : EvZ K te (vs ρ) φ) (hp : P.nx ρ) : ExD K (tAsg te (gSub (tVar j) (tC (.int k)) L2.rSetL)) ρ P := fun S O H0 D σ H hd st p => by
  obtain ⟨v, hv, r⟩ := st.dat j _ h
  generalize e : sprD = d at r
  cases r with
  | spr m =>
    rename_i a
    refine ht (O ++ S) σ H _ (st.domO hd) st.env fun i H1 s1 f1 => ?_
    obtain ⟨x, y, z, q⟩ := (hd.same ((st.same s1).sm)).2 a m
    refine ⟨_, hv, ?_⟩
    have : k = 0 ∨ k = 1 ∨ k = 2 := by omega
    rcases this with rfl | rfl | rfl
    · exact ⟨a, _, _, 0, rfl, rfl, q, rfl, p.nx O _ _ _ hp (st.same (s1.trans (.spr m)))⟩
    · exact ⟨a, _, _, 1, rfl, rfl, q, rfl, p.nx O _ _ _ hp (st.same (s1.trans (.spr m)))⟩
    · exact ⟨a, _, _, 2, rfl, rfl, q, rfl, p.nx O _ _ _ hp (st.same (s1.trans (.spr m)))⟩
  | scr m => cases e
  | non => cases e
  | bl => cases e
  | tab => cases e
  | pt => cases e
  | exc => cases e
  | exp => cases e
  | int => cases e
  | str => cases e
  | lst => cases e
  | tup => cases e
/-! ### a spring made -/
mutual
def noS : PyData → Bool
  | .dict l => !l.isEmpty
  | .list ds => noSs ds
  | .tuple ds => noSs ds
  | _ => true
def noSs : List PyData → Bool
  | [] => true
  | d :: ds => noS d && noSs ds
end
mutual
theorem noX_noS : ∀ d : PyData, noX d = true → noS d = true
  | .dict _, h => by simp [noX] at h
  | .list ds, h => noXs_noSs ds h
  | .tuple ds, h => noXs_noSs ds h
  | .none, _ => rfl
  | .bool _, _ => rfl
  | .int _, _ => rfl
  | .str _, _ => rfl
theorem noXs_noSs : ∀ ds : List PyData, noXs ds = true → noSs ds = true
  | [], _ => rfl
  | d :: ds, h => by
    simp only [noXs, Bool.and_eq_true] at h
    simp only [noSs, Bool.and_eq_true]
    exact ⟨noX_noS d h.1, noXs_noSs ds h.2⟩
end
def clS : Sl → Sl
  | .dat d => if noS d = true then .dat d else .no
  | .own ds => if noSs ds = true then .own ds else .no
  | .no => .no
abbrev clE (ρ : STt) : STt := ρ.map clS
mutual
theorem Rp.more (G1 G2 : Sprs) {H1 H2 : Hp} (hg : ∀ a ∈ G1.g, a ∈ G2.g) (e : Same H1 H2) (v : V) (d : PyData) (h : @Rp G1 K H1 v d) : @Rp G2 K H2 v d := by
  cases h with
  | non => exact @Rp.non G2 _ _
  | bl b => exact @Rp.bl G2 _ _ b
  | int i => exact @Rp.int G2 _ _ i
  | str x => exact @Rp.str G2 _ _ x
  | lst h r => exact @Rp.lst G2 _ _ _ _ _ (e _ _ h) (RpAll.more G1 G2 hg e _ _ r)
  | tup h r => exact @Rp.tup G2 _ _ _ _ _ (sqT_same e h) (RpAll.more G1 G2 hg e _ _ r)
  | scr h => exact @Rp.scr G2 _ _ _ _ (h.same e)
  | spr h => exact @Rp.spr G2 _ _ _ (hg _ h)
  | tab h r => exact @Rp.tab G2 _ _ _ _ _ _ (h.same e) (r.same e)
  | pt h => exact @Rp.pt G2 _ _ _ _ (e _ _ h)
  | exc h => exact @Rp.exc G2 _ _ _ _ (e _ _ h)
  | exp h1 h2 n r => exact @Rp.exp G2 _ _ _ _ _ _ _ _ (e _ _ h1) (e _ _ h2) n (Rp.more G1 G2 hg e _ _ r)
theorem RpAll.more (G1 G2 : Sprs) {H1 H2 : Hp} (hg : ∀ a ∈ G1.g, a ∈ G2.g) (e : Same H1 H2) (vs : List V) (ds : List PyData) (h : @RpAll G1 K H1 vs ds) : @RpAll G2 K H2 vs ds := by
  cases h with
  | nil => exact @RpAll.nil G2 _ _
  | cons h r => exact @RpAll.cons G2 _ _ _ _ _ _ (Rp.more G1 G2 hg e _ _ h) (RpAll.more G1 G2 hg e _ _ r)
end
mutual
theorem Rp.less (G1 G2 : Sprs) {H1 H2 : Hp} (e : Same H1 H2) (v : V) (d : PyData) (n : noS d = true) (h : @Rp G1 K H1 v d) : @Rp G2 K H2 v d := by
  cases h with
  | non => exact @Rp.non G2 _ _
  | bl b => exact @Rp.bl G2 _ _ b
  | int i => exact @Rp.int G2 _ _ i
  | str x => exact @Rp.str G2 _ _ x
  | lst h r => exact @Rp.lst G2 _ _ _ _ _ (e _ _ h) (RpAll.less G1 G2 e _ _ (by simpa [noS] using n) r)
  | tup h r => exact @Rp.tup G2 _ _ _ _ _ (sqT_same e h) (RpAll.less G1 G2 e _ _ (by simpa [noS] using n) r)
  | scr h => exact @Rp.scr G2 _ _ _ _ (h.same e)
  | spr h => simp [noS] at n
  | tab h r => exact @Rp.tab G2 _ _ _ _ _ _ (h.same e) (r.same e)
  | pt h => exact @Rp.pt G2 _ _ _ _ (e _ _ h)
  | exc h => exact @Rp.exc G2 _ _ _ _ (e _ _ h)
  | exp h1 h2 n2 r => exact @Rp.exp G2 _ _ _ _ _ _ _ _ (e _ _ h1) (e _ _ h2) n2 (Rp.less G1 G2 e _ _ (noX_noS _ n2) r)
theorem RpAll.less (G1 G2 : Sprs) {H1 H2 : Hp} (e : Same H1 H2) (vs : List V) (ds : List PyData) (n : noSs ds = true) (h : @RpAll G1 K H1 vs ds) : @RpAll G2 K H2 vs ds := by
  cases h with
  | nil => exact @RpAll.nil G2 _ _
  | cons h r =>
    simp only [noSs, Bool.and_eq_true] at n
    exact @RpAll.cons G2 _ _ _ _ _ _ (Rp.less G1 G2 e _ _ n.1 h) (RpAll.less G1 G2 e _ _ n.2 r)
end
omit G in
theorem cl_at {s t : Sl} (h : clS s = t) (n : t ≠ .no) : s = t ∧ (∀ d, t = .dat d → noS d = true) ∧ ∀ ds, t = .own ds → noSs ds = true := by
  cases s with
  | no => exact absurd h.symm n
  | dat d =>
    have h' : (if noS d = true then Sl.dat d else Sl.no) = t := h
    by_cases q : noS d = true
    · rw [if_pos q] at h'
      subst h'
      exact ⟨rfl, (fun e z => by cases z; exact q), (fun e z => by cases z)⟩
    · rw [if_neg q] at h'
      exact absurd h'.symm n
  | own d =>
    have h' : (if noSs d = true then Sl.own d else Sl.no) = t := h
    by_cases q : noSs d = true
    · rw [if_pos q] at h'
      subst h'
      exact ⟨rfl, (fun e z => by cases z), (fun e z => by cases z; exact q)⟩
    · rw [if_neg q] at h'
      exact absurd h'.symm n
omit G in
theorem cl_get {ρ : STt} {i : Nat} {t : Sl} (h : (clE ρ)[i]? = some t) (n : t ≠ .no) : ρ[i]? = some t ∧ (∀ d, t = .dat d → noS d = true) ∧ ∀ ds, t = .own ds → noSs ds = true := by
  rw [List.getElem?_map] at h
  cases e : ρ[i]? with
  | none => rw [e] at h; cases h
  | some x =>
    rw [e] at h
    obtain ⟨a, b⟩ := cl_at (Option.some.inj h) n
    exact ⟨by rw [a], b⟩
omit G in
theorem cl_dat {ρ : STt} {i : Nat} {d : PyData} (h : (clE ρ)[i]? = some (.dat d)) : ρ[i]? = some (.dat d) ∧ noS d = true := by
  obtain ⟨a, b, c⟩ := cl_get h (fun z => by cases z)
  exact ⟨a, b d rfl⟩
omit G in
theorem cl_own {ρ : STt} {i : Nat} {d : List PyData} (h : (clE ρ)[i]? = some (.own d)) : ρ[i]? = some (.own d) ∧ noSs d = true := by
  obtain ⟨a, b, c⟩ := cl_get h (fun z => by cases z)
  exact ⟨a, c d rfl⟩
theorem x_sspr {i : Nat} {te : TE} {u : TS} {a b c : Int} (h : EvF K te (vs ρ) [.int a, .int b, .int c])
    (g : ∀ G' : Sprs, @ExD G' K u (ρ.set i (.dat sprD)) { nx := fun z => P.nx (clE z), rt := fun d => P.rt d ∧ noS d = true, bk := fun z => P.bk (clE z), ct := fun z => P.ct (clE z), rf := fun ds => P.rf ds ∧ noSs ds = true }) :
    ExD K (tSeq (tAsg te (gName i)) u) ρ P := fun S O H0 D σ H hd st p =>
  h (O ++ S) σ H _ (st.domO hd) st.env fun q H1 xs s1 hn hq r1 => by
    have hx : xs = [.int a, .int b, .int c] := RpAll.ints (ns := [a, b, c]) r1
    subst hx
    have st1 := st.same s1
    obtain ⟨stu, eu⟩ := st1.up
    have nq := (st.domO hd).fresh hn
    have nqO : q ∉ O := fun z => nq.1 (List.mem_append_left _ z)
    have n0 : H0 q = none := st.sm.free hn
    have hdu := hd.same eu
    -- views
    have vm : ∀ T : List Addr, (∀ x ∈ T, x ∈ O ++ S) → Same (hid H (O ++ S)) (@hid ⟨q :: G.g⟩ H1 T) := fun T hT b o hb => by
      have hH : H b = some o := hid_sub b o hb
      refine @hid_at ⟨q :: G.g⟩ _ _ _ _ (s1.at (hid_out hb).2 hH) ⟨fun z => (hid_out hb).1 (hT _ z), fun z => ?_⟩
      rcases List.mem_cons.mp z with e | e
      · exact ne_of_none hH hn e
      · exact (hid_out hb).2 e
    have gm : ∀ x ∈ G.g, x ∈ (⟨q :: G.g⟩ : Sprs).g := fun x hx => List.mem_cons_of_mem _ hx
    have hd' : @Dom ⟨q :: G.g⟩ (hid0 H1 O) S := ⟨hdu.1, fun x m => by
      rcases List.mem_cons.mp m with e | e
      · subst e
        exact ⟨a, b, c, hid0_at hq nqO⟩
      · exact hdu.2 x e⟩
    have st0 : @StD ⟨q :: G.g⟩ K (hid0 H1 O) S O ρ σ H1 := by
      refine @StD.mk ⟨q :: G.g⟩ _ _ _ _ _ _ _ st.len ?_ ?_ st.ap stu.lst (@SameG.of ⟨q :: G.g⟩ _ _ hid0_sub) ?_
      · intro k d z
        obtain ⟨v, y, r⟩ := st.dat k d z
        exact ⟨v, y, Rp.more G ⟨q :: G.g⟩ gm (vm _ fun _ w => w) _ _ r⟩
      · intro k ds z
        obtain ⟨x, ys, h1, h2, h3, h4⟩ := st.own k ds z
        exact ⟨x, ys, h1, h2, s1.at (st.ng x h1) h3, RpAll.more G ⟨q :: G.g⟩ gm (vm _ fun _ w => w) _ _ h4⟩
      · intro x hx z
        rcases List.mem_cons.mp z with e | e
        · exact nqO (e ▸ hx)
        · exact st.ng x hx e
    have st' := @StD.put ⟨q :: G.g⟩ _ _ _ _ _ _ _ i (.ref q) sprD st0 (@Rp.spr ⟨q :: G.g⟩ _ _ _ List.mem_cons_self)
    -- back
    have sb : ∀ {H' : Hp}, @SameG ⟨q :: G.g⟩ (hid0 H1 O) H' → SameG H0 H' := fun {H'} s x o hx => by
      have ne : x ≠ q := ne_of_none hx n0
      have key : x ∉ G.g → x ∉ (⟨q :: G.g⟩ : Sprs).g := fun w z => by
        rcases List.mem_cons.mp z with e | e
        · exact ne e
        · exact w e
      rcases eu x o hx with ⟨w, h1⟩ | ⟨w, ⟨o1, h1⟩, z⟩
      · rcases s x o h1 with ⟨_, h2⟩ | ⟨m, _⟩
        · exact .inl ⟨w, h2⟩
        · exact absurd m (key w)
      · rcases s x o1 h1 with ⟨m, _⟩ | ⟨_, h2, z2⟩
        · exact absurd (gm x w) m
        · exact .inr ⟨w, h2, fun y => z2 (z y)⟩
    have vl : ∀ (H' : Hp) (T : List Addr), Same (@hid ⟨q :: G.g⟩ H' T) (hid H' T) := fun H' T b o hb => by
      have := @hid_out ⟨q :: G.g⟩ _ _ _ _ hb
      exact hid_at (@hid_sub ⟨q :: G.g⟩ _ _ _ _ hb) ⟨this.1, fun z => this.2 (List.mem_cons_of_mem _ z)⟩
    have back : ∀ (O' : List Addr) (ρ' : STt) (σ' : L2.St) (H' : Hp), @StD ⟨q :: G.g⟩ K (hid0 H1 O) S O' ρ' σ' H' → StD K H0 S O' (clE ρ') σ' H' := fun O' ρ' σ' H' t => by
      obtain ⟨t1, t2, t3, t4, t5, t6, t7⟩ := t
      refine ⟨by rw [List.length_map]; exact t1, fun k d z => ?_, fun k ds z => ?_, fun k l ds es x z z' => t4 k l ds es x (cl_own z).1 (cl_own z').1, fun x hx => ⟨eu.free (t5 x hx).1, (t5 x hx).2⟩, sb t6, fun x hx z => t7 x hx (List.mem_cons_of_mem _ z)⟩
      · obtain ⟨z1, z2⟩ := cl_dat z
        obtain ⟨v, y, r⟩ := t2 k d z1
        exact ⟨v, y, Rp.less ⟨q :: G.g⟩ G (vl _ _) _ _ z2 r⟩
      · obtain ⟨z1, z2⟩ := cl_own z
        obtain ⟨x, ys, h1, h2, h3, h4⟩ := t3 k ds z1
        exact ⟨x, ys, h1, h2, h3, RpAll.less ⟨q :: G.g⟩ G (vl _ _) _ _ z2 h4⟩
    refine g ⟨q :: G.g⟩ S O (hid0 H1 O) D _ H1 hd' st' ?_
    refine @PostOK.mk ⟨q :: G.g⟩ _ _ _ _ _ ?_ ?_ ?_ ?_ ?_
    · exact fun O' ρ' σ' H' hp t => p.nx O' _ σ' H' hp (back _ _ _ _ t)
    · exact fun d v H' hp s r => p.rt d v H' hp.1 (sb s) (Rp.less ⟨q :: G.g⟩ G (vl _ _) _ _ hp.2 r)
    · exact fun O' ρ' σ' H' hp t => p.bk O' _ σ' H' hp (back _ _ _ _ t)
    · exact fun O' ρ' σ' H' hp t => p.ct O' _ σ' H' hp (back _ _ _ _ t)
    · exact fun ds y ys H' hp s n z r => p.rf ds y ys H' hp.1 (sb s) (eu.free n) z (RpAll.less ⟨q :: G.g⟩ G (vl _ _) _ _ hp.2 r)
/-! ### a def of which something holds -/
omit G in
theorem fnR_ok {Pg : Program} {w : World} {mg : Str → Option Value} {base : Heap} {x qual : Str} {st : Stmt} {f : Addr} {fd : FuncData} {N ps : List Str} {k : Nat} {pre : List PyData → Prop} {post : List PyData → PyData → Prop}
    (F : Fun K x qual st f fd) (Sc : FnScope N ps (defScope st)) (len : ∀ ds, pre ds → ds.length = ps.length)
    (hbody : ∀ (cdv : Value) (A : Around) (out : List PySem.Env) (s : Shared) (H : Hp) (E : XK), Clr (A.deeper (envOfC qual (defScope st) s.heap.objs.size f cdv)) → Room k (A.deeper (envOfC qual (defScope st) s.heap.objs.size f cdv)) →
      ∃ t, PSs (cxOf CX0 Pg w K mg base N qual (defScope st) f cdv A out s H E).nox (defBody st) t ∧ ∀ [Sprs] (ds : List PyData), pre ds → ExD K t (startE N ds) { nx := fun _ => post ds .none, rt := post ds }) : FnG Pg w K mg base CX0 (k + 1) f fd ps (spR K pre post) := by
  refine Fun.okG F Sc (fun vs H Q E h => ?_) fun cdv A out s H vs Q E clr hr h => ?_
  · obtain ⟨G, S, ds, _, r, hp, _⟩ := h
    rw [r.len]
    exact len ds hp
  · obtain ⟨G, S, ds, hd, r, hp, hQ⟩ := h
    obtain ⟨t, ht, hx⟩ := hbody cdv A out s H E clr hr
    refine ⟨t, ht.nox, hx ds hp S [] H _ _ H hd (start_ok r) ⟨fun O ρ σ H' h st => ?_, fun d v H' h s r => ?_, fun _ _ _ _ h => h.elim, fun _ _ _ _ h => h.elim, fun _ _ _ _ h => h.elim⟩⟩
    · exact hQ _ _ _ st.sm h .non
    · exact hQ v H' d s h r
end Dx
namespace Dx
open PySem PySem.Spec L2
open PyProof.Rows hiding St
/-! ### sum of a tuple of integers -/
section
variable {prog : Program} {w : World} {A : Around} {E : Value → Shared → Prop} {s : Shared}
theorem preSum_getD (ns : List Int) : ∀ j, PySem.preSum (fun i => ns.getD i 0) j = (ns.take j).sum
  | 0 => by simp [PySem.preSum]
  | j + 1 => by
    rw [PySem.preSum, preSum_getD ns j, List.take_add_one, List.sum_append]
    congr 1
    rw [List.getD_eq_getElem?_getD]
    cases ns[j]? <;> simp
theorem sum_tupG {t : Addr} {items : Array Value} {ns : List Int} {Q : Value → Shared → Prop} (hh : A.handled = none) (ht : s.heap.IsTuple t items) (hi : IntsAre items.toList ns)
    (h : ∀ h' tk t', (∀ b o, s.heap.get? b = some o → h'.get? b = some o) → Q (.int ns.sum t') { s with heap := h', toks := tk }) :
    wpAny (model prog w) A (call (.builtin "sum") [.ref t]) Q E s := by
  have hlt : t < s.heap.objs.size := by obtain ⟨_, e, _⟩ := ht; exact Heap.lt_size e
  refine PySem.call_sum_walkG (wpAny_pyIter_tuple ht ?_)
  refine ⟨_, _, _, items.size, _, _, (fun i => ns.getD i 0), rfl, Walks.tuple (A := A.in1) hh s.heap.objs.size t (Nat.ne_of_lt hlt) items, ⟨⟨_, Heap.get?_push_size _ rfl, rfl, rfl⟩, ht.push _⟩, fun b hb => ?_, fun i v hv => ?_, fun h' tk t' hk => ?_⟩
  · show b < (s.heap.push _).objs.size
    rw [Heap.size_push]
    rcases List.mem_cons.mp hb with rfl | hb
    · exact Nat.lt_succ_self _
    · rcases List.mem_cons.mp hb with rfl | hb
      · exact Nat.lt_succ_of_lt hlt
      · cases hb
  · exact hi.int_at i v (by rw [Array.getElem?_toList]; exact hv)
  · have sz : items.size = ns.length := by
      rw [← Array.length_toList]
      exact hi.length
    rw [preSum_getD, sz, List.take_length]
    refine h h' tk t' fun b o e => hk b o (fun hm => ?_) (Heap.get?_push_of_some _ e)
    rcases List.mem_cons.mp hm with e1 | hm
    · exact absurd (e1 ▸ Heap.lt_size e) (Nat.lt_irrefl _)
    · cases hm
end
section
variable {X : Cx}
def rSumT (K : PySem.W.Frag) : List V → Hp → VK → Prop := fun vs H Q => ∃ (a : Addr) (ns : List Int), vs = [V.ref a] ∧ SqT K H a (ns.map V.int) ∧ Q (.int ns.sum) H
theorem cr_sumT (hc : X.calm = true) : CallR X (.builtin "sum") (rSumT X.K) := by
  intro pins s σ H vs us Q I r h
  obtain ⟨a, ns, rfl, hs, q⟩ := h
  obtain ⟨its, rv, ht, _⟩ := I.tuple hs
  rw [Vals.ref1 r]
  exact sum_tupG (I.ok.hd hc) ht (by simpa using rv.ints) fun h' tk t' hk => ⟨.int _, H, I.kept hk, ⟨_, rfl⟩, q⟩
end
variable [G : Sprs] {K : PySem.W.Frag} {ρ : Env}
theorem cb_sumT {t : TA} {ns : List Int} (h : EvL K t ρ [.tuple (ns.map PyData.int)]) : EvD K (tCB (rSumT K) t) ρ (.int ns.sum) := fun S σ H Q hd he hq =>
  h S σ H _ hd he fun xs H1 s1 r1 => by
    cases r1 with
    | cons r1 r2 =>
      cases r2
      obtain ⟨a, ys, e, ha, ry⟩ := r1.tupE
      exact ⟨a, ns, by rw [e], by rw [← ry.ints]; exact sqT_same hid_sub ha, hq _ _ s1 (.int _)⟩
theorem cb_sumL {t : TA} {ns : List Int} (h : EvL K t ρ [.list (ns.map PyData.int)]) : EvD K (tCB (rSum K) t) ρ (.int ns.sum) := fun S σ H Q hd he hq =>
  h S σ H _ hd he fun xs H1 s1 r1 => by
    cases r1 with
    | cons r1 r2 =>
      cases r2
      obtain ⟨a, ys, e, ha, ry⟩ := r1.lstE
      exact ⟨a, ns, by rw [e], .inl (.inl (by rw [← ry.ints]; exact hid_sub _ _ ha)), hq _ _ s1 (.int _)⟩
/-! ### script[:k] -/
theorem f_slS {ta : TE} {tl th : TO} {ns : List Int} {lo hi : Option Int} (ha : EvD K ta ρ (scrD ns)) (hl : EvO K tl ρ lo) (hh : EvO K th ρ hi) : EvF K (tSl (rSlL K) ta tl th) ρ (cutD (ns.map PyData.int) lo hi) := fun S σ H Q hd he hq =>
  ha S σ H _ hd he fun x H1 s1 r1 => hl S σ H1 _ (hd.same s1) (he.same s1) fun H2 s2 => by
    have s12 := s1.trans s2
    refine hh S σ H2 _ (hd.same s12) (he.same s12) fun H3 s3 => ?_
    have s := s12.trans s3
    obtain ⟨a, e, ha⟩ := (r1.same (hid_same (s2.trans s3))).scrE
    refine ⟨a, _, e, ha.out, fun p hp => ?_⟩
    exact hq p _ _ (s.trans (same_new hp)) (s.free hp) upd_same (fresh_list (H := H) hp (cut_rp (RpAll.ofInts ns) lo hi))
/-! ### what is walked: a list or a tuple -/
def iAny (K : PySem.W.Frag) (tl : TE) : TI := fun σ H R => tl σ H fun x H1 => ∃ a, x = .ref a ∧ (((∃ xs, SqL K H1 a xs) ∧ R (Itl K a) H1) ∨ ((∃ xs, SqT K H1 a xs) ∧ R (Itt K a) H1))
omit G in
theorem pi_any {X : Cx} {tg l : Expr} {tl : TE} (hl : PE X l tl) : PI X tg l (iAny X.K tl) := by
  refine ⟨fun pins s σ H R I h => ?_⟩
  refine thn (hl.run pins s σ H _ I h) fun v s1 ⟨x, H1, I1, r1, q1⟩ => ?_
  obtain ⟨a, e, q⟩ := q1
  subst e
  cases r1
  rcases q with ⟨⟨xs, hq⟩, q⟩ | ⟨⟨xs, hq⟩, q⟩
  · obtain ⟨its, rv, p, hz⟩ := I1.list hq
    refine wpAny_pyIter_list p.isList ?_
    refine ⟨s1.heap.objs.size, [s1.heap.objs.size], _, _, H1, rfl, I1.kept (t' := s1.toks) fun b o e => Heap.get?_push_of_some _ e, turn_list a _, ⟨_, Heap.get?_push_size _ rfl, rfl, rfl⟩, fun b hb => ?_, q⟩
    have e : b = s1.heap.objs.size := by simpa using hb
    subst e
    exact I1.fpOk (Nat.le_refl _) (I1.hok.fresh (Nat.le_refl _))
  · obtain ⟨its, rv, p, hz⟩ := I1.tuple hq
    refine wpAny_pyIter_tuple (show s1.heap.IsTuple a its.toArray from p) ?_
    refine ⟨s1.heap.objs.size, [s1.heap.objs.size], _, _, H1, rfl, I1.kept (t' := s1.toks) fun b o e => Heap.get?_push_of_some _ e, turn_tuple a _, ⟨_, Heap.get?_push_size _ rfl, rfl, rfl⟩, fun b hb => ?_, q⟩
    have e : b = s1.heap.objs.size := by simpa using hb
    subst e
    exact I1.fpOk (Nat.le_refl _) (I1.hok.fresh (Nat.le_refl _))
theorem i_anyL {tl : TE} {ds : List PyData} (h : EvD K tl ρ (.list ds)) : EvI K (iAny K tl) ρ ds := fun S σ H R hd he hq =>
  h S σ H _ hd he fun v H1 s r => by
    obtain ⟨a, xs, e, ha, rx⟩ := r.lstE
    refine ⟨a, e, .inl ⟨⟨xs, .inl (.inl (hid_sub _ _ ha))⟩, hq _ _ s ?_⟩⟩
    intro i T H2 hT s2
    have h2 : SqL K H2 a xs := .inl (.inl (hid_sub _ _ (s2 _ _ ha)))
    refine ⟨fun d hd => ?_, fun hi => ⟨xs, h2, by rw [rx.len]; exact hi⟩⟩
    obtain ⟨x, hx, rv⟩ := rx.at hd
    refine ⟨⟨xs, x, h2, hx⟩, fun y H3 hy => ?_⟩
    obtain ⟨rfl, f⟩ := hy
    have ey : y = x := Option.some.inj ((f xs h2).symm.trans hx)
    rw [ey]
    exact ⟨SameG.refl _, rv.same s2⟩
theorem i_anyT {tl : TE} {ds : List PyData} (h : EvD K tl ρ (.tuple ds)) : EvI K (iAny K tl) ρ ds := fun S σ H R hd he hq =>
  h S σ H _ hd he fun v H1 s r => by
    obtain ⟨a, xs, e, ha, rx⟩ := r.tupE
    refine ⟨a, e, .inr ⟨⟨xs, sqT_same hid_sub ha⟩, hq _ _ s ?_⟩⟩
    intro i T H2 hT s2
    have h2 : SqT K H2 a xs := sqT_same hid_sub (sqT_same s2 ha)
    refine ⟨fun d hd => ?_, fun hi => ⟨xs, h2, by rw [rx.len]; exact hi⟩⟩
    obtain ⟨x, hx, rv⟩ := rx.at hd
    refine ⟨⟨xs, x, h2, hx⟩, fun y H3 hy => ?_⟩
    obtain ⟨rfl, f⟩ := hy
    have ey : y = x := Option.some.inj ((f xs h2).symm.trans hx)
    rw [ey]
    exact ⟨SameG.refl _, rv.same s2⟩
/-! ### unpacking a list -/
theorem g_lst {n : Nat} {g : TGs} {ds : List PyData} {L : List (Nat × PyData)} (h : EvGs K g ds L) (hn : ds.length = n) : EvG K (gLst K n g) (.list ds) L := fun S H v r => by
  obtain ⟨a, xs, e, ha, rx⟩ := r.lstE
  obtain ⟨ws, q, f⟩ := h S H _ rx
  exact ⟨ws, q, fun σ Q h => ⟨a, xs, e, .inl (.inl (hid_sub _ _ ha)), by rw [rx.len]; exact hn, f σ Q h⟩⟩
/-! ### a loop over what may come -/
theorem x_forR {ρ : STt} {P : Post} {wi : TI} {g : TG} {tb : TS} {Φ : List PyData → Prop} (I : Nat → STt → Prop) (hw : EvIR K wi (vs ρ) Φ) (h0 : I 0 ρ)
    (hs : ∀ ds, Φ ds → ∀ i d ρ', ds[i]? = some d → I i ρ' → ∃ L, EvG K g d L ∧ ExD K tb (putL ρ' L) { nx := I (i + 1), ct := I (i + 1), bk := P.nx, rt := P.rt, rf := P.rf })
    (he : ∀ ds, Φ ds → ∀ ρ', I ds.length ρ' → P.nx ρ') : ExD K (tFor wi g tb) ρ P := fun S O H0 D σ H hd st p => by
  refine hw (O ++ S) σ H _ (st.domO hd) st.env fun J H1 ds s1 fds wk => ?_
  have st1 := st.same s1
  obtain ⟨stu, eu⟩ := st1.up
  have hdu := hd.same eu
  have pu := p.base eu
  refine ⟨fun i m σ2 H2 => m = ds.length - i ∧ i ≤ ds.length ∧ ∃ ρ2 O2, I i ρ2 ∧ StD K (hid0 H1 O) S O2 ρ2 σ2 H2, ⟨_, rfl, Nat.zero_le _, ρ, O, h0, stu⟩, ?_⟩
  rintro i m σ2 H2 ⟨rfl, hi, ρ2, O2, hI, st2⟩
  have wk2 := wk i (O2 ++ S) H2 (st2.domO hdu) st2.walk
  by_cases hlt : i < ds.length
  · have hdi := List.getElem?_eq_getElem hlt
    obtain ⟨w1, w2⟩ := wk2.1 _ hdi
    obtain ⟨L, hg, hb⟩ := hs ds fds i _ ρ2 hdi hI
    refine .inr ⟨w1, fun σ' H' => ∃ ρ' O', I (i + 1) ρ' ∧ StD K (hid0 H1 O) S O' ρ' σ' H', fun σ' H' ⟨ρ', O', q1, q2⟩ => ⟨_, by omega, rfl, hlt, ρ', O', q1, q2⟩, fun x H3 hy => ?_⟩
    obtain ⟨s3, r3⟩ := w2 x H3 hy
    obtain ⟨ws, rw_, f⟩ := hg (O2 ++ S) H3 x r3
    refine f σ2 _ ?_
    refine hb S O2 (hid0 H1 O) _ _ H3 hdu ((st2.same s3).putV rw_) ⟨fun O' ρ' σ' H' q1 q2 => ⟨ρ', O', q1, q2⟩, pu.rt, fun O' ρ' σ' H' q1 q2 => pu.nx O' ρ' σ' H' q1 q2, fun O' ρ' σ' H' q1 q2 => ⟨ρ', O', q1, q2⟩, pu.rf⟩
  · have ei : i = ds.length := by omega
    exact .inl ⟨wk2.2 (by omega), pu.nx O2 ρ2 σ2 H2 (he ds fds ρ2 (by rw [← ei]; exact hI)) st2⟩
/-! ### tests of what may come -/
theorem br_and {t u : TT} {Χ1 Χ2 : Bool → Prop} (h : EvBR K t ρ Χ1) (g : Χ1 true → EvBR K u ρ Χ2) : EvBR K (tAnd t u) ρ (fun b => b = true → Χ1 true ∧ Χ2 true) := fun S σ H Q hd he hq =>
  h S σ H _ hd he fun b H1 s1 f1 => by
    cases b with
    | true => exact g f1 S σ H1 _ (hd.same s1) (he.same s1) fun c H2 s2 f2 => hq c H2 (s1.trans s2) fun e => ⟨f1, e ▸ f2⟩
    | false => exact hq false H1 s1 fun e => nomatch e
theorem r_eqZ {ta tb : TE} {φ ψ : Int → Prop} (ha : EvZ K ta ρ φ) (hb : EvZ K tb ρ ψ) : EvR K (tOp rEq ta tb) ρ (fun d => ∃ b, d = .bool b ∧ True) := fun S σ H Q hd he hq =>
  ha S σ H _ hd he fun i H1 s1 f1 => hb S σ H1 _ (hd.same s1) (he.same s1) fun j H2 s2 f2 => ⟨rfl, hq _ _ _ (s1.trans s2) ⟨_, rfl, trivial⟩ (.bl _)⟩
/-! ### sorted(xs) of integers -/
theorem r_pickL {ta tb : TE} {ds : List PyData} {Φ : PyData → Prop} {φ : Int → Prop} (ha : EvD K ta ρ (.list ds)) (hb : EvZ K tb ρ φ) (hc : ∀ i, φ i → 0 ≤ i ∧ i < ds.length) (hp : ∀ d ∈ ds, Φ d) : EvR K (tOp (rIxL K) ta tb) ρ Φ := fun S σ H Q hd he hq =>
  ha S σ H _ hd he fun v H1 s1 r1 => hb S σ H1 _ (hd.same s1) (he.same s1) fun i H2 s2 f2 => by
    obtain ⟨a, xs, e, ha, rx⟩ := (r1.same (hid_same s2)).lstE
    obtain ⟨h0, h1⟩ := hc i f2
    have hi : i.toNat < ds.length := by omega
    obtain ⟨v, hv, rv⟩ := rx.at (List.getElem?_eq_getElem hi)
    refine ⟨a, xs, i, v, e, rfl, .inl (.inl (hid_sub _ _ ha)), ?_, hq _ _ _ (s1.trans s2) (hp _ (List.getElem_mem hi)) rv⟩
    have e : i = ((i.toNat : Nat) : Int) := by omega
    rw [e]
    exact atI_nat hv
theorem EvIR.imp {wi : TI} {Φ Ψ : List PyData → Prop} (h : EvIR K wi ρ Φ) (q : ∀ ds, Φ ds → Ψ ds) : EvIR K wi ρ Ψ := fun S σ H R hd he hq => h S σ H R hd he fun J H' ds s f w => hq J H' ds s (q ds f) w
theorem fr_sorted {ta : TA} {ns : List Int} (h : EvL K ta ρ [.list (ns.map PyData.int)]) : EvFR K (tCB (rSortedI K) ta) ρ (fun ds => ∃ ms : List Int, ds = ms.map PyData.int ∧ ms.Perm ns ∧ ms.Pairwise (· ≤ ·)) := fun S σ H Q hd he hq =>
  h S σ H _ hd he fun xs H1 s1 r1 => by
    cases r1 with
    | cons r1 r2 =>
      cases r2
      obtain ⟨a, ys, e, ha, ry⟩ := r1.lstE
      refine ⟨a, ns, by rw [e], .inl (.inl (by rw [← ry.ints]; exact hid_sub _ _ ha)), fun ms p hp hs hn => ?_⟩
      exact hq p _ _ _ (s1.trans (same_new hn)) ⟨ms, rfl, hp, hs⟩ (s1.free hn) upd_same (RpAll.ofInts ms)
def isort : List Int → List Int
  | [] => []
  | x :: r => insS x (isort r)
where insS (x : Int) : List Int → List Int
  | [] => [x]
  | y :: r => if x ≤ y then x :: y :: r else y :: insS x r
omit G in
theorem perm_sorted_eq : ∀ {l m : List Int}, l.Perm m → l.Pairwise (· ≤ ·) → m.Pairwise (· ≤ ·) → l = m
  | [], m, h, _, _ => (List.Perm.nil_eq h)
  | x :: l, m, h, hl, hm => by
    cases m with
    | nil => exact absurd h.length_eq (by simp)
    | cons y m =>
      obtain ⟨a1, a2⟩ := List.pairwise_cons.mp hl
      obtain ⟨b1, b2⟩ := List.pairwise_cons.mp hm
      have exy : x = y := by
        have h1 : x ∈ y :: m := h.subset List.mem_cons_self
        have h2 : y ∈ x :: l := h.symm.subset List.mem_cons_self
        rcases List.mem_cons.mp h1 with e | e
        · exact e
        · rcases List.mem_cons.mp h2 with f | f
          · exact f.symm
          · exact Int.le_antisymm (a1 y f) (b1 x e)
      subst exy
      rw [perm_sorted_eq (List.Perm.cons_inv h) a2 b2]
end Dx
namespace Dx
open PySem PySem.Spec L2
open PyProof.Rows hiding St
/-! ### d < e of lists of integers -/
def rLtL (K : PySem.W.Frag) : R2 := fun x y H Q => ∃ ns ms : List Int, Dp K H x (.list (ns.map PyData.int)) ∧ Dp K H y (.list (ms.map PyData.int)) ∧ Q (.bl (HT.lexLt ns ms)) H
open PySem.W in
theorem alike_ints : ∀ ns ms : List Int, alikeAll (ns.map PyData.int) (ms.map PyData.int) = true
  | [], [] => by simp [alikeAll]
  | [], _ :: _ => by simp [alikeAll]
  | _ :: _, [] => by simp [alikeAll]
  | n :: ns, m :: ms => by
    have ih := alike_ints ns ms
    rw [List.map_cons, List.map_cons, alikeAll, ih, Bool.and_true]
    simp [alike]
open PySem.W in
theorem lex_data : ∀ ns ms : List Int, PyProof.Rows.lexLt itemOrd (keyToksAll (ns.map PyData.int)) (keyToksAll (ms.map PyData.int)) = HT.lexLt ns ms
  | [], [] => by
    have e : ([] : List Int).map PyData.int = [] := rfl
    rw [e, keyToksAll]
    exact (lex_self (O := itemOrd) _ _ _).trans rfl
  | [], m :: ms => by
    have e : ([] : List Int).map PyData.int = [] := rfl
    rw [e, List.map_cons, toks_all_cons, keyToksAll]
    exact (lex_atom (by decide) _ _).trans rfl
  | n :: ns, [] => by
    have e : ([] : List Int).map PyData.int = [] := rfl
    rw [e, List.map_cons, toks_all_cons, keyToksAll]
    exact (lex_atom (by decide) _ _).trans rfl
  | n :: ns, m :: ms => by
    have hal : alike (.int n) (.int m) = true := by simp [alike]
    show _ = (if n = m then HT.lexLt ns ms else decide (n < m))
    rw [List.map_cons, List.map_cons]
    by_cases e : n = m
    · rw [if_pos e, dataLt_all_yes hal (by rw [e]; simp [PyData.eqv])]
      exact lex_data ns ms
    · rw [if_neg e, dataLt_all_no hal (by simp [PyData.eqv, e]), dataLt_int]
section
variable {X : Cx}
open PySem.W in
theorem op_ltL (hu : X.A.units + 64 < cLine) : OpR X (compareOp .Lt) (rLtL X.K) := by
  intro pins s σ H x y v u Q I rx ry h
  obtain ⟨ns, ms, hd, he, q⟩ := h
  obtain ⟨as, r1⟩ := Dp.reads I _ x v hd rx
  obtain ⟨bs, r2⟩ := Dp.reads I _ y u he ry
  have hq : EP X pins σ Q (.bool (dataLt (.list (ns.map PyData.int)) (.list (ms.map PyData.int)))) s := by
    rw [dataLt_list, lex_data]
    exact ⟨.bl _, H, I, rfl, q⟩
  have hdep : ∀ ns : List Int, (PyData.list (ns.map PyData.int)).depth ≤ 1 := fun ns => by
    simp only [PyData.depth, depth_map]
    omega
  have h1 := hdep ns
  exact rcLt_alike _ _ X.A s v u as bs r1 r2 (by rw [alike]; exact alike_ints ns ms) (fun z => by cases z) (by omega) X.prog X.w X.xe _ hq
end
variable [G : Sprs] {K : PySem.W.Frag} {ρ : Env}
theorem e_ltL {ta tb : TE} {ns ms : List Int} (ha : EvD K ta ρ (.list (ns.map PyData.int))) (hb : EvD K tb ρ (.list (ms.map PyData.int))) : EvD K (tOp (rLtL K) ta tb) ρ (.bool (HT.lexLt ns ms)) := fun S σ H Q hd he hq =>
  ha S σ H _ hd he fun x H1 s1 r1 => hb S σ H1 _ (hd.same s1) (he.same s1) fun y H2 s2 r2 => by
    have hx : ∀ l : List Int, noX (.list (l.map PyData.int)) = true := fun l => by
      simp only [noX]
      induction l with
      | nil => rfl
      | cons n l ih =>
        rw [List.map_cons]
        simp only [noXs, noX, ih]
        rfl
    exact ⟨ns, ms, ((r1.same (hid_same s2)).same hid_sub).dp (hx ns), (r2.same hid_sub).dp (hx ms), hq _ _ (s1.trans s2) (.bl _)⟩
theorem e_ltT {ta tb : TE} {ns ms : List Int} (ha : EvD K ta ρ (.tuple (ns.map PyData.int))) (hb : EvD K tb ρ (.tuple (ms.map PyData.int))) : EvD K (tOp (rLtT K) ta tb) ρ (.bool (HT.lexLt ns ms)) := fun S σ H Q hd he hq =>
  ha S σ H _ hd he fun x H1 s1 r1 => hb S σ H1 _ (hd.same s1) (he.same s1) fun y H2 s2 r2 => by
    obtain ⟨a, xs, e, ha, rx⟩ := (r1.same (hid_same s2)).tupE
    obtain ⟨b, ys, e', hb, ry⟩ := r2.tupE
    exact ⟨a, b, ns, ms, e, e', by rw [← rx.ints]; exact sqT_same hid_sub ha, by rw [← ry.ints]; exact sqT_same hid_sub hb, hq _ _ (s1.trans s2) (.bl _)⟩
end Dx
namespace Dx
open PySem PySem.Spec L2
open PyProof.Rows hiding St
/-! ### exceptions as data: made, asked for their class, never written out -/
def excD (C : Addr) : PyData := .dict [(.none, .int ((C : Nat) : Int))]
theorem kit_cls {K : PySem.W.Frag} {C : Addr} {t : Value} {b : Bool} (hne : (t == .ref C) = false) (hi : PySem.W.isClsIn K C = true) (ht : PySem.W.typeIn K (.ref C) = some (.type "type")) (h : PySem.W.subIn K t (.ref C) = some b) : PySem.W.kitOne K t (.ref C) = some b := by
  have hi' : (PySem.W.clsIn K C).isSome = true := hi
  unfold PySem.W.kitOne PySem.W.kitCls
  rw [hne, if_neg Bool.false_ne_true]
  simp [hi', ht, h]
theorem kit_bty {K : PySem.W.Frag} {t : Value} {T : String} {b : Bool} (hne : (t == .type T) = false) (hm : PySem.W.kitMeta T = true) (h : PySem.W.subIn K t (.type T) = some b) : PySem.W.kitOne K t (.type T) = some b := by
  unfold PySem.W.kitOne PySem.W.kitCls
  rw [hne, if_neg Bool.false_ne_true]
  simp [hm, h]
section
variable {X : Cx}
/-- isinstance(x, c), x a value or an exception held as one -/
def rIsiX (K : PySem.W.Frag) : List V → Hp → VK → Prop := fun xs H Q => rIsi K xs H Q ∨
  ∃ (a D : Addr) (c : V) (u : Value) (b : Bool), xs = [.ref a, c] ∧ ClsV c u ∧ H a = some (ExO (.ref D) a) ∧ ExcC K D ∧ PySem.W.kitOne K (.ref D) u = some b ∧ Q (.bl b) H
theorem call_isiX : CallR X (.builtin "isinstance") (rIsiX X.K) := by
  intro pins s σ H xs us Q I r h
  rcases h with h | ⟨a, D, c, u, b, rfl, hc, ha, C, e, q⟩
  · exact call_isi pins s σ H xs us Q I r h
  · cases r with
    | cons rx rr =>
      cases rr with
      | cons rt rr =>
        cases rr
        cases rx
        have ec := hc.eq rt
        subst ec
        obtain ⟨⟨oe, vs, he, hz, hd, _⟩, _⟩ := I.hok a _ ha
        have J : PySem.W.InstAt s.heap a oe D none := by
          obtain ⟨oc, od, oda, osl⟩ := oe
          obtain ⟨h1, h2⟩ := hz
          dsimp only at h1 h2 hd
          subst h1 h2 hd
          exact ⟨he, rfl, rfl, trivial⟩
        exact PySem.W.kia_one (PySem.W.handS_kitx_exc C.hg C.hk C.hs C.hd C.ha C.hn C.ht C.hm) I.kIn J e (fun z => nomatch z) fun tk => ⟨.bl b, H, I.tok tk, rfl, q⟩
/-- a call that may let something out, where the slots matter -/
theorem pe_callGS {CX : CXT} {k : Nat} {f : Addr} {fd : FuncData} {ps : List Str} {sp : Sp} {E : St → XK} {x : Str} {p pos : Pos} {e : Expr} {es : List Expr} {t : TA} (F : FnG X.prog X.w X.K X.mg X.base CX k f fd ps sp) (clr : Clr X.A) (room : Room k X.A) (gl : Gl X x) (at_ : X.mg x = some (.ref f)) (kp : PySem.W.keepIn X.K (.ref f) = true) (bd : Binds X.K fd ps []) (pass : ∀ σ, PassesAt CX X σ (E σ))
    (ha : PA X (e :: es) t) (nodbg : (x == ("__debug__" : Str)) = false := by decide) (st1 : starEach (e :: es) X.env = (false, eval e X.env) :: starEach es X.env := by rfl) (st2 : (backTo pos (starEach es X.env)).any (·.1) = false := by rfl) :
    PE X (.Call (.Name x p) (e :: es) [] pos) (tCallS sp E t) := by
  refine ⟨fun pins s σ H Q I h => wpAny_Call_Name_kw (ld_glob I gl at_ ?_ nodbg)⟩
  refine PySem.W.callWith_K (h₀ := X.base) I.ok.mod.kin kp (thn (ha.run pos pins s σ H _ I h) fun us s1 ⟨xs, H1, I1, rv, z⟩ => ⟨I1.kIn, ?_⟩) st1 st2
  have z' : sp xs H1 Q (E σ) := z
  have len : us.length = ps.length := by
    rw [← rv.length]
    exact F.ln _ _ _ _ z'
  have bd1 := bd s1 us I1.kIn (by rw [List.append_nil]; exact len)
  rw [List.append_nil] at bd1
  refine wpAny_call (codeAny_mono (F.go X.A X.stack s1 H1 ⟨us, []⟩ us xs Q (E σ) clr room I1.env0 bd1 rv z') fun r s' got => ?_)
  cases r with
  | error err => exact pass σ pins H1 s1 err s' I1 got
  | ok fl =>
    cases fl with
    | ret u => exact I1.after got
    | next => cases got
    | brk => cases got
    | cont => cases got
end
/-- X(e), made and held -/
def tExc (C : Addr) (ta : TE) : TE := fun σ H Q => ta σ H fun _ H1 => ∀ a, H1 a = none → Q (.ref a) (upd H1 a (ExO (.ref C) a))
theorem pe_excX {X : Cx} {C : Addr} {x : Str} {e : Expr} {ta : TE} {p pos : Pos} (q : PySem.W.excIn X.K C [.type "ValueError", .type "Exception", .type "BaseException", .type "object"] "ValueError.__new__" = true) (gC : X.mg x = some (.ref C)) (kC : PySem.W.keepIn X.K (.ref C) = true) (hg : Gl X x)
    (he : PE X e ta) (hs : starEach [e] X.env = (false, eval e X.env) :: starEach [] X.env := by rfl) (hdb : (x == ("__debug__" : Str)) = false := by decide) : PE X (.Call (.Name x p) [e] [] pos) (tExc C ta) := pe_exc1 PySem.F.excBase_ValueError q gC kC hg he hs hdb
variable [G : Sprs] {K : PySem.W.Frag} {ρ : Env}
theorem e_exc {C : Addr} {ta : TE} {d : PyData} (h : EvD K ta ρ d) : EvD K (tExc C ta) ρ (excD C) := fun S σ H Q hd he hq =>
  h S σ H _ hd he fun v H1 s _ a ha => hq _ _ (s.trans (same_new ha)) (.exc (hid_at upd_same ((hd.same s).fresh ha)))
def topD : PyData → Bool
  | .dict _ => false
  | _ => true
theorem rp_tyT {H : Hp} {S : List Addr} {v : V} {d : PyData} (r : Rp K (hid H S) v d) (hx : topD d = true) : TyX K H v (.type (tyD d)) := by
  cases r with
  | non => exact .base .non
  | bl b => exact .base (.bl b)
  | int i => exact .base (.int i)
  | str x => exact .base (.str x)
  | lst h r => exact .base (.lst (hid_sub _ _ h))
  | tup h r =>
    rcases h with (h | ⟨o, h⟩) | ⟨o, its, n, h1, h2, _⟩
    · exact .base (.tup (hid_sub _ _ h))
    · exact .fTuple (hid_sub _ _ h)
    · exact .kTuple h1 h2
  | scr h => simp [topD] at hx
  | spr h => simp [topD] at hx
  | tab h r => simp [topD] at hx
  | pt h => simp [topD] at hx
  | exc h => simp [topD] at hx
  | exp => simp [topD] at hx
theorem Rp.excE {H : Hp} {v : V} {C : Addr} (r : Rp K H v (excD C)) : ∃ a, v = .ref a ∧ H a = some (ExO (.ref C) a) := by
  generalize e : excD C = d at r
  unfold excD at e
  cases r with
  | exc h =>
    injection e with e
    injection e with e _
    injection e with _ e
    injection e with e
    rw [Int.ofNat.inj e]
    exact ⟨_, rfl, h⟩
  | pt h =>
    injection e with e
    injection e with e _
    injection e with e _
    cases e
  | scr h =>
    injection e with e
    injection e with e _
    injection e with e _
    cases e
  | tab h r =>
    injection e with e
    injection e with e _
    injection e with e _
    cases e
  | exp =>
    injection e with e
    injection e with e _
    injection e with e _
    cases e
  | _ => cases e
theorem cb_isX {te : TE} {d : PyData} {n : String} {b : Bool} (h : EvD K te ρ d) (hx : topD d = true) (hk : kitB (tyD d) n = some b) : EvD K (tCB (rIsiX K) (tCons te (tCons (tC (.ty n)) tNil))) ρ (.bool b) := fun S σ H Q hd he hq =>
  h S σ H _ hd he fun v H1 s1 r1 => .inl ⟨v, .ty n, _, _, b, rfl, .ty n, rp_tyT r1 hx, kit_ty hk, hq _ _ s1 (.bl b)⟩
theorem cb_isE {te : TE} {C : Addr} {n : String} {b : Bool} (h : EvD K te ρ (excD C)) (hC : ExcC K C) (hk : PySem.W.kitOne K (.ref C) (.type n) = some b) : EvD K (tCB (rIsiX K) (tCons te (tCons (tC (.ty n)) tNil))) ρ (.bool b) := fun S σ H Q hd he hq =>
  h S σ H _ hd he fun v H1 s1 r1 => by
    obtain ⟨a, rfl, ha⟩ := r1.excE
    exact .inr ⟨a, C, .ty n, .type n, b, rfl, .ty n, hid_sub _ _ ha, hC, hk, hq _ _ s1 (.bl b)⟩
/-! ### defs that raise -/
def spX (K : PySem.W.Frag) (C : Addr) (pre : List PyData → Prop) : Sp := fun vs H _ E =>
  ∃ (_ : Sprs) (S : List Addr) (ds : List PyData), Dom H S ∧ RpAll K (hid H S) vs ds ∧ pre ds ∧ ∀ H', SameG H H' → E (.ref C) none H'
theorem x_tryApp {ρ : STt} {P : Post} {i : Nat} {ds es : List PyData} {C : Addr} {c : Value} {pre : List PyData → Prop} {ta : TA} {ts : Addr → Value → Option Addr → TS} {Wout : WX} (ho : ρ[i]? = some (.own ds)) (hl : EvL K ta (vs ρ) es) (hp : pre es) (hx : PySem.W.exmOne K (.ref C) c = some true)
    (hs : ∀ a, ExD K (ts a (.ref C) none) ρ P) :
    ExD K (fun D σ H => (fun W => tDrop (tBM K "list" rAppend (tVar i) (tCons (tCallS (spX K C pre) (WE W) ta) tNil))) (wOnly K c ts Wout D) D σ H) ρ P := fun S O H0 D σ H hd st p => by
  obtain ⟨a, xs, ha, hs', hH, rx⟩ := st.own i ds ho
  refine ⟨_, hs', .inl ⟨rfl, _, .inl (.inl hH)⟩, ?_⟩
  refine hl (O ++ S) σ H _ (st.domO hd) st.env fun vs H1 s1 r1 => ?_
  refine ⟨G, O ++ S, es, (st.same s1).domO hd, r1, hp, fun H' s' => ?_⟩
  exact ⟨true, hx, fun _ b hb => hs b S O H0 D σ H' hd ((st.same s1).same s') p, fun h => nomatch h⟩
theorem x_dropX {ρ : Env} {C : Addr} {pre : List PyData → Prop} {ta : TA} {u : TS} {E : XK} {es : List PyData} {S : List Addr} {σ : L2.St} {H : Hp} {D : Ends} (hd : Dom H S) (he : EnvD K H S σ ρ) (hl : EvL K ta ρ es) (hp : pre es) (hE : ∀ H', SameG H H' → E (.ref C) none H') :
    tSeq (tDrop (tCall (spX K C pre) [] E ta)) u D σ H := hl S σ H _ hd he fun xs H1 s1 r1 => by
  show spX K C pre (xs ++ []) H1 _ E
  rw [List.append_nil]
  exact ⟨G, S, es, hd.same s1, r1, hp, fun H' s' => hE H' (s1.trans s')⟩
omit G in
/-- a def that raises the error at C, first of all by its first statement's test -/
theorem fnX_ok {Pg : Program} {w : World} {mg : Str → Option Value} {base : Heap} {x qual : Str} {st : Stmt} {f : Addr} {fd : FuncData} {N ps : List Str} {k : Nat} {C : Addr} {pre : List PyData → Prop}
    (F : Fun K x qual st f fd) (Sc : FnScope N ps (defScope st)) (len : ∀ ds, pre ds → ds.length = ps.length)
    (hbody : ∀ (cdv : Value) (A : Around) (out : List PySem.Env) (s : Shared) (H : Hp) (E : XK), Clr (A.deeper (envOfC qual (defScope st) s.heap.objs.size f cdv)) → Room k (A.deeper (envOfC qual (defScope st) s.heap.objs.size f cdv)) →
      ∃ t, PSs (cxOf (L2.CX Pg w) Pg w K mg base N qual (defScope st) f cdv A out s H E) (defBody st) t ∧ ∀ [Sprs] (S : List Addr) (ds : List PyData) (D : Ends) (vs : List V), pre ds → Dom H S → RpAll K (hid H S) vs ds → (∀ H', SameG H H' → E (.ref C) none H') → t D (L2.start N vs) H) :
    FnG Pg w K mg base (L2.CX Pg w) (k + 1) f fd ps (spX K C pre) := by
  refine Fun.okG F Sc (fun vs H Q E h => ?_) fun cdv A out s H vs Q E clr hr h => ?_
  · obtain ⟨G, S, ds, _, r, hp, _⟩ := h
    rw [r.len]
    exact len ds hp
  · obtain ⟨G, S, ds, hd, r, hp, hE⟩ := h
    obtain ⟨t, ht, hx⟩ := hbody cdv A out s H E clr hr
    exact ⟨t, ht, hx S ds _ vs hp hd r hE⟩
/-! ### (x,) * k -/
section
variable {X : Cx}
def rRep1 (K : PySem.W.Frag) : R2 := fun x y H Q => ∃ l k v, x = .ref l ∧ y = .int k ∧ SqT K H l [v] ∧ 2 ≤ k ∧ k ≤ 20000 ∧ ∀ p, H p = none → Q (.ref p) (upd H p (.tup (List.replicate k.toNat v)))
omit G in
theorem op_rep1 : OpR X (binaryOp .Mult) (rRep1 X.K) := by
  rintro pins s σ H x y a b Q I rx ry ⟨l, k, v, rfl, rfl, hT, k2, k9, q⟩
  cases rx
  obtain ⟨tk, rfl⟩ := ry
  obtain ⟨its, rv, ⟨⟨cls, dd, data, sl⟩, ho, hc, n, hd⟩, _⟩ := I.tuple hT
  simp only at hc hd
  subst hc hd
  have one : its.length = 1 := rv.length.symm
  obtain ⟨u, rfl⟩ : ∃ u, its = [u] := by
    match its, one with
    | [u], _ => exact ⟨u, rfl⟩
  have fl : (List.replicate k.toNat [u]).flatten = List.replicate k.toNat u := by
    generalize k.toNat = m
    induction m with
    | zero => rfl
    | succ m ih => rw [List.replicate_succ, List.flatten_cons, ih]; rfl
  have len : (List.replicate k.toNat u).length ≤ sizeLine := by
    rw [List.length_replicate, sizeLine_eq]
    omega
  have m1 : ((([u] : List Value).toArray.size : Nat) : Int) * k = k := by
    show (1 : Int) * k = k
    omega
  refine wpAny_binaryOp_repeat_ref (T := "tuple") (U := "int") (by decide) ⟨_, ho, rfl⟩ (fun z => typeIs_int z k tk) noFill_tuple_mul F.fills_int_mul F.slot_int_rmul repeat_tuple F.slot_int_index.lookup
    (call_meets F.slot_int_rmul (typeIs_int s k tk) F.entry_int_rmul (F.args_int_rmul_2 _ _) (int_rmul_tuple k tk l [u].toArray n dd sl) ⟨ho, rfl, ⟨_, ho, rfl⟩, call_meets F.slot_tuple_mul ⟨_, ho, rfl⟩ F.entry_tuple_mul (F.args_tuple_mul_2 _ _) (tuple_mulW l [u].toArray n dd sl k tk ?c0 ?c1 ?c2 ?c3 ?c4 ?c5) ⟨ho, ?fin⟩⟩)
  case c0 =>
    rw [decide_eq_false (show ¬ k < -(2 ^ 63) by omega), decide_eq_false (show ¬ k ≥ 2 ^ 63 by omega)]
    rfl
  case c1 =>
    show (false || k == 1) = false
    rw [Bool.false_or]
    exact beq_eq_false_iff_ne.mpr (by omega)
  case c2 =>
    show (decide (k ≤ 0) || false) = false
    rw [Bool.or_false]
    exact decide_eq_false (by omega)
  case c3 =>
    rw [m1]
    omega
  case c4 =>
    rw [m1]
    unfold Builtin.Tuple.tupleTooMany
    rw [sizeLine_eq]
    exact decide_eq_false (by omega)
  case c5 =>
    rw [size_rep, fl, List.size_toArray]
    exact len
  case fin =>
    rw [size_rep, fl]
    refine ⟨.ref s.heap.objs.size, _, I.laid (t' := s.toks) (o := .tup (List.replicate k.toNat v)) (fun b ob z => Heap.get?_push_of_some _ z) (Nat.le_refl _) ?_, rfl, q _ (I.hok.fresh (Nat.le_refl _))⟩
    have rr := rv.rep k.toNat
    rw [fl] at rr
    have fv : (List.replicate k.toNat [v]).flatten = List.replicate k.toNat v := by
      generalize k.toNat = m
      induction m with
      | zero => rfl
      | succ m ih => rw [List.replicate_succ, List.flatten_cons, ih]; rfl
    rw [fv] at rr
    exact ⟨by rw [List.length_replicate, sizeLine_eq]; omega, _, rr, IsTup.new _ _⟩
end
theorem rp_rep1 {H : Hp} {v : V} {d : PyData} (r : Rp K H v d) : ∀ n, RpAll K H (List.replicate n v) (List.replicate n d)
  | 0 => .nil
  | n + 1 => .cons r (rp_rep1 r n)
theorem e_rep1 {ta tb : TE} {d : PyData} {k : Int} (ha : EvD K ta ρ (.tuple [d])) (hb : EvD K tb ρ (.int k)) (h1 : 2 ≤ k ∧ k ≤ 20000) : EvD K (tOp (rRep1 K) ta tb) ρ (.tuple (List.replicate k.toNat d)) := fun S σ H Q hd he hq =>
  ha S σ H _ hd he fun x H1 s1 r1 => hb S σ H1 _ (hd.same s1) (he.same s1) fun y H2 s2 r2 => by
    have s := s1.trans s2
    obtain ⟨a, xs, e, ha, rx⟩ := (r1.same (hid_same s2)).tupE
    cases rx with
    | cons r1 r2' =>
      cases r2'
      exact ⟨a, k, _, e, r2.intEq, sqT_same hid_sub ha, h1.1, h1.2, fun p hp => hq _ _ (s.trans (same_new hp)) (.tup (.inl (.inl (hid_at upd_same ((hd.same s).fresh hp)))) ((rp_rep1 r1 _).same (hid_same (same_new hp))))⟩
end Dx
set_option maxHeartbeats 4000000
namespace PySem
namespace HandSPX
open PySem.W PySem.Calls PyProof.Rows
section
variable {M : Model} {A : Around} {E : Value → Shared → Prop} {h : Heap} {g : Array GenState} {d : Drawn} {t : Nat} {os : OsState}
variable {nm q : Str} {C N : Addr} {bs bm bmB : List Value} {hdct : Bool} {sn : List Str} {sub : List Value} {ab : Bool} {col : Option Bool} {dd : Option Addr} {k0 k1 k2 k3 k5 : Option Value} {B newId initId : String}
theorem check_new_ownK (F : ExcBaseFacts B newId initId bmB) (hT : ∀ X : String, bm.contains (.type X) = bmB.contains (.type X)) {rest : List Value} {kw : List (Str × Value)} {Q : Unit → Shared → Prop}
    (hC : h.get? C = some (excClassObj nm q C N bs bm hdct sn sub ab col dd k0 k1 k2 k3 k5 newId)) (hq : Q () ⟨h, g, d, t, os⟩) : wpAny M A (checkBuiltinCall newId ⟨.ref C :: rest, kw⟩) Q E ⟨h, g, d, t, os⟩ := by
  have hcont : (Value.ref C :: bm).contains (.type B) = true := by rw [List.contains_cons, hT, F.hasB, Bool.or_true]
  have hstar := F.noStar
  simp only [checkBuiltinCall, F.newKind, F.newSplit, F.newRow]
  repeat (first | refine wpAny_loadPart_at hC ?_ | (refine wpAny_isSubtype_exc hC ?_; rw [hcont]) | refine wpAny_staticBase_exc hC ?_ | refine wpAny_madeBy_exc hC ?_ | simp only [bne_self_eq_false, Bool.false_eq_true, if_false] | wp_step)
  exact hq
end
section
variable {prog : Program} {w : World} {A : Around} {E : Value → Shared → Prop} {R : Result → Shared → Prop} {h : Heap} {g : Array GenState} {d : Drawn} {t : Nat} {os : OsState}
variable {nm q : Str} {C N : Addr} {bs bm bmB : List Value} {hdct : Bool} {sn : List Str} {sub : List Value} {ab : Bool} {col : Option Bool} {dd : Option Addr} {k0 k1 k2 k3 k5 : Option Value} {B newId initId : String}
theorem new_ownK (F : ExcBaseFacts B newId initId bmB) (hT : ∀ X : String, bm.contains (.type X) = bmB.contains (.type X)) {rest : List Value} {kw : List (Str × Value)}
    (hC : h.get? C = some (excClassObj nm q C N bs bm hdct sn sub ab col dd k0 k1 k2 k3 k5 newId))
    (hq : R (.ok (.ret (.ref (h.objs.size + 1)))) ⟨(h.push { cls := .type "tuple", data := .seq rest.toArray }).push
      { cls := .ref C, data := .fields #[.ref h.objs.size, .none, .none, .none, .bool false, .none] }, g, d, t, os⟩) (hrest : rest.length ≤ sizeLine) :
    codeAny (model prog w) A (.builtin newId ⟨.ref C :: rest, kw⟩) R ⟨h, g, d, t, os⟩ := by
  have hends := F.ends
  have hcB : (Value.ref C :: bm).contains (.type B) = true := by rw [List.contains_cons, hT, F.hasB, Bool.or_true]
  have hcA : (Value.ref C :: bm).contains (.type "AttributeError") = false := by rw [List.contains_cons, hT, F.noAttr]; rfl
  have hcN : (Value.ref C :: bm).contains (.type "NameError") = false := by rw [List.contains_cons, hT, F.noName]; rfl
  refine codeAny_builtinAt F.entry ?_
  unfold Builtin.«BaseException.__new__»
  refine wpAt_bind ?_
  show wpAt _ _ _ (stack >>= _) _ _ _
  refine wpAt_bind (wpAt_stack fun p below => wpAt_of_wpAny ?_)
  wp_walk
  refine wpAt_of_wpAny ?_
  rw [F.owner]
  repeat (first | with_reducible refine wpAny_madeHere_exc F.canon hC ?_ | with_reducible refine wpAny_loadPart_at hC ?_ | (with_reducible refine wpAny_isSubtype_exc hC ?_; first | rw [hcB] | rw [hcA] | rw [hcN]) | wp_step)
  show R _ _
  rw [Heap.size_push]
  exact hq
theorem type_call_ownK (F : ExcBaseFacts B newId initId bmB) (hT : ∀ X : String, bm.contains (.type X) = bmB.contains (.type X)) {rest : List Value} {kw : List (Str × Value)} {fI : Addr} {Q : Fin → Shared → Prop}
    (hC : h.get? C = some (excClassObj nm q C N bs bm hdct sn sub ab col dd k0 k1 k2 k3 k5 newId))
    (hi : W.Looks (model prog w) h (typeLookup (.ref C) "__init__") (some (.ref fI))) (hb : ∀ self, W.Looks (model prog w) h (bindSpecial (.ref fI) self) (.ref fI, [self])) (hrest : rest.length ≤ sizeLine)
    (hq : codeAny (model prog w) A (.call (.ref fI) ⟨.ref (h.objs.size + 1) :: rest, kw⟩)
      (fun r s' => match r with | .ok (.ret v) => v = .none ∧ Q (.done (.ret (.ref (h.objs.size + 1)))) s' | .ok _ => False | .error e => E e s')
      ⟨(h.push (W.kdv_tup rest)).push (excO C h.objs.size), g, d, t, os⟩) :
    wpAny (model prog w) A (Builtin.«type.__call__» ⟨.ref C :: rest, kw⟩) Q E ⟨h, g, d, t, os⟩ := by
  repeat (first | with_reducible refine wpAny_loadPart_at hC ?_ | with_reducible refine wpAny_madeBy_exc hC ?_ | wp_step)
  refine codeAny_call_builtin_code (Code.quiet_builtin _ F.quiet) (check_new_ownK F hT hC ?_)
  refine new_ownK F hT hC ?_ hrest
  show wpAny _ _ _ _ _ _
  have k : ∀ b o, h.get? b = some o → ((h.push (W.kdv_tup rest)).push (excO C h.objs.size)).get? b = some o := fun b o e => Heap.get?_push_of_some _ (Heap.get?_push_of_some _ e)
  have hC₁ := k _ _ hC
  have hget : ((h.push (W.kdv_tup rest)).push (excO C h.objs.size)).get? (h.objs.size + 1) = some (excO C h.objs.size) := by heap_get
  have hcC : (Value.ref C :: bm).contains (.ref C) = true := by simp
  have i1 := hi.keeps k
  have b1 := (hb (.ref (h.objs.size + 1))).keeps k
  unfold isInstance
  repeat (first | with_reducible refine wpAny_loadPart_at hget ?_ | (with_reducible refine wpAny_isSubtype_exc hC₁ ?_; rw [hcC]) | wp_step)
  show wpAny _ _ (typeLookup (.ref C) _) _ _ _
  refine i1.at ?_
  refine wpAny_holding (wpAny_bind (b1.at ?_))
  refine wpAny_bind (wpAny_call (codeAny_mono hq fun r s' z => ?_))
  rcases r with e | (v | _ | _ | _) <;> first | exact z | exact z.elim | skip
  obtain ⟨rfl, z⟩ := z
  first
    | exact wpAny_pure (wpAny_pure z)
    | (wp_walk; exact z)
theorem call_ownK (F : ExcBaseFacts B newId initId bmB) (hT : ∀ X : String, bm.contains (.type X) = bmB.contains (.type X)) {rest : List Value} {kw : List (Str × Value)} {fI : Addr}
    (hC : h.get? C = some (excClassObj nm q C N bs bm hdct sn sub ab col dd k0 k1 k2 k3 k5 newId))
    (hi : W.Looks (model prog w) h (typeLookup (.ref C) "__init__") (some (.ref fI))) (hb : ∀ self, W.Looks (model prog w) h (bindSpecial (.ref fI) self) (.ref fI, [self])) (hrest : rest.length ≤ sizeLine)
    (hq : codeAny (model prog w) (A.under (.builtin "type.__call__" ⟨.ref C :: rest, kw⟩)) (.call (.ref fI) ⟨.ref (h.objs.size + 1) :: rest, kw⟩) (W.InitBack (h.objs.size + 1) R)
      ⟨(h.push (W.kdv_tup rest)).push (excO C h.objs.size), g, d, t, os⟩) :
    codeAny (model prog w) A (.call (.ref C) ⟨rest, kw⟩) R ⟨h, g, d, t, os⟩ := by
  have f1 := tc_lookup
  have f2 := tc_bind (.ref C)
  have hTy : (⟨h, g, d, t, os⟩ : Shared).TypeIs (.ref C) "type" := ⟨_, hC, rfl⟩
  refine codeAny_of_tree ?_
  show wpAny _ _ (callAny (.ref C) _) _ _ _
  repeat (any_goals (first | assumption | with_reducible refine wpAny_loadPart_at hC ?_ | wp_step))
  refine ⟨rfl, ?_⟩
  refine codeAny_call_builtin_at (Code.quiet_builtin _ (by decide +kernel)) entry_typeCall (wpAny_check_type_call_sub hC (type_call_ownK F hT hC hi hb hrest ?_))
  refine codeAny_mono hq fun r s' z => ?_
  rcases r with e | (v | _ | _ | _) <;> exact z
end
end HandSPX
end PySem
namespace PySem.W
open PySem PySem.Spec PySem.Calls PyProof.Rows
section
variable {prog : Program} {w : World} {A : Around} {E : Value → Shared → Prop} {s : Shared} {K : Frag} {x D : Addr} {ox : Obj} {od : Option Obj}
theorem findObj_dataO {C : Addr} {name : Str} {a g : Value} (hc : (clsIn K C).isSome = true) (ha : findIn K (.ref C) name = some (some a)) (hg : specialIn K a "__get__" = some (some g)) (ht : takesIn K a = some true) : findObj K C od name = some (.bind g a) := by
  obtain ⟨cd, hc⟩ := Option.isSome_iff_exists.mp hc
  unfold findObj
  rw [hc, Option.bind_some, ha, Option.bind_some]
  cases od <;> simp [hg, ht]
theorem kin_classO (hga : findIn K (.ref D) "__getattribute__" = some (some (.builtin "BaseException.__getattribute__"))) (hgt : findIn K (.ref D) "__getattr__" = some none) (hsub : subIn K (.ref D) (.type "BaseException") = some true)
    (hdct : hasDictIn K D = true) (ha : findIn K (.ref D) "__class__" = some (some (.builtin "object.__class__")))
    (hn : specialIn K (.builtin "object.__class__") "__get__" = some (some (.builtin "getset_descriptor.__get__"))) (htk : takesIn K (.builtin "object.__class__") = some true) (hm : mroIn K D (.type "object") = some true)
    (X : K.In s.heap) (I : InstAt s.heap x ox D od) (h : Q (some (.ref D)) { s with toks := s.toks + 1 }) : wpAny (model prog w) A (getAttr? (.ref x) "__class__") Q E s := by
  have hf : findObj K D od "__class__" = some (.bind (.builtin "getset_descriptor.__get__") (.builtin "object.__class__")) := findObj_dataO (by obtain ⟨cd, hc, _⟩ := any_some hdct; rw [hc]; rfl) ha hn htk
  obtain ⟨hp, g, d, t, os⟩ := s
  have L0 := I.type (M := model prog w)
  have L1 := looks_findIn (M := model prog w) X hga
  have L2 := looks_findIn (M := model prog w) X hgt
  have L3 := looks_find (M := model prog w) X I hf
  have sub : Looks (model prog w) hp (isInstance (.ref x) (.type "BaseException")) true := L0.andThen (looks_subIn X hsub)
  have hx0 : (false && onTheHeap (Value.builtin "BaseException.__getattribute__")) = false := rfl
  have hx2 : (Value.builtin "BaseException.__getattribute__" == Value.builtin "object.__getattribute__") = false := by decide +kernel
  have hx1 : (onTheHeap (Value.ref D) && Value.builtin "BaseException.__getattribute__" == Value.builtin "object.__getattribute__") = false := by rw [hx2]; rfl
  unfold getAttr? getAttrBy? getAttrBy
  refine wpAny_bind (wpAny_mkText (wpAny_bind (wpAny_attempt (wpAny_holding (wpAny_bind (L0.at (wpAny_bind (L1.at ?_))))))))
  show wpAny _ _ (if (onTheHeap (Value.ref D) && Value.builtin "BaseException.__getattribute__" == Value.builtin "object.__getattribute__") = true then _ else _) _ _ _
  rw [hx1, if_neg Bool.false_ne_true]
  unfold getAttrByItsOwn hookBefore
  refine wpAny_bind ?_
  rw [if_pos (show onTheHeap (Value.ref D) = true from rfl)]
  refine L2.at ?_
  refine wpAny_bind (wpAny_attempt (wpAny_holding ?_))
  unfold callGetattribute
  rw [hx0, if_neg Bool.false_ne_true]
  unfold boundAndCalled
  rw [PySem.F.excAttr_ValueError.ga.bind (.ref x)]
  refine wpAny_bind (wpAny_pure ?_)
  show wpAny _ _ (call (.builtin "BaseException.__getattribute__") [.ref x, .str "__class__" t]) _ _ _
  refine wpAny_call (codeAny_call_builtin PySem.F.excAttr_ValueError.ga.plain PySem.F.entry_bexc_ga ?_)
  refine @check_slot (model prog w) _ _ ⟨hp, g, d, t + 1, os⟩ "BaseException.__getattribute__" "BaseException" "__getattribute__" (.ref x) [.str "__class__" t] [] _ (by decide +kernel) (by decide +kernel) sub (PySem.F.args_bexc_ga (.ref x) (.str "__class__" t)) ?_
  unfold Builtin.«object.__getattribute__»
  refine wpAny_bind (wpAny_of_eq (a := ((Value.ref x : Value), [Value.str "__class__" t])) (by first | rfl | (simp only [slotArgs]; rfl)) ?_)
  refine wpAny_bind (wpAny_pure (wpAny_bind (L0.at (wpAny_bind (L3.at ?_)))))
  show wpAny _ _ (holding [Value.builtin "object.__class__"] (call (.builtin "getset_descriptor.__get__") [.builtin "object.__class__", .ref x, .ref D]) >>= ret) _ _ _
  refine wpAny_bind (wpAny_holding (wpAny_call (class_get (s := ⟨hp, g, d, t + 1, os⟩) (ox := ox) (od := od) X I hm ?_)))
  refine wpAny_pure ?_
  show wpAny _ _ (handedOut (.ref D)) _ _ _
  rw [handedOut_of (v := .ref D) rfl]
  first
    | exact wpAny_pure (wpAny_pure h)
    | exact wpAny_pure h
    | exact wpAny_pure (wpAny_bind (wpAny_pure (wpAny_pure h)))
theorem kitx_excO (hga : findIn K (.ref D) "__getattribute__" = some (some (.builtin "BaseException.__getattribute__"))) (hgt : findIn K (.ref D) "__getattr__" = some none) (hsub : subIn K (.ref D) (.type "BaseException") = some true) (hdct : hasDictIn K D = true) (ha : findIn K (.ref D) "__class__" = some (some (.builtin "object.__class__")))
    (hn : specialIn K (.builtin "object.__class__") "__get__" = some (some (.builtin "getset_descriptor.__get__"))) (htk : takesIn K (.builtin "object.__class__") = some true) (hm : mroIn K D (.type "object") = some true) :
    KitX K (.ref x) (.ref D) (fun h => ∃ od, InstAt h x ox D od) where
  ty := fun _ _ _ ⟨_, I⟩ => I.type
  it := fun _ _ X _ => by
    obtain ⟨cdD, hcD, _⟩ := any_some hdct
    unfold clsIn at hcD
    split at hcD
    · rename_i c' d' cd' sl' ho
      intro A' Q' E' s' k q
      unfold isType loadHead
      exact wpAny_bind (wpAny_loadPart (k _ _ (X _ _ ho)) (wpAny_pure q))
    · cases hcD
  ne := fun h tp dd its n sl X htp => by
    obtain ⟨cdD, hcD, _⟩ := any_some hdct
    refine Bool.eq_false_iff.mpr fun q => ?_
    have e : D = tp := Value.ref.inj (beq_iff_eq.mp q)
    subst e
    unfold clsIn at hcD
    split at hcD
    · rename_i c' d' cd' sl' ho
      have z := (X _ _ ho).symm.trans htp
      cases z
    · cases hcD
  ca := fun X ⟨_, I⟩ k => kin_classO hga hgt hsub hdct ha hn htk hm X I k
end
end PySem.W
namespace Dx
open PySem PySem.Spec L2
open PyProof.Rows hiding St
/-! ### an exception with its own __init__ (one field), held as a value -/
/-- what a class of exceptions must say -/
structure XcP (K : PySem.W.Frag) (C : Addr) : Prop where
  k : PySem.W.keepIn K (.ref C) = true
  hg : PySem.W.findIn K (.ref C) "__getattribute__" = some (some (.builtin "BaseException.__getattribute__"))
  hk : PySem.W.findIn K (.ref C) "__getattr__" = some none
  hs : PySem.W.subIn K (.ref C) (.type "BaseException") = some true
  hd : PySem.W.hasDictIn K C = true
  ha : PySem.W.findIn K (.ref C) "__class__" = some (some (.builtin "object.__class__"))
  hn : PySem.W.specialIn K (.builtin "object.__class__") "__get__" = some (some (.builtin "getset_descriptor.__get__"))
  ht : PySem.W.takesIn K (.builtin "object.__class__") = some true
  hm : PySem.W.mroIn K C (.type "object") = some true
  y : PySem.W.typeIn K (.ref C) = some (.type "type")
  i : PySem.W.isClsIn K C = true
theorem XcP.ex {K : PySem.W.Frag} {C : Addr} (h : XcP K C) : ExcC K C := ⟨h.hg, h.hk, h.hs, h.hd, h.ha, h.hn, h.ht, h.hm⟩
theorem XcP.xf {K : PySem.W.Frag} {C : Addr} (h : XcP K C) : XfC K C := ⟨h.hg, h.hk, h.hs, h.hd⟩
/-- which class is under which: each of cs under P, none of cs under another -/
inductive SubRow (K : PySem.W.Frag) (c : Addr) : List Addr → Prop where
  | nil : SubRow K c []
  | cons {d : Addr} {ds : List Addr} : PySem.W.subIn K (.ref c) (.ref d) = some (c == d) → SubRow K c ds → SubRow K c (d :: ds)
inductive SubTab (K : PySem.W.Frag) (cs : List Addr) (P : Addr) : List Addr → Prop where
  | nil : SubTab K cs P []
  | cons {c : Addr} {r : List Addr} : SubRow K c cs → PySem.W.subIn K (.ref c) (.ref P) = some true → PySem.W.subIn K (.ref c) (.type "ValueError") = some true → SubTab K cs P r → SubTab K cs P (c :: r)
structure SubAll (K : PySem.W.Frag) (cs : List Addr) (P : Addr) : Prop where
  nd : (P :: cs).Nodup
  tab : SubTab K cs P (P :: cs)
theorem SubRow.at {K : PySem.W.Frag} {c : Addr} {ds : List Addr} (h : SubRow K c ds) : ∀ d ∈ ds, PySem.W.subIn K (.ref c) (.ref d) = some (c == d) := by
  induction h with
  | nil => intro d hd; cases hd
  | cons h _ ih =>
    intro d hd
    rcases List.mem_cons.mp hd with e | e
    · rw [e]
      exact h
    · exact ih d e
theorem SubTab.at {K : PySem.W.Frag} {cs : List Addr} {P : Addr} {r : List Addr} (h : SubTab K cs P r) : ∀ c ∈ r, SubRow K c cs ∧ PySem.W.subIn K (.ref c) (.ref P) = some true ∧ PySem.W.subIn K (.ref c) (.type "ValueError") = some true := by
  induction h with
  | nil => intro d hd; cases hd
  | cons h1 h2 h3 _ ih =>
    intro d hd
    rcases List.mem_cons.mp hd with e | e
    · rw [e]
      exact ⟨h1, h2, h3⟩
    · exact ih d e
theorem ref_beq {c d : Addr} : (Value.ref c == Value.ref d) = (c == d) := by
  by_cases h : c = d
  · subst h
    simp
  · rw [beq_eq_false_iff_ne.mpr h, beq_eq_false_iff_ne.mpr (fun e => h (Value.ref.inj e))]
section
variable {K : PySem.W.Frag} {cs : List Addr} {P : Addr}
theorem kit_sub {c d : Addr} {b : Bool} (hd : XcP K d) (h : PySem.W.subIn K (.ref c) (.ref d) = some b) (e : c = d → b = true) : PySem.W.kitOne K (.ref c) (.ref d) = some b := by
  by_cases q : c = d
  · rw [e q]
    subst q
    unfold PySem.W.kitOne
    rw [ref_beq, if_pos (by simp)]
  · exact kit_cls (by rw [ref_beq]; exact beq_eq_false_iff_ne.mpr q) hd.i hd.y h
theorem subAll_kit (h : SubAll K cs P) (hx : ∀ c ∈ P :: cs, XcP K c) {c : Addr} (hc : c ∈ P :: cs) : (∀ d ∈ cs, PySem.W.kitOne K (.ref c) (.ref d) = some (c == d)) ∧ PySem.W.kitOne K (.ref c) (.ref P) = some true ∧ PySem.W.kitOne K (.ref c) (.type "ValueError") = some true := by
  obtain ⟨h3, h4, h5⟩ := h.tab.at c hc
  exact ⟨fun d hd => kit_sub (hx d (List.mem_cons_of_mem _ hd)) (h3.at d hd) (fun e => by rw [e]; simp), kit_sub (hx P (List.mem_cons_self ..)) h4 (fun _ => rfl), kit_bty rfl (by decide +kernel) h5⟩
theorem subAll_nd (h : SubAll K cs P) : (P :: cs).Nodup := h.nd
end
def excP (C : Addr) (f : Str) (d : PyData) : PyData := .dict [(.bool false, .str f), (.int ((C : Nat) : Int), d)]
def spIni (K : PySem.W.Frag) (C : Addr) (f : Str) : Sp := fun vs H Q _ => ∃ (a : Addr) (v : V), vs = [.ref a, v] ∧ OexC K C ∧ PySem.W.findIn K (.ref C) f = some none ∧ H a = some (exo a C none) ∧
  ∀ dx, H dx = none → dx ≠ a → Q .non (upd (upd H dx (exd dx [(f, v)])) a (exo a C (some dx)))
section
variable {X : Cx}
/-- X(e), X's own __init__ keeping one field -/
def tMkI (C : Addr) (f : Str) (t : TA) : TE := fun σ H Q => t σ H fun vs H1 => ∃ v, vs = [v] ∧ ∀ a dx, H1 a = none → H1 dx = none → dx ≠ a → Q (.ref a) (upd (upd H1 dx (exd dx [(f, v)])) a (exo a C (some dx)))
theorem upd_swap3 {H : Hp} {a dx : Addr} {o1 o2 o3 : HO} (h : dx ≠ a) : upd (upd (upd H a o1) dx o2) a o3 = upd (upd H dx o2) a o3 := by
  funext b
  by_cases hb : b = a
  · rw [hb, upd_same, upd_same]
  · rw [upd_ne hb, upd_ne hb]
    by_cases hd : b = dx
    · rw [hd, upd_same, upd_same]
    · rw [upd_ne hd, upd_ne hd, upd_ne hb]
theorem mkI_ok {CX : CXT} {C fI : Addr} {k : Nat} {fd : FuncData} {ps : List Str} {f : Str} {pins : List (Addr × Obj)} {σ : L2.St} {H1 : Hp} {s1 : Shared} {us : List Value} {kw : List (Str × Value)} {y : V} {u : Value} {Q : VK}
    (T : OexC X.K C) (iC : PySem.W.findIn X.K (.ref C) "__init__" = some (some (.ref fI))) (tI : PySem.W.typeIn X.K (.ref fI) = some (.type "function")) (hno : PySem.W.findIn X.K (.ref C) f = some none)
    (Fi : FnG X.prog X.w X.K X.mg X.base CX k fI fd ps (spIni X.K C f)) (clr : Clr X.A) (room : Room (k + 1) X.A) (hx : Passes CX X (fun _ _ _ => False)) (hus : us.length ≤ sizeLine)
    (bd : ∀ (s : Shared) (self : Value), BindsTo s fd ⟨self :: us, kw⟩ (ps.zip [self, u])) (I1 : Inv X pins σ H1 s1) (ry : RelV y u)
    (q1 : ∀ a dx, H1 a = none → H1 dx = none → dx ≠ a → Q (.ref a) (upd (upd H1 dx (exd dx [(f, y)])) a (exo a C (some dx)))) :
    wpAny (model X.prog X.w) X.A (call (.ref C) us kw) (EP X pins σ Q) X.xe s1 := by
  obtain ⟨nm, q, N, bs, bm, sn, sub, ab, col, dd, k0, k1, k2, k3, k5, hC, hbm⟩ := T.cls
  obtain ⟨hp, g, dr, tk, os⟩ := s1
  have hsz : hp.objs.size ≤ hp.objs.size + 1 := Nat.le_succ _
  have hn : H1 (hp.objs.size + 1) = none := I1.hok.fresh hsz
  have kk : ∀ b o, hp.get? b = some o → ((hp.push (PySem.W.kdv_tup us)).push (PySem.HandSPX.excO C hp.objs.size)).get? b = some o := fun b o e => Heap.get?_push_of_some _ (Heap.get?_push_of_some _ e)
  have hget : ((hp.push (PySem.W.kdv_tup us)).push (PySem.HandSPX.excO C hp.objs.size)).get? (hp.objs.size + 1) = some (PySem.HandSPX.excO C hp.objs.size) := by heap_get
  have I2 : Inv X pins σ (upd H1 (hp.objs.size + 1) (exo (hp.objs.size + 1) C none)) ⟨(hp.push (PySem.W.kdv_tup us)).push (PySem.HandSPX.excO C hp.objs.size), g, dr, tk, os⟩ :=
    I1.laid (t' := tk) (a := hp.objs.size + 1) (o := exo (hp.objs.size + 1) C none) (h' := (hp.push (PySem.W.kdv_tup us)).push (PySem.HandSPX.excO C hp.objs.size)) kk hsz (exo_ok hget)
  have clr' : Clr (X.A.under (.builtin "type.__call__" ⟨.ref C :: us, kw⟩)) := clr
  refine wpAny_call (PySem.HandSPX.call_ownK PySem.F.excBase_ValueError (fun Y => PySem.HandSPX.refsVE_contains Y bm hbm) (I1.kIn _ _ hC) (PySem.W.looks_findIn I1.kIn iC) (fun self => PySem.W.bind_fn I1.kIn self tI) hus
    (codeAny_mono (Fi.go _ X.stack _ _ ⟨Value.ref (hp.objs.size + 1) :: us, kw⟩ [Value.ref (hp.objs.size + 1), u] [V.ref (hp.objs.size + 1), y] (fun v H2 => v = .non ∧ Q (.ref (hp.objs.size + 1)) H2) (fun _ _ _ => False) clr' (room.make C us kw) (I2.env0.make C us kw) (bd _ _)
      (.cons rfl (.cons ry .nil)) ⟨_, _, rfl, T, hno, upd_same, fun dx n ne => ⟨rfl, by
        rw [upd_swap3 ne]
        exact q1 _ _ hn (by rw [upd_ne ne] at n; exact n) ne⟩⟩) fun r s' hq' => ?_))
  cases r with
  | error er => exact hx pins σ _ _ er s' I2 hq'
  | ok fl =>
    cases fl with
    | ret u =>
      obtain ⟨v, H2, I3, rv, ev, q⟩ := I2.after hq'
      subst ev
      exact ⟨rv, .ref (hp.objs.size + 1), H2, I3, rfl, q⟩
    | next => exact False.elim hq'
    | brk => exact False.elim hq'
    | cont => exact False.elim hq'
theorem Binds2 {fd : FuncData} {ps : List Str} {us : List Value} {kw : List (Str × Value)} {u : Value} (h : ∀ self, bindArgs fd ⟨self :: us, kw⟩ = pure (ps.zip [self, u])) (s : Shared) (self : Value) : BindsTo s fd ⟨self :: us, kw⟩ (ps.zip [self, u]) := .of_eq (h self)
section
variable {CX : CXT} {x : Str} {C fI : Addr} {k : Nat} {fd : FuncData} {ps : List Str} {f : Str} {e : Expr} {es : List Expr} {kws : List Keyword} {ks : List Str} {t : TA} {p pos : Pos}
theorem pe_mkI (T : OexC X.K C) (iC : PySem.W.findIn X.K (.ref C) "__init__" = some (some (.ref fI))) (tI : PySem.W.typeIn X.K (.ref fI) = some (.type "function")) (hno : PySem.W.findIn X.K (.ref C) f = some none)
    (Fi : FnG X.prog X.w X.K X.mg X.base CX k fI fd ps (spIni X.K C f)) (clr : Clr X.A) (room : Room (k + 1) X.A) (hx : Passes CX X (fun _ _ _ => False))
    (bd : ∀ (u : Value) (s : Shared) (self : Value), BindsTo s fd ⟨[self, u], []⟩ (ps.zip [self, u])) (hg : Gl X x) (hm : X.mg x = some (.ref C)) (ha : PA X (e :: es) t)
    (hdb : (x == ("__debug__" : Str)) = false := by decide) (st1 : starEach (e :: es) X.env = (false, eval e X.env) :: starEach es X.env := by rfl) (st2 : (backTo pos (starEach es X.env)).any (·.1) = false := by rfl) : PE X (.Call (.Name x p) (e :: es) [] pos) (tMkI C f t) := by
  refine ⟨fun pins s σ H Q I h => wpAny_Call_Name_kw (ld_glob I hg hm ?_ hdb)⟩
  refine PySem.W.callWith_K (h₀ := X.base) I.ok.mod.kin T.kC (thn (ha.run pos pins s σ H _ I h) fun us s1 ⟨vs, H1, I1, r1, v, ev, q1⟩ => ⟨I1.kIn, ?_⟩) st1 st2
  subst ev
  cases r1 with
  | cons ry rr =>
    cases rr
    exact mkI_ok T iC tI hno Fi clr room hx (by rw [sizeLine_eq]; exact Nat.le_of_ble_eq_true rfl) (bd _) I1 ry q1
theorem pe_mkIK (T : OexC X.K C) (iC : PySem.W.findIn X.K (.ref C) "__init__" = some (some (.ref fI))) (tI : PySem.W.typeIn X.K (.ref fI) = some (.type "function")) (hno : PySem.W.findIn X.K (.ref C) f = some none)
    (Fi : FnG X.prog X.w X.K X.mg X.base CX k fI fd ps (spIni X.K C f)) (clr : Clr X.A) (room : Room (k + 1) X.A) (hx : Passes CX X (fun _ _ _ => False))
    (bd : ∀ (u : Value) (s : Shared) (self : Value), BindsTo s fd ⟨[self], ks.zip [u]⟩ (ps.zip [self, u])) (hg : Gl X x) (hm : X.mg x = some (.ref C)) (hk : PK X kws t)
    (all1 : (backToKw pos (keywordEach kws X.env)).all (·.1.isSome) = true := by rfl) (names : (backToKw pos (keywordEach kws X.env)).filterMap (·.1) = ks := by rfl)
    (hdb : (x == ("__debug__" : Str)) = false := by decide)
    (plain : ((backTo pos (starEach [] X.env)).any (·.1) || (backToKw pos (keywordEach kws X.env)).any (·.1.isNone)) = false := by rfl) : PE X (.Call (.Name x p) [] kws pos) (tMkI C f t) := by
  refine ⟨fun pins s σ H Q I h => wpAny_Call_Name_kw (ld_glob I hg hm ?_ hdb)⟩
  refine PySem.W.callWith_KW0 (h₀ := X.base) I.ok.mod.kin T.kC all1 (thn (hk.run pos pins s σ H _ I h) fun us s1 ⟨vs, H1, I1, r1, v, ev, q1⟩ => ⟨I1.kIn, ?_⟩) plain
  rw [names]
  subst ev
  cases r1 with
  | cons ry rr =>
    cases rr
    exact mkI_ok T iC tI hno Fi clr room hx (Nat.zero_le _) (bd _) I1 ry q1
end
/-- e.f, e an exception that holds it -/
def tFld (K : PySem.W.Frag) (n : Str) (te : TE) : TE := fun σ H Q => te σ H fun x H1 => ∃ (a C dx : Addr) (fs : List (Str × V)) (v : V), x = .ref a ∧ XfC K C ∧ PySem.W.findIn K (.ref C) n = some none ∧ H1 a = some (exo a C (some dx)) ∧ H1 dx = some (exd dx fs) ∧ fs.lookup n = some v ∧ Q v H1
theorem pe_fld {e : Expr} {te : TE} {pos : Pos} {n : Str} (he : PE X e te) (hb : attributeBase e n X.env (eval e X.env) = eval e X.env := by rfl) : PE X (.Attribute e n pos) (tFld X.K n te) := by
  refine ⟨fun pins s σ H Q I h => ?_⟩
  refine attr_of hb (thn (he.run pins s σ H _ I h) fun u s1 hh => ?_)
  obtain ⟨x, H1, I1, rx, a, C, dx, fs, v, ex, T, hno, ea, ed, l, q⟩ := hh
  subst ex
  obtain rfl : u = Value.ref a := rx
  obtain ⟨t1, ho⟩ := exo_at I1.hok ea
  obtain ⟨mA, hns, hr⟩ := exd_at I1.hok ed
  obtain ⟨od, hod, hl⟩ := lookIn_ns hns
  obtain ⟨u, hu, ru⟩ := RelO.some_of (v := v) (o := mA n) (by rw [← l]; exact hr n)
  have J : PySem.W.InstAt s1.heap a { cls := .ref C, dict := some dx, data := .fields #[.ref t1, .none, .none, .none, .bool false, .none] } C (some od) := ⟨ho, rfl, rfl, hod⟩
  exact PySem.HandSPX.exc_get I1.kIn J T.ga T.gg T.exC (PySem.W.findObj_own T.hdC hno rfl (by rw [hl, hu])) (handed_of ru) ⟨v, H1, I1.tok _, ru, q⟩
/-- isinstance(x, c), x a value or an exception of either kind -/
def rIsiP (K : PySem.W.Frag) : List V → Hp → VK → Prop := fun xs H Q => rIsiX K xs H Q ∨
  ∃ (a D dx : Addr) (fs : List (Str × V)) (c : V) (u : Value) (b : Bool), xs = [.ref a, c] ∧ ClsV c u ∧ H a = some (exo a D (some dx)) ∧ H dx = some (exd dx fs) ∧ ExcC K D ∧ PySem.W.kitOne K (.ref D) u = some b ∧ Q (.bl b) H
theorem call_isiP : CallR X (.builtin "isinstance") (rIsiP X.K) := by
  intro pins s σ H xs us Q I r h
  rcases h with h | ⟨a, D, dx, fs, c, u, b, rfl, hc, ea, ed, C, e, q⟩
  · exact call_isiX pins s σ H xs us Q I r h
  · cases r with
    | cons rx rr =>
      cases rr with
      | cons rt rr =>
        cases rr
        cases rx
        have ec := hc.eq rt
        subst ec
        obtain ⟨t1, ho⟩ := exo_at I.hok ea
        obtain ⟨mA, hns, hr⟩ := exd_at I.hok ed
        obtain ⟨od, hod, hl⟩ := lookIn_ns hns
        have J : PySem.W.InstAt s.heap a { cls := .ref D, dict := some dx, data := .fields #[.ref t1, .none, .none, .none, .bool false, .none] } D (some od) := ⟨ho, rfl, rfl, hod⟩
        exact PySem.W.kia_one (PySem.W.kitx_excO C.hg C.hk C.hs C.hd C.ha C.hn C.ht C.hm) I.kIn ⟨_, J⟩ e (fun z => nomatch z) fun tk => ⟨.bl b, H, I.tok tk, rfl, q⟩
end
section
variable [G : Sprs] {K : PySem.W.Frag} {ρ : Env}
theorem Rp.excP {H : Hp} {v : V} {C : Addr} {f : Str} {d : PyData} (r : Rp K H v (excP C f d)) : ∃ (a dx : Addr) (y : V), v = .ref a ∧ H a = some (exo a C (some dx)) ∧ H dx = some (exd dx [(f, y)]) ∧ Rp K H y d := by
  generalize e : Dx.excP C f d = z at r
  unfold Dx.excP at e
  cases r with
  | exp h1 h2 n r =>
    injection e with e
    injection e with e1 e
    injection e with e2 _
    injection e1 with _ e1
    injection e1 with e1
    injection e2 with e2 e3
    injection e2 with e2
    subst e1 e3
    rw [Int.ofNat.inj e2]
    exact ⟨_, _, _, rfl, h1, h2, r⟩
  | exc h =>
    injection e with e
    injection e with e _
    injection e with e _
    cases e
  | pt h =>
    injection e with e
    injection e with e _
    injection e with e _
    cases e
  | scr h =>
    injection e with e
    injection e with e _
    injection e with e _
    cases e
  | tab h r =>
    injection e with e
    injection e with e _
    injection e with _ e
    cases e
  | _ => cases e
theorem upd2_same {H : Hp} {a dx : Addr} {o1 o2 : HO} (h1 : H a = none) (h2 : H dx = none) : Same H (upd (upd H dx o1) a o2) := fun b o h => by
  rw [upd_ne (ne_of_none h h1), upd_ne (ne_of_none h h2)]
  exact h
theorem e_mkI {C : Addr} {f : Str} {t : TA} {d : PyData} (h : EvL K t ρ [d]) (hn : noX d = true) : EvD K (tMkI C f t) ρ (Dx.excP C f d) := fun S σ H Q hd he hq =>
  h S σ H _ hd he fun vs H1 s r => by
    cases r with
    | cons r rr =>
      cases rr
      exact ⟨_, rfl, fun a dx ha hx ne => hq _ _ (s.trans (.of (upd2_same ha hx))) (.exp (hid_at upd_same ((hd.same s).fresh ha)) (hid_at (by rw [upd_ne ne]; exact upd_same) ((hd.same s).fresh hx)) hn (r.same (hid_same (.of (upd2_same ha hx)))))⟩
theorem e_fld {C : Addr} {f : Str} {te : TE} {d : PyData} (h : EvD K te ρ (Dx.excP C f d)) (T : XfC K C) (hno : PySem.W.findIn K (.ref C) f = some none) : EvD K (tFld K f te) ρ d := fun S σ H Q hd he hq =>
  h S σ H _ hd he fun v H1 s r => by
    obtain ⟨a, dx, y, rfl, ea, ed, ry⟩ := r.excP
    exact ⟨a, C, dx, _, y, rfl, T, hno, hid_sub _ _ ea, hid_sub _ _ ed, by simp [List.lookup], hq _ _ s ry⟩
/-- d is an exception of the class at D -/
def IsE (K : PySem.W.Frag) (d : PyData) (D : Addr) : Prop := ExcC K D ∧ (d = excD D ∨ ∃ f d', d = Dx.excP D f d')
theorem cb_isP {te : TE} {d : PyData} {D : Addr} {c : V} {u : Value} {b : Bool} (h : EvD K te ρ d) (hd : IsE K d D) (hc : ClsV c u) (hk : PySem.W.kitOne K (.ref D) u = some b) : EvD K (tCB (rIsiP K) (tCons te (tCons (tC c) tNil))) ρ (.bool b) := fun S σ H Q hdm he hq =>
  h S σ H _ hdm he fun v H1 s1 r1 => by
    obtain ⟨hE, hd⟩ := hd
    rcases hd with rfl | ⟨f, d', rfl⟩
    · obtain ⟨a, rfl, z⟩ := r1.excE
      exact .inl (.inr ⟨a, D, c, u, b, rfl, hc, hid_sub _ _ z, hE, hk, hq _ _ s1 (.bl b)⟩)
    · obtain ⟨a, dx, y, rfl, ea, ed, ry⟩ := r1.excP
      exact .inr ⟨a, D, dx, _, c, u, b, rfl, hc, hid_sub _ _ ea, hid_sub _ _ ed, hE, hk, hq _ _ s1 (.bl b)⟩
end
end Dx
namespace K07
open PySem PySem.Spec L2 Dx
open PyProof.Rows hiding St
local macro_rules | `(tactic| walk_at "sd") => `(tactic| first
  | omega
  | exact Or.inl ⟨by omega, by omega⟩
  | exact Or.inr ⟨by omega, by omega⟩
  | exact ⟨by omega, by omega⟩
  | (show CDiv _ _; exact ⟨by omega, by omega⟩)
  | (show CMul _ _; exact Or.inl ⟨by omega, by omega⟩)
  | (show CMul _ _; exact Or.inr ⟨by omega, by omega⟩)
  | rfl)
local macro_rules | `(tactic| walk_at "ev") => `(tactic| first
  | exact e_var rfl
  | exact e_int
  | exact e_bl
  | exact e_str
  | exact e_non
  | exact l_nil
  | exact b_yes
  | (apply e_add <;> first | walk_at "ev" | (intro _; walk_at "ev") | walk_at "sd" | skip)
  | (apply e_sub <;> first | walk_at "ev" | (intro _; walk_at "ev") | walk_at "sd" | skip)
  | (apply e_lt <;> first | walk_at "ev" | (intro _; walk_at "ev") | walk_at "sd" | skip)
  | (apply e_le <;> first | walk_at "ev" | (intro _; walk_at "ev") | walk_at "sd" | skip)
  | (apply e_gt <;> first | walk_at "ev" | (intro _; walk_at "ev") | walk_at "sd" | skip)
  | (apply e_ge <;> first | walk_at "ev" | (intro _; walk_at "ev") | walk_at "sd" | skip)
  | (apply e_eqI <;> first | walk_at "ev" | (intro _; walk_at "ev") | walk_at "sd" | skip)
  | (apply e_neI <;> first | walk_at "ev" | (intro _; walk_at "ev") | walk_at "sd" | skip)
  | (apply e_iop <;> first | walk_at "ev" | (intro _; walk_at "ev") | walk_at "sd" | skip)
  | (apply e_neg <;> first | walk_at "ev" | (intro _; walk_at "ev") | walk_at "sd" | skip)
  | (apply b_and <;> first | walk_at "ev" | (intro _; walk_at "ev") | walk_at "sd" | skip)
  | (apply b_or <;> first | walk_at "ev" | (intro _; walk_at "ev") | walk_at "sd" | skip)
  | (apply e_and <;> first | walk_at "ev" | (intro _; walk_at "ev") | walk_at "sd" | skip)
  | (apply e_or <;> first | walk_at "ev" | (intro _; walk_at "ev") | walk_at "sd" | skip)
  | (apply e_test <;> first | walk_at "ev" | (intro _; walk_at "ev") | walk_at "sd" | skip)
  | (apply e_tB <;> first | walk_at "ev" | (intro _; walk_at "ev") | walk_at "sd" | skip)
  | (apply b_not <;> first | walk_at "ev" | (intro _; walk_at "ev") | walk_at "sd" | skip)
  | (apply e_not <;> first | walk_at "ev" | (intro _; walk_at "ev") | walk_at "sd" | skip)
  | (apply cb_int <;> first | walk_at "ev" | (intro _; walk_at "ev") | walk_at "sd" | skip)
  | (apply cb_lenS <;> first | walk_at "ev" | (intro _; walk_at "ev") | walk_at "sd" | skip)
  | (apply l_cons <;> first | walk_at "ev" | (intro _; walk_at "ev") | walk_at "sd" | skip))
def top (i : Nat) : Stmt := PySem.Challenge.pw_lastcopied_k07_errors_made.main.body.getD i (.Pass ⟨0, 0, 0, 0⟩)
abbrev s_law_cell : Stmt := top 19
abbrev N_law_cell : List Str := ["script", "k"]
theorem sc_law_cell : FnScope N_law_cell ["script", "k"] (defScope s_law_cell) := ⟨rfl, rfl, rfl, by decide +kernel, rfl, by decide +kernel, by decide +kernel⟩
abbrev s_law_draw : Stmt := top 20
abbrev N_law_draw : List Str := ["cell", "k", "limit", "seed", "first", "second", "third"]
theorem sc_law_draw : FnScope N_law_draw ["cell", "k", "limit"] (defScope s_law_draw) := ⟨rfl, rfl, rfl, by decide +kernel, rfl, by decide +kernel, by decide +kernel⟩
abbrev s_law_kinds : Stmt := top 21
abbrev N_law_kinds : List Str := ["e", "found"]
theorem sc_law_kinds : FnScope N_law_kinds ["e"] (defScope s_law_kinds) := ⟨rfl, rfl, rfl, by decide +kernel, rfl, by decide +kernel, by decide +kernel⟩
abbrev s_law_made : Stmt := top 22
abbrev N_law_made : List Str := ["text", "found"]
theorem sc_law_made : FnScope N_law_made ["text"] (defScope s_law_made) := ⟨rfl, rfl, rfl, by decide +kernel, rfl, by decide +kernel, by decide +kernel⟩
abbrev s_law : Stmt := top 23
abbrev N_law : List Str := ["script", "cell", "made", "k", "rows", "spot", "one", "two", "plain", "at"]
theorem sc_law : FnScope N_law ["script"] (defScope s_law) := ⟨rfl, rfl, rfl, by decide +kernel, rfl, by decide +kernel, by decide +kernel⟩
def si_InvalidText : Stmt := match top 17 with | .ClassDef _ _ _ b _ _ _ _ _ _ _ => b.getD 0 (.Pass ⟨0, 0, 0, 0⟩) | _ => .Pass ⟨0, 0, 0, 0⟩
theorem sci_InvalidText : FnScope ["self", "place"] ["self", "place"] (defScope si_InvalidText) := ⟨rfl, rfl, rfl, by decide +kernel, rfl, by decide +kernel, by decide +kernel⟩
/-- what the top has left -/
structure Tx (K : PySem.W.Frag) (mg : Str → Option Value) where
  a__law_cell : Addr
  d__law_cell : FuncData
  F__law_cell : Fun K "_law_cell" "_law_cell" s_law_cell a__law_cell d__law_cell
  b__law_cell : Binds K d__law_cell ["script", "k"] []
  g__law_cell : mg "_law_cell" = some (.ref a__law_cell)
  a__law_draw : Addr
  d__law_draw : FuncData
  F__law_draw : Fun K "_law_draw" "_law_draw" s_law_draw a__law_draw d__law_draw
  b__law_draw : Binds K d__law_draw ["cell", "k", "limit"] []
  g__law_draw : mg "_law_draw" = some (.ref a__law_draw)
  a__law_kinds : Addr
  d__law_kinds : FuncData
  F__law_kinds : Fun K "_law_kinds" "_law_kinds" s_law_kinds a__law_kinds d__law_kinds
  b__law_kinds : Binds K d__law_kinds ["e"] []
  g__law_kinds : mg "_law_kinds" = some (.ref a__law_kinds)
  a__law_made : Addr
  d__law_made : FuncData
  F__law_made : Fun K "_law_made" "_law_made" s_law_made a__law_made d__law_made
  b__law_made : Binds K d__law_made ["text"] []
  g__law_made : mg "_law_made" = some (.ref a__law_made)
  a_law : Addr
  d_law : FuncData
  F_law : Fun K "law" "law" s_law a_law d_law
  b_law : Binds K d_law ["script"] []
  g_law : mg "law" = some (.ref a_law)
  c_CopyError : Addr
  g_CopyError : mg "CopyError" = some (.ref c_CopyError)
  xc_CopyError : Dx.XcP K c_CopyError
  xq_CopyError : PySem.W.excIn K c_CopyError [.type "ValueError", .type "Exception", .type "BaseException", .type "object"] "ValueError.__new__" = true
  c_Full : Addr
  g_Full : mg "Full" = some (.ref c_Full)
  xc_Full : Dx.XcP K c_Full
  xq_Full : PySem.W.excIn K c_Full [.type "ValueError", .type "Exception", .type "BaseException", .type "object"] "ValueError.__new__" = true
  c_InvalidCommand : Addr
  g_InvalidCommand : mg "InvalidCommand" = some (.ref c_InvalidCommand)
  xc_InvalidCommand : Dx.XcP K c_InvalidCommand
  xq_InvalidCommand : PySem.W.excIn K c_InvalidCommand [.type "ValueError", .type "Exception", .type "BaseException", .type "object"] "ValueError.__new__" = true
  c_InvalidIndex : Addr
  g_InvalidIndex : mg "InvalidIndex" = some (.ref c_InvalidIndex)
  xc_InvalidIndex : Dx.XcP K c_InvalidIndex
  xq_InvalidIndex : PySem.W.excIn K c_InvalidIndex [.type "ValueError", .type "Exception", .type "BaseException", .type "object"] "ValueError.__new__" = true
  c_InvalidLine : Addr
  g_InvalidLine : mg "InvalidLine" = some (.ref c_InvalidLine)
  xc_InvalidLine : Dx.XcP K c_InvalidLine
  xq_InvalidLine : PySem.W.excIn K c_InvalidLine [.type "ValueError", .type "Exception", .type "BaseException", .type "object"] "ValueError.__new__" = true
  c_InvalidNumber : Addr
  g_InvalidNumber : mg "InvalidNumber" = some (.ref c_InvalidNumber)
  xc_InvalidNumber : Dx.XcP K c_InvalidNumber
  xq_InvalidNumber : PySem.W.excIn K c_InvalidNumber [.type "ValueError", .type "Exception", .type "BaseException", .type "object"] "ValueError.__new__" = true
  c_InvalidPattern : Addr
  g_InvalidPattern : mg "InvalidPattern" = some (.ref c_InvalidPattern)
  xc_InvalidPattern : Dx.XcP K c_InvalidPattern
  xq_InvalidPattern : PySem.W.excIn K c_InvalidPattern [.type "ValueError", .type "Exception", .type "BaseException", .type "object"] "ValueError.__new__" = true
  c_InvalidPeriod : Addr
  g_InvalidPeriod : mg "InvalidPeriod" = some (.ref c_InvalidPeriod)
  xc_InvalidPeriod : Dx.XcP K c_InvalidPeriod
  xq_InvalidPeriod : PySem.W.excIn K c_InvalidPeriod [.type "ValueError", .type "Exception", .type "BaseException", .type "object"] "ValueError.__new__" = true
  c_InvalidPhases : Addr
  g_InvalidPhases : mg "InvalidPhases" = some (.ref c_InvalidPhases)
  xc_InvalidPhases : Dx.XcP K c_InvalidPhases
  xq_InvalidPhases : PySem.W.excIn K c_InvalidPhases [.type "ValueError", .type "Exception", .type "BaseException", .type "object"] "ValueError.__new__" = true
  c_InvalidRow : Addr
  g_InvalidRow : mg "InvalidRow" = some (.ref c_InvalidRow)
  xc_InvalidRow : Dx.XcP K c_InvalidRow
  xq_InvalidRow : PySem.W.excIn K c_InvalidRow [.type "ValueError", .type "Exception", .type "BaseException", .type "object"] "ValueError.__new__" = true
  c_InvalidStep : Addr
  g_InvalidStep : mg "InvalidStep" = some (.ref c_InvalidStep)
  xc_InvalidStep : Dx.XcP K c_InvalidStep
  xq_InvalidStep : PySem.W.excIn K c_InvalidStep [.type "ValueError", .type "Exception", .type "BaseException", .type "object"] "ValueError.__new__" = true
  c_InvalidStretch : Addr
  g_InvalidStretch : mg "InvalidStretch" = some (.ref c_InvalidStretch)
  xc_InvalidStretch : Dx.XcP K c_InvalidStretch
  xq_InvalidStretch : PySem.W.excIn K c_InvalidStretch [.type "ValueError", .type "Exception", .type "BaseException", .type "object"] "ValueError.__new__" = true
  c_InvalidText : Addr
  g_InvalidText : mg "InvalidText" = some (.ref c_InvalidText)
  xc_InvalidText : Dx.XcP K c_InvalidText
  oe_InvalidText : OexC K c_InvalidText
  in_InvalidText : PySem.W.findIn K (.ref c_InvalidText) "place" = some none
  ia_InvalidText : Addr
  id_InvalidText : FuncData
  ii_InvalidText : PySem.W.findIn K (.ref c_InvalidText) "__init__" = some (some (.ref ia_InvalidText))
  it_InvalidText : PySem.W.typeIn K (.ref ia_InvalidText) = some (.type "function")
  iF_InvalidText : Fun K "__init__" "InvalidText.__init__" si_InvalidText ia_InvalidText id_InvalidText
  ib_InvalidText : ∀ (u : Value) (s : Shared) (self : Value), BindsTo s id_InvalidText ⟨[self, u], []⟩ ((["self", "place"] : List Str).zip [self, u])
  ik_InvalidText : ∀ (u : Value) (s : Shared) (self : Value), BindsTo s id_InvalidText ⟨[self], (["place"] : List Str).zip [u]⟩ ((["self", "place"] : List Str).zip [self, u])
  c_InvalidTime : Addr
  g_InvalidTime : mg "InvalidTime" = some (.ref c_InvalidTime)
  xc_InvalidTime : Dx.XcP K c_InvalidTime
  xq_InvalidTime : PySem.W.excIn K c_InvalidTime [.type "ValueError", .type "Exception", .type "BaseException", .type "object"] "ValueError.__new__" = true
  c_NothingToUndo : Addr
  g_NothingToUndo : mg "NothingToUndo" = some (.ref c_NothingToUndo)
  xc_NothingToUndo : Dx.XcP K c_NothingToUndo
  xq_NothingToUndo : PySem.W.excIn K c_NothingToUndo [.type "ValueError", .type "Exception", .type "BaseException", .type "object"] "ValueError.__new__" = true
  c_OtherEnds : Addr
  g_OtherEnds : mg "OtherEnds" = some (.ref c_OtherEnds)
  xc_OtherEnds : Dx.XcP K c_OtherEnds
  xq_OtherEnds : PySem.W.excIn K c_OtherEnds [.type "ValueError", .type "Exception", .type "BaseException", .type "object"] "ValueError.__new__" = true
  c_Unheard : Addr
  g_Unheard : mg "Unheard" = some (.ref c_Unheard)
  xc_Unheard : Dx.XcP K c_Unheard
  xq_Unheard : PySem.W.excIn K c_Unheard [.type "ValueError", .type "Exception", .type "BaseException", .type "object"] "ValueError.__new__" = true
  sall : Dx.SubAll K [c_InvalidRow, c_InvalidPhases, c_InvalidTime, c_InvalidNumber, c_InvalidStretch, c_InvalidPattern, c_InvalidStep, c_InvalidIndex, c_InvalidPeriod, c_InvalidLine, c_OtherEnds, c_Unheard, c_Full, c_NothingToUndo, c_InvalidCommand, c_InvalidText] c_CopyError
  n_ValueError : mg "ValueError" = none
  n_int : mg "int" = none
  n_isinstance : mg "isinstance" = none
  n_len : mg "len" = none
  n_range : mg "range" = none
  n_repr : mg "repr" = none
/-! ### what the law draws -/
def r1 (c k : Int) : Int := (c * 48271 + 7919 * k * k + 30011) % 1000000007
def r2 (s k : Int) : Int := (s * s + 60493 * k) % 2147483629
def r3 (f s : Int) : Int := (f * f + s) % 2147483587
def r4 (e f : Int) : Int := (e * e + f) % 2147483563
def rnd (c k : Int) : Int := r4 (r3 (r2 (r1 c k) k) (r1 c k)) (r2 (r1 c k) k) / 64
def draw (cell k limit : Int) : Int :=
  if 10 ^ 18 ≤ cell ∧ 0 < cell / 2 ^ (14 * k).toNat then cell / 2 ^ (14 * k).toNat % 16384 % limit else rnd cell k % limit
theorem draw_lo {cell k limit : Int} (h : 0 < limit) : 0 ≤ draw cell k limit := by
  unfold draw
  split
  · exact Int.emod_nonneg _ (by omega)
  · exact Int.emod_nonneg _ (by omega)
theorem draw_hi {cell k limit : Int} (h : 0 < limit) : draw cell k limit < limit := by
  unfold draw
  split
  · exact Int.emod_lt_of_pos _ h
  · exact Int.emod_lt_of_pos _ h
def fDraw : List PyData → PyData
  | [.int c, .int k, .int l] => .int (draw c k l)
  | _ => .none
def perL (c k g m : Int) : List Int := (List.range (2 + draw c k (m - 1)).toNat).map fun j => 1 + draw c (k + 1 + (j : Nat)) g
def fPeriods : List PyData → PyData
  | [.int c, .int k, .int g, .int m] => .tuple ((perL c k g m).map PyData.int)
  | _ => .none
/-! ### small facts -/
abbrev iL (ns : List Int) : PyData := .list (ns.map PyData.int)
theorem unint (ns : List Int) : ((ns.map PyData.int).map fun d => match d with | .int i => i | _ => 0) = ns := by
  rw [List.map_map]
  have : ((fun d => match d with | PyData.int i => i | _ => 0) ∘ PyData.int) = (id : Int → Int) := rfl
  rw [this, List.map_id]
theorem atI_at {l : List PyData} {j : Nat} {d : PyData} (h : l[j]? = some d) : atI l (j : Int) = some d := atI_nat h
theorem map_at {ns : List Int} {j : Nat} {z : Int} (h : ns[j]? = some z) : (ns.map PyData.int)[j]? = some (.int z) := by
  rw [List.getElem?_map, h]
  rfl
theorem f_mapI [Dx.Sprs] {ρ : Dx.Env} {K : PySem.W.Frag} {wi : TI} {j : Nat} {te : TE} {l : List Int} {g : Int → Int} (hi : EvI K wi ρ (l.map PyData.int)) (hz : l.length ≤ 16000000)
    (he : ∀ n ∈ l, EvD K te (ρ.set j (some (.int n))) (.int (g n))) : EvF K (tLc wi (gName j) tYes te [j]) ρ ((l.map g).map PyData.int) := by
  refine (f_map (f := fun d => match d with | .int n => .int (g n) | _ => .none) hi ?_ ?_).cast ?_
  · rw [List.length_map]
    show _ ≤ 2 ^ 24
    omega
  · intro d hd
    obtain ⟨n, hn, rfl⟩ := List.mem_map.mp hd
    exact he n hn
  · rw [List.map_map, List.map_map]
    rfl
theorem nl_map (ns : List Int) : noLs (ns.map PyData.int) = true := by
  induction ns with
  | nil => rfl
  | cons n ns ih =>
    rw [List.map_cons]
    simp only [noLs, noL, ih]
    rfl
theorem canLay_map (l : List Int) : PyData.canLayAll0 (l.map PyData.int) = true := by
  induction l with
  | nil => simp [PyData.canLayAll0]
  | cons n l ih =>
    rw [List.map_cons]
    simp only [PyData.canLayAll0, PyData.canLay0, ih]
    rfl
theorem nx_map (l : List Int) : noXs (l.map PyData.int) = true := by
  induction l with
  | nil => rfl
  | cons n l ih =>
    rw [List.map_cons]
    simp only [noXs, noX, ih]
    rfl
theorem atI_neg {l : List PyData} {j : Nat} {d : PyData} (h1 : 1 ≤ j) (h2 : j ≤ l.length) (h : l[l.length - j]? = some d) : atI l (-(j : Int)) = some d := by
  unfold atI ixN
  rw [if_neg (by omega), if_pos (by omega)]
  show l[(-(j : Int) + l.length).toNat]? = _
  have e : (-(j : Int) + l.length).toNat = l.length - j := by omega
  rw [e]
  exact h
section
variable {Pg : Program} {w : World} {K : PySem.W.Frag} {mg : Str → Option Value} {base : Heap}
theorem ok_law_draw (T : Tx K mg) : Dx.FnG Pg w K mg base CX0 1 T.a__law_draw T.d__law_draw ["cell", "k", "limit"] (spD K (fun ds => ∃ c k l : Int, ds = [.int c, .int k, .int l] ∧ 0 ≤ k ∧ k ≤ 5000 ∧ 0 < l) fDraw) := by
  refine fnG_ok T.F__law_draw sc_law_draw (fun ds ⟨_, _, _, e, _⟩ => by rw [e]; rfl) fun cdv A out s H E clr hr => ⟨_, (pss_cons (ps_if (PW.pt (pw_and (pt_cmpR op_ge (pv 0) (pe_op op_pow pe_int pe_int) (nomark _)) (pw_and1 (pt_cmpR op_gt (pe_op op_shr (pv 0) (pe_op op_mul pe_int (pv 1))) pe_int (nomark _))))) (pss_one (ps_ret (pe_op op_mod (pe_op op_mod (pe_callTy call_int1 (by rfl) T.n_int (by decide +kernel) (pa_cons (pe_op op_shr (pv 0) (pe_op op_mul pe_int (pv 1))) pa_nil)) pe_int) (pv 2)))) pss_nil) (pss_cons (ps_set (i := 3) sc_law_draw.nd rfl (Or.inl rfl) (pe_op op_mod (pe_callTy call_int1 (by rfl) T.n_int (by decide +kernel) (pa_cons (pe_op op_add (pe_op op_add (pe_op op_mul (pv 0) pe_int) (pe_op op_mul (pe_op op_mul pe_int (pv 1)) (pv 1))) pe_int) pa_nil)) pe_int)) (pss_cons (ps_set (i := 4) sc_law_draw.nd rfl (Or.inl rfl) (pe_op op_mod (pe_callTy call_int1 (by rfl) T.n_int (by decide +kernel) (pa_cons (pe_op op_add (pe_op op_mul (pv 3) (pv 3)) (pe_op op_mul pe_int (pv 1))) pa_nil)) pe_int)) (pss_cons (ps_set (i := 5) sc_law_draw.nd rfl (Or.inl rfl) (pe_op op_mod (pe_callTy call_int1 (by rfl) T.n_int (by decide +kernel) (pa_cons (pe_op op_add (pe_op op_mul (pv 4) (pv 4)) (pv 3)) pa_nil)) pe_int)) (pss_cons (ps_set (i := 6) sc_law_draw.nd rfl (Or.inl rfl) (pe_op op_mod (pe_callTy call_int1 (by rfl) T.n_int (by decide +kernel) (pa_cons (pe_op op_add (pe_op op_mul (pv 5) (pv 5)) (pv 4)) pa_nil)) pe_int)) (pss_one (ps_ret (pe_op op_mod (pe_callTy call_int1 (by rfl) T.n_int (by decide +kernel) (pa_cons (pe_op op_fdiv (pv 6) pe_int) pa_nil)) (pv 2))))))))), ?_⟩
  intro _G0
  rintro ds ⟨c, k, l, rfl, k0, k1, l0⟩
  have e : startE N_law_draw [.int c, .int k, .int l] = [.dat (.int c), .dat (.int k), .dat (.int l), .no, .no, .no, .no] := rfl
  rw [e]
  have hg : fDraw [.int c, .int k, .int l] = .int (draw c k l) := rfl
  rw [hg]
  apply x_sif
  case h => walk_at "ev"
  case h1 =>
    intro h
    apply x_sret
    case h => walk_at "ev"
    case hp =>
      rw [Bool.and_eq_true] at h
      have h2 : 10 ^ 18 ≤ c ∧ 0 < c / 2 ^ (14 * k).toNat := ⟨of_decide_eq_true h.1, of_decide_eq_true h.2⟩
      show PyData.int (c / 2 ^ (14 * k).toNat % 16384 % l) = PyData.int (draw c k l)
      unfold draw
      rw [if_pos h2]
  case h2 =>
    intro h
    have hn : ¬ (10 ^ 18 ≤ c ∧ 0 < c / 2 ^ (14 * k).toNat) := by
      intro z
      rw [show (10 ^ Int.toNat 18 : Int) = 10 ^ 18 from rfl, decide_eq_true z.1, decide_eq_true z.2] at h
      cases h
    have er : draw c k l = rnd c k % l := by
      unfold draw
      rw [if_neg hn]
    rw [er]
    unfold rnd
    apply x_sset (d := .int (r1 c k)) (hn := rfl)
    case h => walk_at "ev"
    have b1 : 0 ≤ r1 c k := Int.emod_nonneg _ (by omega)
    have b2 : r1 c k < 1000000007 := Int.emod_lt_of_pos _ (by omega)
    generalize r1 c k = seed at b1 b2 ⊢
    apply x_sset (d := .int (r2 seed k)) (hn := rfl)
    case h => walk_at "ev"
    have b3 : 0 ≤ r2 seed k := Int.emod_nonneg _ (by omega)
    have b4 : r2 seed k < 2147483629 := Int.emod_lt_of_pos _ (by omega)
    generalize r2 seed k = first at b3 b4 ⊢
    apply x_sset (d := .int (r3 first seed)) (hn := rfl)
    case h => walk_at "ev"
    have b5 : 0 ≤ r3 first seed := Int.emod_nonneg _ (by omega)
    have b6 : r3 first seed < 2147483587 := Int.emod_lt_of_pos _ (by omega)
    generalize r3 first seed = second at b5 b6 ⊢
    apply x_sset (d := .int (r4 second first)) (hn := rfl)
    case h => walk_at "ev"
    apply x_ret
    case h => walk_at "ev"
    case hp => rfl
/-! ### the script's cells -/
def cellOf (ns : List Int) (k : Int) : Int := if k < ns.length then ns.getD k.toNat 0 else 0
def fCell : List PyData → PyData
  | [.dict [(.list ds, .none)], .int k] => .int (cellOf (ds.map fun d => match d with | .int i => i | _ => 0) k)
  | _ => .none
theorem ok_law_cell (T : Tx K mg) : Dx.FnG Pg w K mg base CX0 1 T.a__law_cell T.d__law_cell ["script", "k"] (spD K (fun ds => ∃ (ns : List Int) (k : Int), ds = [scrD ns, .int k] ∧ 0 ≤ k) fCell) := by
  refine fnG_ok T.F__law_cell sc_law_cell (fun ds ⟨_, _, e, _⟩ => by rw [e]; rfl) fun cdv A out s H E clr hr => ⟨_, (pss_cons (ps_if (pt_cmpR op_lt (pv 1) (pe_callB call_len_seq (by rfl) T.n_len (by decide +kernel) (pa_cons (pv 0) pa_nil)) (nomark _)) (pss_one (ps_ret (pe_ix (r := rIxL K) ix_list (pv 0) (pv 1) (fun _ _ => rfl)))) pss_nil) (pss_one (ps_ret pe_int))), ?_⟩
  intro _G0
  rintro ds ⟨ns, k, rfl, k0⟩
  have e : startE N_law_cell [scrD ns, .int k] = [.dat (scrD ns), .dat (.int k)] := rfl
  rw [e]
  have hg : fCell [scrD ns, .int k] = .int (cellOf ns k) := by
    show PyData.int (cellOf ((ns.map PyData.int).map fun d => match d with | .int i => i | _ => 0) k) = _
    rw [List.map_map]
    have : ((fun d => match d with | PyData.int i => i | _ => 0) ∘ PyData.int) = (id : Int → Int) := rfl
    rw [this, List.map_id]
  rw [hg]
  apply x_sif
  case h => walk_at "ev"
  case h1 =>
    intro h
    have hl : k < ns.length := of_decide_eq_true h
    apply x_sret (d := .int (cellOf ns k)) (hp := rfl)
    refine e_ixS (e_var rfl) (e_var rfl) ?_
    unfold atI ixN cellOf
    rw [if_pos k0, if_pos hl, if_pos hl]
    show ns[k.toNat]? = _
    rw [List.getD_eq_getElem?_getD, List.getElem?_eq_getElem (by omega)]
    rfl
  case h2 =>
    intro h
    have hl : ¬ k < ns.length := of_decide_eq_false h
    apply x_ret (d := .int (cellOf ns k)) (hp := rfl)
    unfold cellOf
    rw [if_neg hl]
    exact e_int
def cls7 (T : Tx K mg) : List Addr := [T.c_InvalidRow, T.c_InvalidPhases, T.c_InvalidTime, T.c_InvalidNumber, T.c_InvalidStretch, T.c_InvalidPattern, T.c_InvalidStep, T.c_InvalidIndex, T.c_InvalidPeriod, T.c_InvalidLine, T.c_OtherEnds, T.c_Unheard, T.c_Full, T.c_NothingToUndo, T.c_InvalidCommand, T.c_InvalidText]
theorem all_xc (T : Tx K mg) : ∀ c ∈ T.c_CopyError :: cls7 T, XcP K c := by
  intro c hc
  simp only [cls7, List.mem_cons, List.not_mem_nil, or_false] at hc
  rcases hc with h | h | h | h | h | h | h | h | h | h | h | h | h | h | h | h | h <;> subst h
  · exact T.xc_CopyError
  · exact T.xc_InvalidRow
  · exact T.xc_InvalidPhases
  · exact T.xc_InvalidTime
  · exact T.xc_InvalidNumber
  · exact T.xc_InvalidStretch
  · exact T.xc_InvalidPattern
  · exact T.xc_InvalidStep
  · exact T.xc_InvalidIndex
  · exact T.xc_InvalidPeriod
  · exact T.xc_InvalidLine
  · exact T.xc_OtherEnds
  · exact T.xc_Unheard
  · exact T.xc_Full
  · exact T.xc_NothingToUndo
  · exact T.xc_InvalidCommand
  · exact T.xc_InvalidText
theorem ok_ini_InvalidText (T : Tx K mg) : Dx.FnG Pg w K mg base CX0 1 T.ia_InvalidText T.id_InvalidText ["self", "place"] (spIni K T.c_InvalidText "place") := by
  refine Fun.okG T.iF_InvalidText sci_InvalidText (fun vs H Q E h => ?_) fun cdv A out s H vs Q E clr hr h => ?_
  · obtain ⟨a, v, rfl, _⟩ := h
    rfl
  · obtain ⟨a, v, rfl, hT, hno, ha, hq⟩ := h
    exact ⟨_, pss_one (ps_ost (pv 0) (pv 1)), v, rfl, .ref a, rfl, a, _, rfl, hT, hno, .inl ⟨ha, fun dx n ne => hq dx n ne⟩⟩
def clsOf : PyData → Int
  | .dict [(.none, .int n)] => n
  | .dict [(.bool _, _), (.int n, _)] => n
  | _ => -1
theorem clsOf_is {d : PyData} {D : Addr} (h : IsE K d D) : clsOf d = ((D : Nat) : Int) := by
  rcases h.2 with rfl | ⟨f, d', rfl⟩
  · rfl
  · rfl
def fKinds (cs : List Addr) : List PyData → PyData
  | [d] => .list (cs.map fun c => .bool (decide (clsOf d = ((c : Nat) : Int))))
  | _ => .none
theorem beq_dec {D c : Addr} : (D == c) = decide (((D : Nat) : Int) = ((c : Nat) : Int)) := by
  by_cases h : D = c
  · subst h
    simp
  · have hn : ¬ ((D : Nat) : Int) = ((c : Nat) : Int) := fun e => h (Int.ofNat.inj e)
    rw [beq_eq_false_iff_ne.mpr h, decide_eq_false hn]
set_option maxHeartbeats 0 in
theorem ok_law_kinds (T : Tx K mg) : Dx.FnG Pg w K mg base CX0 1 T.a__law_kinds T.d__law_kinds ["e"] (spD K (fun ds => ∃ d D, ds = [d] ∧ D ∈ T.c_CopyError :: cls7 T ∧ IsE K d D) (fKinds (cls7 T))) := by
  refine fnG_ok T.F__law_kinds sc_law_kinds (fun ds ⟨_, _, e, _⟩ => by rw [e]; rfl) fun cdv A out s H E clr hr => ⟨_, (pss_cons (ps_set (i := 1) sc_law_kinds.nd rfl (Or.inl rfl) (pe_lst (pa_cons (pe_callB (r := Dx.rIsiP K) Dx.call_isiP (by rfl) T.n_isinstance (by decide +kernel) (pa_cons (pv 0) (pa_cons (pe_glob (v := .ref T.c_InvalidRow) rfl T.g_InvalidRow rfl) pa_nil))) (pa_cons (pe_callB (r := Dx.rIsiP K) Dx.call_isiP (by rfl) T.n_isinstance (by decide +kernel) (pa_cons (pv 0) (pa_cons (pe_glob (v := .ref T.c_InvalidPhases) rfl T.g_InvalidPhases rfl) pa_nil))) (pa_cons (pe_callB (r := Dx.rIsiP K) Dx.call_isiP (by rfl) T.n_isinstance (by decide +kernel) (pa_cons (pv 0) (pa_cons (pe_glob (v := .ref T.c_InvalidTime) rfl T.g_InvalidTime rfl) pa_nil))) pa_nil))))) (pss_cons (ps_set (i := 1) sc_law_kinds.nd rfl (Or.inl rfl) (pe_op op_cat (pv 1) (pe_lst (pa_cons (pe_callB (r := Dx.rIsiP K) Dx.call_isiP (by rfl) T.n_isinstance (by decide +kernel) (pa_cons (pv 0) (pa_cons (pe_glob (v := .ref T.c_InvalidNumber) rfl T.g_InvalidNumber rfl) pa_nil))) (pa_cons (pe_callB (r := Dx.rIsiP K) Dx.call_isiP (by rfl) T.n_isinstance (by decide +kernel) (pa_cons (pv 0) (pa_cons (pe_glob (v := .ref T.c_InvalidStretch) rfl T.g_InvalidStretch rfl) pa_nil))) (pa_cons (pe_callB (r := Dx.rIsiP K) Dx.call_isiP (by rfl) T.n_isinstance (by decide +kernel) (pa_cons (pv 0) (pa_cons (pe_glob (v := .ref T.c_InvalidPattern) rfl T.g_InvalidPattern rfl) pa_nil))) pa_nil)))))) (pss_cons (ps_set (i := 1) sc_law_kinds.nd rfl (Or.inl rfl) (pe_op op_cat (pv 1) (pe_lst (pa_cons (pe_callB (r := Dx.rIsiP K) Dx.call_isiP (by rfl) T.n_isinstance (by decide +kernel) (pa_cons (pv 0) (pa_cons (pe_glob (v := .ref T.c_InvalidStep) rfl T.g_InvalidStep rfl) pa_nil))) (pa_cons (pe_callB (r := Dx.rIsiP K) Dx.call_isiP (by rfl) T.n_isinstance (by decide +kernel) (pa_cons (pv 0) (pa_cons (pe_glob (v := .ref T.c_InvalidIndex) rfl T.g_InvalidIndex rfl) pa_nil))) (pa_cons (pe_callB (r := Dx.rIsiP K) Dx.call_isiP (by rfl) T.n_isinstance (by decide +kernel) (pa_cons (pv 0) (pa_cons (pe_glob (v := .ref T.c_InvalidPeriod) rfl T.g_InvalidPeriod rfl) pa_nil))) pa_nil)))))) (pss_cons (ps_set (i := 1) sc_law_kinds.nd rfl (Or.inl rfl) (pe_op op_cat (pv 1) (pe_lst (pa_cons (pe_callB (r := Dx.rIsiP K) Dx.call_isiP (by rfl) T.n_isinstance (by decide +kernel) (pa_cons (pv 0) (pa_cons (pe_glob (v := .ref T.c_InvalidLine) rfl T.g_InvalidLine rfl) pa_nil))) (pa_cons (pe_callB (r := Dx.rIsiP K) Dx.call_isiP (by rfl) T.n_isinstance (by decide +kernel) (pa_cons (pv 0) (pa_cons (pe_glob (v := .ref T.c_OtherEnds) rfl T.g_OtherEnds rfl) pa_nil))) (pa_cons (pe_callB (r := Dx.rIsiP K) Dx.call_isiP (by rfl) T.n_isinstance (by decide +kernel) (pa_cons (pv 0) (pa_cons (pe_glob (v := .ref T.c_Unheard) rfl T.g_Unheard rfl) pa_nil))) pa_nil)))))) (pss_cons (ps_set (i := 1) sc_law_kinds.nd rfl (Or.inl rfl) (pe_op op_cat (pv 1) (pe_lst (pa_cons (pe_callB (r := Dx.rIsiP K) Dx.call_isiP (by rfl) T.n_isinstance (by decide +kernel) (pa_cons (pv 0) (pa_cons (pe_glob (v := .ref T.c_Full) rfl T.g_Full rfl) pa_nil))) (pa_cons (pe_callB (r := Dx.rIsiP K) Dx.call_isiP (by rfl) T.n_isinstance (by decide +kernel) (pa_cons (pv 0) (pa_cons (pe_glob (v := .ref T.c_NothingToUndo) rfl T.g_NothingToUndo rfl) pa_nil))) (pa_cons (pe_callB (r := Dx.rIsiP K) Dx.call_isiP (by rfl) T.n_isinstance (by decide +kernel) (pa_cons (pv 0) (pa_cons (pe_glob (v := .ref T.c_InvalidCommand) rfl T.g_InvalidCommand rfl) pa_nil))) pa_nil)))))) (pss_one (ps_ret (pe_op op_cat (pv 1) (pe_lst (pa_cons (pe_callB (r := Dx.rIsiP K) Dx.call_isiP (by rfl) T.n_isinstance (by decide +kernel) (pa_cons (pv 0) (pa_cons (pe_glob (v := .ref T.c_InvalidText) rfl T.g_InvalidText rfl) pa_nil))) pa_nil)))))))))), ?_⟩
  intro _G0
  rintro ds ⟨d, D, rfl, hD, hE⟩
  have e : startE N_law_kinds [d] = [.dat d, .no] := rfl
  rw [e]
  obtain ⟨k1, _, _⟩ := subAll_kit (cs := cls7 T) T.sall (all_xc T) hD
  obtain ⟨kd, hkd⟩ : ∃ kd : Addr → PyData, kd = fun c => .bool (decide (clsOf d = ((c : Nat) : Int))) := ⟨_, rfl⟩
  have cb : ∀ {ρ : Dx.Env} {c : Addr}, ρ[0]? = some (some d) → c ∈ cls7 T → EvD K (tCB (rIsiP K) (tCons (tVar 0) (tCons (tC (.ref c)) tNil))) ρ (kd c) := fun {ρ c} h0 hc => by
    rw [hkd]
    show EvD K _ ρ (.bool (decide (clsOf d = ((c : Nat) : Int))))
    rw [clsOf_is hE, ← beq_dec]
    exact cb_isP (e_var h0) hE (.own c) (k1 c hc)
  refine x_ssetL (d := .list [kd T.c_InvalidRow, kd T.c_InvalidPhases, kd T.c_InvalidTime]) (EvF.d (f_lst (l_cons (cb rfl (c := T.c_InvalidRow) (by simp [cls7])) (l_cons (cb rfl (c := T.c_InvalidPhases) (by simp [cls7])) (l_cons (cb rfl (c := T.c_InvalidTime) (by simp [cls7])) l_nil))) (Nat.le_of_ble_eq_true rfl))) ?_
  show ExD K _ [.dat d, .dat (.list [kd T.c_InvalidRow, kd T.c_InvalidPhases, kd T.c_InvalidTime])] _
  refine x_ssetL (d := .list [kd T.c_InvalidRow, kd T.c_InvalidPhases, kd T.c_InvalidTime, kd T.c_InvalidNumber, kd T.c_InvalidStretch, kd T.c_InvalidPattern]) (EvF.d (f_cat (ds := [kd T.c_InvalidRow, kd T.c_InvalidPhases, kd T.c_InvalidTime]) (es := [kd T.c_InvalidNumber, kd T.c_InvalidStretch, kd T.c_InvalidPattern]) (e_var rfl) (EvF.d (f_lst (l_cons (cb rfl (c := T.c_InvalidNumber) (by simp [cls7])) (l_cons (cb rfl (c := T.c_InvalidStretch) (by simp [cls7])) (l_cons (cb rfl (c := T.c_InvalidPattern) (by simp [cls7])) l_nil))) (Nat.le_of_ble_eq_true rfl))) (Nat.le_of_ble_eq_true rfl))) ?_
  show ExD K _ [.dat d, .dat (.list [kd T.c_InvalidRow, kd T.c_InvalidPhases, kd T.c_InvalidTime, kd T.c_InvalidNumber, kd T.c_InvalidStretch, kd T.c_InvalidPattern])] _
  refine x_ssetL (d := .list [kd T.c_InvalidRow, kd T.c_InvalidPhases, kd T.c_InvalidTime, kd T.c_InvalidNumber, kd T.c_InvalidStretch, kd T.c_InvalidPattern, kd T.c_InvalidStep, kd T.c_InvalidIndex, kd T.c_InvalidPeriod]) (EvF.d (f_cat (ds := [kd T.c_InvalidRow, kd T.c_InvalidPhases, kd T.c_InvalidTime, kd T.c_InvalidNumber, kd T.c_InvalidStretch, kd T.c_InvalidPattern]) (es := [kd T.c_InvalidStep, kd T.c_InvalidIndex, kd T.c_InvalidPeriod]) (e_var rfl) (EvF.d (f_lst (l_cons (cb rfl (c := T.c_InvalidStep) (by simp [cls7])) (l_cons (cb rfl (c := T.c_InvalidIndex) (by simp [cls7])) (l_cons (cb rfl (c := T.c_InvalidPeriod) (by simp [cls7])) l_nil))) (Nat.le_of_ble_eq_true rfl))) (Nat.le_of_ble_eq_true rfl))) ?_
  show ExD K _ [.dat d, .dat (.list [kd T.c_InvalidRow, kd T.c_InvalidPhases, kd T.c_InvalidTime, kd T.c_InvalidNumber, kd T.c_InvalidStretch, kd T.c_InvalidPattern, kd T.c_InvalidStep, kd T.c_InvalidIndex, kd T.c_InvalidPeriod])] _
  refine x_ssetL (d := .list [kd T.c_InvalidRow, kd T.c_InvalidPhases, kd T.c_InvalidTime, kd T.c_InvalidNumber, kd T.c_InvalidStretch, kd T.c_InvalidPattern, kd T.c_InvalidStep, kd T.c_InvalidIndex, kd T.c_InvalidPeriod, kd T.c_InvalidLine, kd T.c_OtherEnds, kd T.c_Unheard]) (EvF.d (f_cat (ds := [kd T.c_InvalidRow, kd T.c_InvalidPhases, kd T.c_InvalidTime, kd T.c_InvalidNumber, kd T.c_InvalidStretch, kd T.c_InvalidPattern, kd T.c_InvalidStep, kd T.c_InvalidIndex, kd T.c_InvalidPeriod]) (es := [kd T.c_InvalidLine, kd T.c_OtherEnds, kd T.c_Unheard]) (e_var rfl) (EvF.d (f_lst (l_cons (cb rfl (c := T.c_InvalidLine) (by simp [cls7])) (l_cons (cb rfl (c := T.c_OtherEnds) (by simp [cls7])) (l_cons (cb rfl (c := T.c_Unheard) (by simp [cls7])) l_nil))) (Nat.le_of_ble_eq_true rfl))) (Nat.le_of_ble_eq_true rfl))) ?_
  show ExD K _ [.dat d, .dat (.list [kd T.c_InvalidRow, kd T.c_InvalidPhases, kd T.c_InvalidTime, kd T.c_InvalidNumber, kd T.c_InvalidStretch, kd T.c_InvalidPattern, kd T.c_InvalidStep, kd T.c_InvalidIndex, kd T.c_InvalidPeriod, kd T.c_InvalidLine, kd T.c_OtherEnds, kd T.c_Unheard])] _
  refine x_ssetL (d := .list [kd T.c_InvalidRow, kd T.c_InvalidPhases, kd T.c_InvalidTime, kd T.c_InvalidNumber, kd T.c_InvalidStretch, kd T.c_InvalidPattern, kd T.c_InvalidStep, kd T.c_InvalidIndex, kd T.c_InvalidPeriod, kd T.c_InvalidLine, kd T.c_OtherEnds, kd T.c_Unheard, kd T.c_Full, kd T.c_NothingToUndo, kd T.c_InvalidCommand]) (EvF.d (f_cat (ds := [kd T.c_InvalidRow, kd T.c_InvalidPhases, kd T.c_InvalidTime, kd T.c_InvalidNumber, kd T.c_InvalidStretch, kd T.c_InvalidPattern, kd T.c_InvalidStep, kd T.c_InvalidIndex, kd T.c_InvalidPeriod, kd T.c_InvalidLine, kd T.c_OtherEnds, kd T.c_Unheard]) (es := [kd T.c_Full, kd T.c_NothingToUndo, kd T.c_InvalidCommand]) (e_var rfl) (EvF.d (f_lst (l_cons (cb rfl (c := T.c_Full) (by simp [cls7])) (l_cons (cb rfl (c := T.c_NothingToUndo) (by simp [cls7])) (l_cons (cb rfl (c := T.c_InvalidCommand) (by simp [cls7])) l_nil))) (Nat.le_of_ble_eq_true rfl))) (Nat.le_of_ble_eq_true rfl))) ?_
  show ExD K _ [.dat d, .dat (.list [kd T.c_InvalidRow, kd T.c_InvalidPhases, kd T.c_InvalidTime, kd T.c_InvalidNumber, kd T.c_InvalidStretch, kd T.c_InvalidPattern, kd T.c_InvalidStep, kd T.c_InvalidIndex, kd T.c_InvalidPeriod, kd T.c_InvalidLine, kd T.c_OtherEnds, kd T.c_Unheard, kd T.c_Full, kd T.c_NothingToUndo, kd T.c_InvalidCommand])] _
  refine x_ret (d := .list [kd T.c_InvalidRow, kd T.c_InvalidPhases, kd T.c_InvalidTime, kd T.c_InvalidNumber, kd T.c_InvalidStretch, kd T.c_InvalidPattern, kd T.c_InvalidStep, kd T.c_InvalidIndex, kd T.c_InvalidPeriod, kd T.c_InvalidLine, kd T.c_OtherEnds, kd T.c_Unheard, kd T.c_Full, kd T.c_NothingToUndo, kd T.c_InvalidCommand, kd T.c_InvalidText]) (EvF.d (f_cat (ds := [kd T.c_InvalidRow, kd T.c_InvalidPhases, kd T.c_InvalidTime, kd T.c_InvalidNumber, kd T.c_InvalidStretch, kd T.c_InvalidPattern, kd T.c_InvalidStep, kd T.c_InvalidIndex, kd T.c_InvalidPeriod, kd T.c_InvalidLine, kd T.c_OtherEnds, kd T.c_Unheard, kd T.c_Full, kd T.c_NothingToUndo, kd T.c_InvalidCommand]) (es := [kd T.c_InvalidText]) (e_var rfl) (EvF.d (f_lst (l_cons (cb rfl (c := T.c_InvalidText) (by simp [cls7])) l_nil) (Nat.le_of_ble_eq_true rfl))) (Nat.le_of_ble_eq_true rfl))) ?_
  rw [hkd]
  rfl
set_option maxHeartbeats 0 in
theorem ok_law_made (T : Tx K mg) : Dx.FnG Pg w K mg base CX0 1 T.a__law_made T.d__law_made ["text"] (spD K (fun ds => ∃ s : Str, ds = [.str s]) (fun _ => .list (((cls7 T).take 15).map excD))) := by
  refine fnG_ok T.F__law_made sc_law_made (fun ds ⟨_, e⟩ => by rw [e]; rfl) fun cdv A out s H E clr hr => ⟨_, (pss_cons (ps_set (i := 1) sc_law_made.nd rfl (Or.inl rfl) (pe_lst (pa_cons (Dx.pe_excX T.xq_InvalidRow T.g_InvalidRow (T.xc_InvalidRow).k (by rfl) (pv 0)) (pa_cons (Dx.pe_excX T.xq_InvalidPhases T.g_InvalidPhases (T.xc_InvalidPhases).k (by rfl) (pv 0)) (pa_cons (Dx.pe_excX T.xq_InvalidTime T.g_InvalidTime (T.xc_InvalidTime).k (by rfl) (pv 0)) (pa_cons (Dx.pe_excX T.xq_InvalidNumber T.g_InvalidNumber (T.xc_InvalidNumber).k (by rfl) (pv 0)) (pa_cons (Dx.pe_excX T.xq_InvalidStretch T.g_InvalidStretch (T.xc_InvalidStretch).k (by rfl) (pv 0)) pa_nil))))))) (pss_cons (ps_set (i := 1) sc_law_made.nd rfl (Or.inl rfl) (pe_op op_cat (pv 1) (pe_lst (pa_cons (Dx.pe_excX T.xq_InvalidPattern T.g_InvalidPattern (T.xc_InvalidPattern).k (by rfl) (pv 0)) (pa_cons (Dx.pe_excX T.xq_InvalidStep T.g_InvalidStep (T.xc_InvalidStep).k (by rfl) (pv 0)) (pa_cons (Dx.pe_excX T.xq_InvalidIndex T.g_InvalidIndex (T.xc_InvalidIndex).k (by rfl) (pv 0)) (pa_cons (Dx.pe_excX T.xq_InvalidPeriod T.g_InvalidPeriod (T.xc_InvalidPeriod).k (by rfl) (pv 0)) pa_nil))))))) (pss_cons (ps_set (i := 1) sc_law_made.nd rfl (Or.inl rfl) (pe_op op_cat (pv 1) (pe_lst (pa_cons (Dx.pe_excX T.xq_InvalidLine T.g_InvalidLine (T.xc_InvalidLine).k (by rfl) (pv 0)) (pa_cons (Dx.pe_excX T.xq_OtherEnds T.g_OtherEnds (T.xc_OtherEnds).k (by rfl) (pv 0)) (pa_cons (Dx.pe_excX T.xq_Unheard T.g_Unheard (T.xc_Unheard).k (by rfl) (pv 0)) (pa_cons (Dx.pe_excX T.xq_Full T.g_Full (T.xc_Full).k (by rfl) (pv 0)) (pa_cons (Dx.pe_excX T.xq_NothingToUndo T.g_NothingToUndo (T.xc_NothingToUndo).k (by rfl) (pv 0)) pa_nil)))))))) (pss_one (ps_ret (pe_op op_cat (pv 1) (pe_lst (pa_cons (Dx.pe_excX T.xq_InvalidCommand T.g_InvalidCommand (T.xc_InvalidCommand).k (by rfl) (pv 0)) pa_nil)))))))), ?_⟩
  intro _G0
  rintro ds ⟨x, rfl⟩
  have e : startE N_law_made [.str x] = [.dat (.str x), .no] := rfl
  rw [e]
  refine x_ssetL (d := .list [excD T.c_InvalidRow, excD T.c_InvalidPhases, excD T.c_InvalidTime, excD T.c_InvalidNumber, excD T.c_InvalidStretch]) (EvF.d (f_lst (l_cons (e_exc (C := T.c_InvalidRow) (e_var rfl)) (l_cons (e_exc (C := T.c_InvalidPhases) (e_var rfl)) (l_cons (e_exc (C := T.c_InvalidTime) (e_var rfl)) (l_cons (e_exc (C := T.c_InvalidNumber) (e_var rfl)) (l_cons (e_exc (C := T.c_InvalidStretch) (e_var rfl)) l_nil))))) (Nat.le_of_ble_eq_true rfl))) ?_
  show ExD K _ [.dat (.str x), .dat (.list [excD T.c_InvalidRow, excD T.c_InvalidPhases, excD T.c_InvalidTime, excD T.c_InvalidNumber, excD T.c_InvalidStretch])] _
  refine x_ssetL (d := .list [excD T.c_InvalidRow, excD T.c_InvalidPhases, excD T.c_InvalidTime, excD T.c_InvalidNumber, excD T.c_InvalidStretch, excD T.c_InvalidPattern, excD T.c_InvalidStep, excD T.c_InvalidIndex, excD T.c_InvalidPeriod]) (EvF.d (f_cat (ds := [excD T.c_InvalidRow, excD T.c_InvalidPhases, excD T.c_InvalidTime, excD T.c_InvalidNumber, excD T.c_InvalidStretch]) (es := [excD T.c_InvalidPattern, excD T.c_InvalidStep, excD T.c_InvalidIndex, excD T.c_InvalidPeriod]) (e_var rfl) (EvF.d (f_lst (l_cons (e_exc (C := T.c_InvalidPattern) (e_var rfl)) (l_cons (e_exc (C := T.c_InvalidStep) (e_var rfl)) (l_cons (e_exc (C := T.c_InvalidIndex) (e_var rfl)) (l_cons (e_exc (C := T.c_InvalidPeriod) (e_var rfl)) l_nil)))) (Nat.le_of_ble_eq_true rfl))) (Nat.le_of_ble_eq_true rfl))) ?_
  show ExD K _ [.dat (.str x), .dat (.list [excD T.c_InvalidRow, excD T.c_InvalidPhases, excD T.c_InvalidTime, excD T.c_InvalidNumber, excD T.c_InvalidStretch, excD T.c_InvalidPattern, excD T.c_InvalidStep, excD T.c_InvalidIndex, excD T.c_InvalidPeriod])] _
  refine x_ssetL (d := .list [excD T.c_InvalidRow, excD T.c_InvalidPhases, excD T.c_InvalidTime, excD T.c_InvalidNumber, excD T.c_InvalidStretch, excD T.c_InvalidPattern, excD T.c_InvalidStep, excD T.c_InvalidIndex, excD T.c_InvalidPeriod, excD T.c_InvalidLine, excD T.c_OtherEnds, excD T.c_Unheard, excD T.c_Full, excD T.c_NothingToUndo]) (EvF.d (f_cat (ds := [excD T.c_InvalidRow, excD T.c_InvalidPhases, excD T.c_InvalidTime, excD T.c_InvalidNumber, excD T.c_InvalidStretch, excD T.c_InvalidPattern, excD T.c_InvalidStep, excD T.c_InvalidIndex, excD T.c_InvalidPeriod]) (es := [excD T.c_InvalidLine, excD T.c_OtherEnds, excD T.c_Unheard, excD T.c_Full, excD T.c_NothingToUndo]) (e_var rfl) (EvF.d (f_lst (l_cons (e_exc (C := T.c_InvalidLine) (e_var rfl)) (l_cons (e_exc (C := T.c_OtherEnds) (e_var rfl)) (l_cons (e_exc (C := T.c_Unheard) (e_var rfl)) (l_cons (e_exc (C := T.c_Full) (e_var rfl)) (l_cons (e_exc (C := T.c_NothingToUndo) (e_var rfl)) l_nil))))) (Nat.le_of_ble_eq_true rfl))) (Nat.le_of_ble_eq_true rfl))) ?_
  show ExD K _ [.dat (.str x), .dat (.list [excD T.c_InvalidRow, excD T.c_InvalidPhases, excD T.c_InvalidTime, excD T.c_InvalidNumber, excD T.c_InvalidStretch, excD T.c_InvalidPattern, excD T.c_InvalidStep, excD T.c_InvalidIndex, excD T.c_InvalidPeriod, excD T.c_InvalidLine, excD T.c_OtherEnds, excD T.c_Unheard, excD T.c_Full, excD T.c_NothingToUndo])] _
  exact x_ret (d := .list [excD T.c_InvalidRow, excD T.c_InvalidPhases, excD T.c_InvalidTime, excD T.c_InvalidNumber, excD T.c_InvalidStretch, excD T.c_InvalidPattern, excD T.c_InvalidStep, excD T.c_InvalidIndex, excD T.c_InvalidPeriod, excD T.c_InvalidLine, excD T.c_OtherEnds, excD T.c_Unheard, excD T.c_Full, excD T.c_NothingToUndo, excD T.c_InvalidCommand]) (EvF.d (f_cat (ds := [excD T.c_InvalidRow, excD T.c_InvalidPhases, excD T.c_InvalidTime, excD T.c_InvalidNumber, excD T.c_InvalidStretch, excD T.c_InvalidPattern, excD T.c_InvalidStep, excD T.c_InvalidIndex, excD T.c_InvalidPeriod, excD T.c_InvalidLine, excD T.c_OtherEnds, excD T.c_Unheard, excD T.c_Full, excD T.c_NothingToUndo]) (es := [excD T.c_InvalidCommand]) (e_var rfl) (EvF.d (f_lst (l_cons (e_exc (C := T.c_InvalidCommand) (e_var rfl)) l_nil) (Nat.le_of_ble_eq_true rfl))) (Nat.le_of_ble_eq_true rfl))) rfl
/-! ### lists of truth values, equal -/
def bL (l : List Bool) : PyData := .list (l.map .bool)
theorem bL_lay (l : List Bool) : PyData.canLayAll0 (l.map PyData.bool) = true ∧ PyData.depthAll (l.map PyData.bool) = 0 ∧ noXs (l.map PyData.bool) = true := by
  induction l with
  | nil => simp [PyData.canLayAll0, PyData.depthAll, noXs]
  | cons n l ih =>
    obtain ⟨h1, h2, h3⟩ := ih
    rw [List.map_cons]
    simp [PyData.canLayAll0, PyData.canLay0, PyData.depthAll, PyData.depth, noXs, noX, h1, h2, h3]
theorem bL_shaped (l : List Bool) : SeqAt.shaped (bL l) = true := by
  unfold SeqAt.shaped
  rw [Bool.and_eq_true]
  refine ⟨?_, decide_eq_true ?_⟩
  · simp only [bL, PyData.canLay0]
    exact (bL_lay l).1
  · show PyData.depthAll (l.map PyData.bool) + 1 ≤ 64
    rw [(bL_lay l).2.1]
    omega
theorem bL_eqv (l : List Bool) : PyData.eqv (bL l) (bL l) = true := by
  refine SeqAt.eqv_refl _ ?_
  simp only [bL, PyData.canLay0]
  exact (bL_lay l).1
theorem bL_noX (l : List Bool) : noX (bL l) = true := by
  simp only [bL, noX]
  exact (bL_lay l).2.2
def i7 : PyData → Int
  | .int i => i
  | _ => 0
def atB (k : Int) : List Bool := (List.range 16).map fun (at_ : Nat) => decide (k = (at_ : Int))
theorem kinds_eq (T : Tx K mg) {k : Nat} {D : Addr} {d : PyData} (hk : (cls7 T)[k]? = some D) (hE : IsE K d D) : fKinds (cls7 T) [d] = bL (atB (k : Int)) := by
  have nd : (cls7 T).Nodup := (List.nodup_cons.mp (subAll_nd T.sall)).2
  have l16 : (cls7 T).length = 16 := rfl
  obtain ⟨hlt, hD⟩ := List.getElem?_eq_some_iff.mp hk
  show PyData.list ((cls7 T).map fun c => .bool (decide (clsOf d = ((c : Nat) : Int)))) = .list (((List.range 16).map fun (at_ : Nat) => decide ((k : Int) = (at_ : Int))).map .bool)
  rw [List.map_map]
  refine congrArg PyData.list ?_
  refine List.ext_getElem (by rw [List.length_map, List.length_map, List.length_range, l16]) fun i h1 h2 => ?_
  have hi : i < (cls7 T).length := by
    rw [List.length_map] at h1
    exact h1
  rw [List.getElem_map, List.getElem_map, List.getElem_range]
  show PyData.bool _ = PyData.bool _
  congr 1
  rw [clsOf_is hE, ← hD]
  by_cases q : k = i
  · subst q
    simp
  · have hn : ¬ ((((cls7 T)[k] : Addr) : Nat) : Int) = (((cls7 T)[i] : Addr) : Int) := fun e => q ((List.getElem_inj nd).mp (Int.ofNat.inj e))
    have hm : ¬ ((k : Nat) : Int) = ((i : Nat) : Int) := fun e => q (Int.ofNat.inj e)
    rw [decide_eq_false hn]
    exact (decide_eq_false hm).symm
theorem kinds_none (T : Tx K mg) {d : PyData} (hE : IsE K d T.c_CopyError) : fKinds (cls7 T) [d] = bL (List.replicate 16 false) := by
  have nd := (List.nodup_cons.mp (subAll_nd T.sall)).1
  have l16 : (cls7 T).length = 16 := rfl
  show PyData.list ((cls7 T).map fun c => .bool (decide (clsOf d = ((c : Nat) : Int)))) = .list ((List.replicate 16 false).map .bool)
  refine congrArg PyData.list ?_
  refine List.ext_getElem (by rw [List.length_map, List.length_map, List.length_replicate, l16]) fun i h1 h2 => ?_
  have hi : i < (cls7 T).length := by
    rw [List.length_map] at h1
    exact h1
  rw [List.getElem_map, List.getElem_map, List.getElem_replicate]
  congr 1
  rw [clsOf_is hE]
  exact decide_eq_false fun e => nd (by
    have e' : T.c_CopyError = (cls7 T)[i] := Int.ofNat.inj e
    rw [e']
    exact List.getElem_mem hi)
theorem f_atB [Dx.Sprs] {ρ : Dx.Env} [Dx.Sprs] {te : TE} {k : Int} (he : ∀ i : Nat, i < 16 → EvD K te (ρ.set 9 (some (.int (i : Int)))) (.bool (decide (k = (i : Int))))) : EvF K (tLc (iRng1 (tCons (tC (.int 16)) tNil)) (gName 9) tYes te [9]) ρ ((atB k).map .bool) := by
  refine (f_map (f := fun d => .bool (decide (k = i7 d))) (i_rng1 (l_cons e_int l_nil) (by decide) (by decide)) ?_ ?_).cast ?_
  · rw [rng_len]
    exact Nat.le_of_ble_eq_true rfl
  · intro d hd
    obtain ⟨i, hi⟩ := List.mem_iff_getElem?.mp hd
    obtain ⟨h1, rfl⟩ := rng_at hi
    have e : (0 : Int) + (i : Int) = (i : Int) := by omega
    rw [e]
    exact he i h1
  · unfold rng atB
    rw [List.map_map, List.map_map]
    refine List.map_congr_left fun i _ => ?_
    show PyData.bool (decide (k = i7 (.int (0 + (i : Int))))) = .bool (decide (k = (i : Int)))
    rw [show i7 (.int (0 + (i : Int))) = (0 : Int) + (i : Int) from rfl, Int.zero_add]
structure Spot (d : PyData) : Prop where
  x : noX d = true
  ok : okD d = true
  bk : d.bulk ≤ 100
  dp : d.depth ≤ 3
theorem Spot.two {d : PyData} (h : Spot d) : okD (.list [d, d]) = true ∧ (PyData.list [d, d]).bulk ≤ 8000 ∧ (PyData.list [d, d]).depth ≤ 60 := by
  have h1 := h.bk
  have h2 := h.dp
  refine ⟨?_, ?_, ?_⟩
  · simp [okD, okDs, h.ok]
  · simp only [PyData.bulk, PyData.bulkAll]
    omega
  · simp only [PyData.depth, PyData.depthAll]
    omega
def spots (z : Int) : List PyData := [.int 0, .int z, .int (10 ^ 30), .int (-1), .str "7", .none, .tuple [.int 1, .int 2], .bool true, .list [.int 1, .int 2]]
theorem spot_of {z : Int} (h0 : 0 ≤ z) (h1 : z < 4000) : ∀ d ∈ spots z, Spot d := by
  have hz : okD (.int z) = true := okD_int (by unfold Sm; omega)
  intro d hd
  simp only [spots, List.mem_cons, List.not_mem_nil, or_false] at hd
  rcases hd with h | h | h | h | h | h | h | h | h <;> subst h
  · exact ⟨rfl, by decide +kernel, by decide +kernel, by decide +kernel⟩
  · exact ⟨rfl, hz, by simp only [PyData.bulk]; omega, by simp only [PyData.depth]; omega⟩
  · exact ⟨rfl, by decide +kernel, by decide +kernel, by decide +kernel⟩
  · exact ⟨rfl, by decide +kernel, by decide +kernel, by decide +kernel⟩
  · exact ⟨rfl, by decide +kernel, by decide +kernel, by decide +kernel⟩
  · exact ⟨rfl, by decide +kernel, by decide +kernel, by decide +kernel⟩
  · exact ⟨rfl, by decide +kernel, by decide +kernel, by decide +kernel⟩
  · exact ⟨rfl, by decide +kernel, by decide +kernel, by decide +kernel⟩
  · exact ⟨rfl, by decide +kernel, by decide +kernel, by decide +kernel⟩
set_option maxHeartbeats 0 in
theorem ok_law0 (T : Tx K mg) : Dx.FnG Pg w K mg base CX0 3 T.a_law T.d_law ["script"] (spD K (fun ds => ∃ ns : List Int, ds = [scrD ns] ∧ ns.length ≤ 63) (fun _ => .bool true)) := by
  refine fnG_ok T.F_law sc_law (fun ds ⟨_, e, _⟩ => by rw [e]; rfl) fun cdv A out s H E clr hr => ⟨_, (pss_cons (ps_set (i := 1) sc_law.nd rfl (Or.inl rfl) (Dx.pe_callG (ok_law_cell T) clr (hr.mono (by decide)) (by rfl) T.g__law_cell T.F__law_cell.kp T.b__law_cell pass0 (pa_cons (pv 0) (pa_cons pe_int pa_nil)))) (pss_cons (ps_set (i := 2) sc_law.nd rfl (Or.inl rfl) (Dx.pe_callG (ok_law_made T) clr (hr.mono (by decide)) (by rfl) T.g__law_made T.F__law_made.kp T.b__law_made pass0 (pa_cons (pe_ix (r := rIxL K) ix_list (pe_lst (pa_cons pe_str (pa_cons pe_str (pa_cons pe_str pa_nil)))) (Dx.pe_callG (ok_law_draw T) clr (hr.mono (by decide)) (by rfl) T.g__law_draw T.F__law_draw.kp T.b__law_draw pass0 (pa_cons (pv 1) (pa_cons pe_int (pa_cons pe_int pa_nil)))) (fun _ _ => rfl)) pa_nil))) (pss_cons (ps_for PassesOwn.never rfl (pi_range1 (by rfl) T.n_range (pa_cons pe_int pa_nil)) (pg_name (i := 3) sc_law.nd rfl (Or.inr rfl)) (pss_cons (ps_if (PW.pt (pw_or (pt_not (pt_val (pe_callB (r := Dx.rIsiP K) Dx.call_isiP (by rfl) T.n_isinstance (by decide +kernel) (pa_cons (pe_ix (r := rIxL K) ix_list (pv 2) (pv 3) (fun _ _ => rfl)) (pa_cons (pe_glob (v := .ref T.c_CopyError) rfl T.g_CopyError rfl) pa_nil))))) (pw_or1 (pt_not (pt_val (pe_callB (r := Dx.rIsiP K) Dx.call_isiP (by rfl) T.n_isinstance (by decide +kernel) (pa_cons (pe_ix (r := rIxL K) ix_list (pv 2) (pv 3) (fun _ _ => rfl)) (pa_cons (pe_bltn (v := .ty "ValueError") (u := .type "ValueError") (by rfl) T.n_ValueError (by decide +kernel) rfl) pa_nil)))))))) (pss_one (ps_ret pe_bl)) pss_nil) (pss_one (ps_if (pt_cmpR (r := rNeD K) (op_neD hr.units) (Dx.pe_callG (ok_law_kinds T) clr (hr.mono (by decide)) (by rfl) T.g__law_kinds T.F__law_kinds.kp T.b__law_kinds pass0 (pa_cons (pe_ix (r := rIxL K) ix_list (pv 2) (pv 3) (fun _ _ => rfl)) pa_nil)) (pe_lc (own := [("at", 9)]) (g := gName 9) (tt := tYes) rfl sc_law.nd (pi_range1 (by rfl) T.n_range (pa_cons pe_int pa_nil)) (blkOk_by (own := [("at", 9)]) (N := N_law) (sc := defScope s_law) (by decide +kernel)) (fun _ _ _ _ _ => (pg_name (i := 9) sc_law.nd rfl (Or.inl rfl))) (fun _ _ _ _ _ => pts_nil) (fun _ _ _ _ _ => (pe_cmpR op_eq (pv 3) (pv 9) (nomark _)))) (nomark _)) (pss_one (ps_ret pe_bl)) pss_nil)))) (pss_cons (ps_set (i := 4) sc_law.nd rfl (Or.inl rfl) (pe_lst (pa_cons pe_int (pa_cons pe_int pa_nil)))) (pss_cons (ps_for PassesOwn.never rfl (pi_tup (pe_tup (pa_cons pe_int (pa_cons (Dx.pe_callG (ok_law_draw T) clr (hr.mono (by decide)) (by rfl) T.g__law_draw T.F__law_draw.kp T.b__law_draw pass0 (pa_cons (pv 1) (pa_cons pe_int (pa_cons pe_int pa_nil)))) (pa_cons (pe_op op_pow pe_int pe_int) (pa_cons (pe_un un_neg pe_int) (pa_cons pe_str (pa_cons pe_non (pa_cons (pe_tup (pa_cons pe_int (pa_cons pe_int pa_nil))) (pa_cons pe_bl (pa_cons (pv 4) pa_nil))))))))))) (pg_name (i := 5) sc_law.nd rfl (Or.inl rfl)) (pss_cons (ps_par (i := 6) (j := 7) (by rfl) sc_law.nd rfl rfl (by decide) rfl rfl (pa_cons (Dx.pe_mkI T.oe_InvalidText T.ii_InvalidText T.it_InvalidText T.in_InvalidText (ok_ini_InvalidText T) clr (hr.mono (by decide)) pass0 T.ib_InvalidText (by rfl) T.g_InvalidText (pa_cons (pv 5) pa_nil)) (pa_cons (Dx.pe_mkIK T.oe_InvalidText T.ii_InvalidText T.it_InvalidText T.in_InvalidText (ok_ini_InvalidText T) clr (hr.mono (by decide)) pass0 T.ik_InvalidText (by rfl) T.g_InvalidText (pk_cons (pv 5) pk_nil)) pa_nil)) (by rfl)) (pss_cons (ps_if (PW.pt (pw_or (pt_cmpR (r := rNeD K) (op_neD hr.units) (Dx.pe_callG (ok_law_kinds T) clr (hr.mono (by decide)) (by rfl) T.g__law_kinds T.F__law_kinds.kp T.b__law_kinds pass0 (pa_cons (pv 6) pa_nil)) (pe_lc (own := [("at", 9)]) (g := gName 9) (tt := tYes) rfl sc_law.nd (pi_range1 (by rfl) T.n_range (pa_cons pe_int pa_nil)) (blkOk_by (own := [("at", 9)]) (N := N_law) (sc := defScope s_law) (by decide +kernel)) (fun _ _ _ _ _ => (pg_name (i := 9) sc_law.nd rfl (Or.inl rfl))) (fun _ _ _ _ _ => pts_nil) (fun _ _ _ _ _ => (pe_cmpR op_eq (pv 9) pe_int (nomark _)))) (nomark _)) (pw_or1 (pt_not (pt_val (pe_callB (r := Dx.rIsiP K) Dx.call_isiP (by rfl) T.n_isinstance (by decide +kernel) (pa_cons (pv 6) (pa_cons (pe_glob (v := .ref T.c_CopyError) rfl T.g_CopyError rfl) pa_nil)))))))) (pss_one (ps_ret pe_bl)) pss_nil) (pss_one (ps_if (PW.pt (pw_or (pt_cmpR op_ne (pe_callB (r := Dx.rRepr K) (Dx.cr_repr clr hr) (by rfl) T.n_repr (by decide +kernel) (pa_cons (pe_lst (pa_cons (Dx.pe_fld (pv 6)) (pa_cons (Dx.pe_fld (pv 7)) pa_nil))) pa_nil)) (pe_callB (r := Dx.rRepr K) (Dx.cr_repr clr hr) (by rfl) T.n_repr (by decide +kernel) (pa_cons (pe_lst (pa_cons (pv 5) (pa_cons (pv 5) pa_nil))) pa_nil)) (nomark _)) (pw_or1 (pt_not (pt_val (pe_callB (r := Dx.rIsiP K) Dx.call_isiP (by rfl) T.n_isinstance (by decide +kernel) (pa_cons (pv 7) (pa_cons (pe_bltn (v := .ty "ValueError") (u := .type "ValueError") (by rfl) T.n_ValueError (by decide +kernel) rfl) pa_nil)))))))) (pss_one (ps_ret pe_bl)) pss_nil))))) (pss_cons (ps_set (i := 8) sc_law.nd rfl (Or.inl rfl) (Dx.pe_excX T.xq_CopyError T.g_CopyError (T.xc_CopyError).k (by rfl) pe_str)) (pss_one (ps_ret (pe_and (pe_callB (r := Dx.rIsiP K) Dx.call_isiP (by rfl) T.n_isinstance (by decide +kernel) (pa_cons (pv 8) (pa_cons (pe_bltn (v := .ty "ValueError") (u := .type "ValueError") (by rfl) T.n_ValueError (by decide +kernel) rfl) pa_nil))) (pe_one (pe_cmpR (r := rEqD K) (op_eqD hr.units) (Dx.pe_callG (ok_law_kinds T) clr (hr.mono (by decide)) (by rfl) T.g__law_kinds T.F__law_kinds.kp T.b__law_kinds pass0 (pa_cons (pv 8) pa_nil)) (pe_op op_rep (pe_lst (pa_cons pe_bl pa_nil)) pe_int) (nomark _)))))))))))), ?_⟩
  intro _G0
  rintro ds ⟨ns, rfl, hl⟩
  have e : startE N_law [scrD ns] = [.dat (scrD ns), .no, .no, .no, .no, .no, .no, .no, .no, .no] := rfl
  rw [e]
  obtain ⟨c, hc⟩ : ∃ c, c = cellOf ns 0 := ⟨_, rfl⟩
  refine x_sset (d := .int c) ((e_call (ds := [scrD ns, .int 0]) (l_cons (e_var rfl) (l_cons e_int l_nil)) ⟨_, _, rfl, by decide⟩).cast ?_) rfl ?_
  · show PyData.int (cellOf ((ns.map PyData.int).map fun d => match d with | .int i => i | _ => 0) 0) = _
    rw [unint, hc]
  show ExD K _ [.dat (scrD ns), .dat (.int c), .no, .no, .no, .no, .no, .no, .no, .no] _
  obtain ⟨tx, htx⟩ : ∃ tx : Str, atI [PyData.str "", .str "a", .str "no such thing"] (draw c 0 3) = some (.str tx) := by
    have h0 := draw_lo (cell := c) (k := 0) (limit := 3) (by decide)
    have h1 := draw_hi (cell := c) (k := 0) (limit := 3) (by decide)
    generalize draw c 0 3 = z at h0 h1
    rcases (by omega : z = 0 ∨ z = 1 ∨ z = 2) with rfl | rfl | rfl
    · exact ⟨_, rfl⟩
    · exact ⟨_, rfl⟩
    · exact ⟨_, rfl⟩
  obtain ⟨ms, hms⟩ : ∃ ms : List PyData, ms = ((cls7 T).take 15).map excD := ⟨_, rfl⟩
  refine x_ssetL (d := .list ms) ((e_call (ds := [.str tx]) (l_cons (e_ixL (EvF.d (f_lst (l_cons e_str (l_cons e_str (l_cons e_str l_nil))) (Nat.le_of_ble_eq_true rfl))) (e_call (ds := [.int c, .int 0, .int 3]) (l_cons (e_var rfl) (l_cons e_int (l_cons e_int l_nil))) ⟨_, _, _, rfl, by decide, by decide, by decide⟩) htx) l_nil) ⟨_, rfl⟩).cast (by rw [hms])) ?_
  show ExD K _ [.dat (scrD ns), .dat (.int c), .dat (.list ms), .no, .no, .no, .no, .no, .no, .no] _
  have kit : ∀ {d : PyData} {D : Addr}, D ∈ T.c_CopyError :: cls7 T → IsE K d D → PySem.W.kitOne K (.ref D) (.ref T.c_CopyError) = some true ∧ PySem.W.kitOne K (.ref D) (.type "ValueError") = some true := fun hD _ => (subAll_kit (cs := cls7 T) T.sall (all_xc T) hD).2
  refine x_sfor (ds := rng 0 15) (fun i ρ' => ∃ a3, ρ' = [.dat (scrD ns), .dat (.int c), .dat (.list ms), a3, .no, .no, .no, .no, .no, .no]) (i_rng1 (l_cons e_int l_nil) (by decide) (by decide)) ⟨_, rfl⟩ ?_ ?_
  · rintro i dd ρ' hdd ⟨a3, rfl⟩
    obtain ⟨hi, rfl⟩ := rng_at hdd
    refine ⟨_, g_name, ?_⟩
    have e0 : (0 : Int) + (i : Int) = (i : Int) := by omega
    rw [e0]
    show ExD K _ [.dat (scrD ns), .dat (.int c), .dat (.list ms), .dat (.int (i : Int)), .no, .no, .no, .no, .no, .no] _
    obtain ⟨D, hD⟩ : ∃ D, (cls7 T)[i]? = some D := by
      have l16 : (cls7 T).length = 16 := rfl
      exact ⟨_, List.getElem?_eq_getElem (by omega)⟩
    have hm : D ∈ T.c_CopyError :: cls7 T := List.mem_cons_of_mem _ (List.mem_of_getElem? hD)
    have hE : IsE K (excD D) D := ⟨(all_xc T _ hm).ex, .inl rfl⟩
    have hat : atI ms (i : Int) = some (excD D) := by
      refine atI_at ?_
      rw [hms, List.getElem?_map, List.getElem?_take, if_pos hi, hD]
      rfl
    obtain ⟨q1, q2⟩ := kit hm hE
    refine x_sif (b := false) ((b_or (a := false) (b := false) ((b_not (e_test (cb_isP (e_ixL (e_var rfl) (e_var rfl) hat) hE (.own _) q1))).cast rfl) (fun _ => (b_not (e_test (cb_isP (e_ixL (e_var rfl) (e_var rfl) hat) hE (.ty _) q2))).cast rfl)).cast rfl) (fun h => nomatch h) (fun _ => ?_)
    refine x_if (b := false) ((e_test (e_neD (d := bL (atB (i : Int))) (e := bL (atB (i : Int))) ((e_call (ds := [excD D]) (l_cons (e_ixL (e_var rfl) (e_var rfl) hat) l_nil) ⟨_, _, rfl, hm, hE⟩).cast (kinds_eq T hD hE)) (EvF.d (f_atB fun j hj => e_eqI (e_var rfl) (e_var rfl))) (bL_shaped _) (bL_shaped _) (bL_noX _) (bL_noX _))).cast (by rw [bL_eqv]; rfl)) (fun h => nomatch h) (fun _ => ?_)
    exact x_nil ⟨_, rfl⟩
  rintro ρ' ⟨a3, rfl⟩
  refine x_ssetL (d := .list [.int 1, .int 2]) (EvF.d (f_lst (l_cons e_int (l_cons e_int l_nil)) (Nat.le_of_ble_eq_true rfl))) ?_
  show ExD K _ [.dat (scrD ns), .dat (.int c), .dat (.list ms), a3, .dat (.list [.int 1, .int 2]), .no, .no, .no, .no, .no] _
  obtain ⟨z, hz⟩ : ∃ z, z = draw c 1 4000 := ⟨_, rfl⟩
  have z0 : 0 ≤ z := hz ▸ draw_lo (by decide)
  have z1 : z < 4000 := hz ▸ draw_hi (by decide)
  have hT : T.c_InvalidText ∈ T.c_CopyError :: cls7 T := by simp [cls7]
  have hT15 : (cls7 T)[15]? = some T.c_InvalidText := rfl
  refine x_sfor (ds := spots z) (fun i ρ' => ∃ a5 a6 a7, ρ' = [.dat (scrD ns), .dat (.int c), .dat (.list ms), a3, .dat (.list [.int 1, .int 2]), a5, a6, a7, .no, .no]) (i_tup (e_tup (l_cons e_int (l_cons ((e_call (ds := [.int c, .int 1, .int 4000]) (l_cons (e_var rfl) (l_cons e_int (l_cons e_int l_nil))) ⟨_, _, _, rfl, by decide, by decide, by decide⟩).cast (by rw [hz]; rfl)) (l_cons (e_iop e_int e_int ⟨by decide, by decide, by decide⟩) (l_cons (e_neg e_int) (l_cons e_str (l_cons e_non (l_cons (e_tup (l_cons e_int (l_cons e_int l_nil)) (Nat.le_of_ble_eq_true rfl)) (l_cons e_bl (l_cons (e_var rfl) l_nil))))))))) (Nat.le_of_ble_eq_true rfl))) ⟨_, _, _, rfl⟩ ?_ ?_
  · rintro i dd ρ' hdd ⟨a5, a6, a7, rfl⟩
    have sp := spot_of z0 z1 dd (List.mem_of_getElem? hdd)
    refine ⟨_, g_name, ?_⟩
    show ExD K _ [.dat (scrD ns), .dat (.int c), .dat (.list ms), a3, .dat (.list [.int 1, .int 2]), .dat dd, a6, a7, .no, .no] _
    have hE : IsE K (Dx.excP T.c_InvalidText "place" dd) T.c_InvalidText := ⟨T.xc_InvalidText.ex, .inr ⟨_, _, rfl⟩⟩
    obtain ⟨q1, q2⟩ := kit hT hE
    refine x_spar (d := Dx.excP T.c_InvalidText "place" dd) (e := Dx.excP T.c_InvalidText "place" dd) (l_cons (e_mkI (l_cons (e_var rfl) l_nil) sp.x) (l_cons (e_mkI (l_cons (e_var rfl) l_nil) sp.x) l_nil)) ?_
    show ExD K _ [.dat (scrD ns), .dat (.int c), .dat (.list ms), a3, .dat (.list [.int 1, .int 2]), .dat dd, .dat (Dx.excP T.c_InvalidText "place" dd), .dat (Dx.excP T.c_InvalidText "place" dd), .no, .no] _
    have comm : ∀ j : Nat, decide ((j : Int) = 15) = decide ((15 : Int) = (j : Int)) := fun j => by
      by_cases h : (j : Int) = 15
      · rw [h]
      · rw [decide_eq_false h, decide_eq_false (fun e => h e.symm)]
    refine x_sif (b := false) ((b_or (a := false) (b := false) ((e_test (e_neD (d := bL (atB 15)) (e := bL (atB 15)) ((e_call (ds := [Dx.excP T.c_InvalidText "place" dd]) (l_cons (e_var rfl) l_nil) ⟨_, _, rfl, hT, hE⟩).cast (kinds_eq T hT15 hE)) (EvF.d (f_atB (k := 15) fun j hj => (e_eqI (e_var rfl) e_int).cast (congrArg PyData.bool (comm j)))) (bL_shaped _) (bL_shaped _) (bL_noX _) (bL_noX _))).cast (by rw [bL_eqv]; rfl)) (fun _ => (b_not (e_test (cb_isP (e_var rfl) hE (.own _) q1))).cast rfl)).cast rfl) (fun h => nomatch h) (fun _ => ?_)
    obtain ⟨o1, o2, o3⟩ := sp.two
    have fld : ∀ {ρ : Dx.Env} {j : Nat}, ρ[j]? = some (some (Dx.excP T.c_InvalidText "place" dd)) → EvD K (tFld K "place" (tVar j)) ρ dd := fun h => e_fld (e_var h) T.xc_InvalidText.xf T.in_InvalidText
    refine x_if (b := false) ((b_or (a := false) (b := false) ((e_test (e_neS (d := .str _) (e := .str _) (cb_rep (l_cons (EvF.d (f_lst (l_cons (fld rfl) (l_cons (fld rfl) l_nil)) (Nat.le_of_ble_eq_true rfl))) l_nil) rfl o1 o2 o3) (cb_rep (l_cons (EvF.d (f_lst (l_cons (e_var rfl) (l_cons (e_var rfl) l_nil)) (Nat.le_of_ble_eq_true rfl))) l_nil) rfl o1 o2 o3) rfl rfl rfl)).cast (by rw [decide_eq_true rfl]; rfl)) (fun _ => (b_not (e_test (cb_isP (e_var rfl) hE (.ty _) q2))).cast rfl)).cast rfl) (fun h => nomatch h) (fun _ => ?_)
    exact x_nil ⟨_, _, _, rfl⟩
  rintro ρ' ⟨a5, a6, a7, rfl⟩
  have hP : T.c_CopyError ∈ T.c_CopyError :: cls7 T := List.mem_cons_self ..
  have hE : IsE K (excD T.c_CopyError) T.c_CopyError := ⟨T.xc_CopyError.ex, .inl rfl⟩
  obtain ⟨q1, q2⟩ := kit hP hE
  refine x_ssetL (d := excD T.c_CopyError) (e_exc e_str) ?_
  show ExD K _ [.dat (scrD ns), .dat (.int c), .dat (.list ms), a3, .dat (.list [.int 1, .int 2]), a5, a6, a7, .dat (excD T.c_CopyError), .no] _
  refine x_ret (d := .bool true) ((e_and (cb_isP (e_var rfl) hE (.ty _) q2) (fun _ => e_eqD (d := bL (List.replicate 16 false)) (e := bL (List.replicate 16 false)) ((e_call (ds := [excD T.c_CopyError]) (l_cons (e_var rfl) l_nil) ⟨_, _, rfl, hP, hE⟩).cast (kinds_none T hE)) (EvF.d (f_rep (ds := [.bool false]) (k := 16) (EvF.d (f_lst (l_cons e_bl l_nil) (Nat.le_of_ble_eq_true rfl))) e_int (by decide) (Nat.le_of_ble_eq_true rfl))) (bL_shaped _) (bL_shaped _) (bL_noX _) (bL_noX _))).cast ?_) rfl
  rw [bL_eqv]
  rfl
theorem ok_law (T : Tx K mg) : Dx.FnG Pg w K mg base CX0 3 T.a_law T.d_law ["script"] (Dx.spLaw K) := lawG_ok (ok_law0 T) fun _ _ => rfl
end
set_option maxHeartbeats 0 in
theorem all_mk {l : PySem.W.OpenLaw} {w : World} {K : PySem.W.Frag} {h : Heap} {mg : Str → Option Value} {fa : Addr} (X : K.In h) (G : h.Ns mainGlobals mg) (hfa : mg "law" = some (.ref fa))
    {f0 : Addr} {od0 an0 : Option Addr} {sl0 : Array (Option Value)} {oc0 kV0 dc0 pm0 cd0 ct0 : Value}
    {f1 : Addr} {od1 an1 : Option Addr} {sl1 : Array (Option Value)} {oc1 kV1 dc1 pm1 cd1 ct1 : Value}
    {f2 : Addr} {od2 an2 : Option Addr} {sl2 : Array (Option Value)} {oc2 kV2 dc2 pm2 cd2 ct2 : Value}
    {f3 : Addr} {od3 an3 : Option Addr} {sl3 : Array (Option Value)} {oc3 kV3 dc3 pm3 cd3 ct3 : Value}
    {f4 : Addr} {od4 an4 : Option Addr} {sl4 : Array (Option Value)} {oc4 kV4 dc4 pm4 cd4 ct4 : Value}
    {C_CopyError : Addr}
    {C_Full : Addr}
    {C_InvalidCommand : Addr}
    {C_InvalidIndex : Addr}
    {C_InvalidLine : Addr}
    {C_InvalidNumber : Addr}
    {C_InvalidPattern : Addr}
    {C_InvalidPeriod : Addr}
    {C_InvalidPhases : Addr}
    {C_InvalidRow : Addr}
    {C_InvalidStep : Addr}
    {C_InvalidStretch : Addr}
    {C_InvalidText : Addr}
    {I_InvalidText : Addr} {iod_InvalidText ian_InvalidText : Option Addr} {isl_InvalidText : Array (Option Value)} {ioc_InvalidText ikV_InvalidText idc_InvalidText ipm_InvalidText icd_InvalidText ict_InvalidText : Value}
    {C_InvalidTime : Addr}
    {C_NothingToUndo : Addr}
    {C_OtherEnds : Addr}
    {C_Unheard : Addr}
    (a0 : PySem.W.nsIn K mainGlobals "_law_cell" = some (some (.ref f0))) (l0 : K.lookup f0 = some ⟨oc0, od0, .func (PySem.W.fnOf "_law_cell" "_law_cell" (defArgs s_law_cell) (defBody s_law_cell) (defScope s_law_cell) .none kV0 dc0 pm0 an0 cd0 ct0), sl0⟩) (c0 : PySem.W.codeIn K cd0 "_law_cell" = true) (k0 : PySem.W.keepIn K (.ref f0) = true)
    (a1 : PySem.W.nsIn K mainGlobals "_law_draw" = some (some (.ref f1))) (l1 : K.lookup f1 = some ⟨oc1, od1, .func (PySem.W.fnOf "_law_draw" "_law_draw" (defArgs s_law_draw) (defBody s_law_draw) (defScope s_law_draw) .none kV1 dc1 pm1 an1 cd1 ct1), sl1⟩) (c1 : PySem.W.codeIn K cd1 "_law_draw" = true) (k1 : PySem.W.keepIn K (.ref f1) = true)
    (a2 : PySem.W.nsIn K mainGlobals "_law_kinds" = some (some (.ref f2))) (l2 : K.lookup f2 = some ⟨oc2, od2, .func (PySem.W.fnOf "_law_kinds" "_law_kinds" (defArgs s_law_kinds) (defBody s_law_kinds) (defScope s_law_kinds) .none kV2 dc2 pm2 an2 cd2 ct2), sl2⟩) (c2 : PySem.W.codeIn K cd2 "_law_kinds" = true) (k2 : PySem.W.keepIn K (.ref f2) = true)
    (a3 : PySem.W.nsIn K mainGlobals "_law_made" = some (some (.ref f3))) (l3 : K.lookup f3 = some ⟨oc3, od3, .func (PySem.W.fnOf "_law_made" "_law_made" (defArgs s_law_made) (defBody s_law_made) (defScope s_law_made) .none kV3 dc3 pm3 an3 cd3 ct3), sl3⟩) (c3 : PySem.W.codeIn K cd3 "_law_made" = true) (k3 : PySem.W.keepIn K (.ref f3) = true)
    (a4 : PySem.W.nsIn K mainGlobals "law" = some (some (.ref f4))) (l4 : K.lookup f4 = some ⟨oc4, od4, .func (PySem.W.fnOf "law" "law" (defArgs s_law) (defBody s_law) (defScope s_law) .none kV4 dc4 pm4 an4 cd4 ct4), sl4⟩) (c4 : PySem.W.codeIn K cd4 "law" = true) (k4 : PySem.W.keepIn K (.ref f4) = true)
    (y_CopyError : PySem.W.nsIn K mainGlobals "CopyError" = some (some (.ref C_CopyError)))
    (xxxc_CopyError : Dx.XcP K C_CopyError)
    (xxxq_CopyError : PySem.W.excIn K C_CopyError [.type "ValueError", .type "Exception", .type "BaseException", .type "object"] "ValueError.__new__" = true)
    (y_Full : PySem.W.nsIn K mainGlobals "Full" = some (some (.ref C_Full)))
    (xxxc_Full : Dx.XcP K C_Full)
    (xxxq_Full : PySem.W.excIn K C_Full [.type "ValueError", .type "Exception", .type "BaseException", .type "object"] "ValueError.__new__" = true)
    (y_InvalidCommand : PySem.W.nsIn K mainGlobals "InvalidCommand" = some (some (.ref C_InvalidCommand)))
    (xxxc_InvalidCommand : Dx.XcP K C_InvalidCommand)
    (xxxq_InvalidCommand : PySem.W.excIn K C_InvalidCommand [.type "ValueError", .type "Exception", .type "BaseException", .type "object"] "ValueError.__new__" = true)
    (y_InvalidIndex : PySem.W.nsIn K mainGlobals "InvalidIndex" = some (some (.ref C_InvalidIndex)))
    (xxxc_InvalidIndex : Dx.XcP K C_InvalidIndex)
    (xxxq_InvalidIndex : PySem.W.excIn K C_InvalidIndex [.type "ValueError", .type "Exception", .type "BaseException", .type "object"] "ValueError.__new__" = true)
    (y_InvalidLine : PySem.W.nsIn K mainGlobals "InvalidLine" = some (some (.ref C_InvalidLine)))
    (xxxc_InvalidLine : Dx.XcP K C_InvalidLine)
    (xxxq_InvalidLine : PySem.W.excIn K C_InvalidLine [.type "ValueError", .type "Exception", .type "BaseException", .type "object"] "ValueError.__new__" = true)
    (y_InvalidNumber : PySem.W.nsIn K mainGlobals "InvalidNumber" = some (some (.ref C_InvalidNumber)))
    (xxxc_InvalidNumber : Dx.XcP K C_InvalidNumber)
    (xxxq_InvalidNumber : PySem.W.excIn K C_InvalidNumber [.type "ValueError", .type "Exception", .type "BaseException", .type "object"] "ValueError.__new__" = true)
    (y_InvalidPattern : PySem.W.nsIn K mainGlobals "InvalidPattern" = some (some (.ref C_InvalidPattern)))
    (xxxc_InvalidPattern : Dx.XcP K C_InvalidPattern)
    (xxxq_InvalidPattern : PySem.W.excIn K C_InvalidPattern [.type "ValueError", .type "Exception", .type "BaseException", .type "object"] "ValueError.__new__" = true)
    (y_InvalidPeriod : PySem.W.nsIn K mainGlobals "InvalidPeriod" = some (some (.ref C_InvalidPeriod)))
    (xxxc_InvalidPeriod : Dx.XcP K C_InvalidPeriod)
    (xxxq_InvalidPeriod : PySem.W.excIn K C_InvalidPeriod [.type "ValueError", .type "Exception", .type "BaseException", .type "object"] "ValueError.__new__" = true)
    (y_InvalidPhases : PySem.W.nsIn K mainGlobals "InvalidPhases" = some (some (.ref C_InvalidPhases)))
    (xxxc_InvalidPhases : Dx.XcP K C_InvalidPhases)
    (xxxq_InvalidPhases : PySem.W.excIn K C_InvalidPhases [.type "ValueError", .type "Exception", .type "BaseException", .type "object"] "ValueError.__new__" = true)
    (y_InvalidRow : PySem.W.nsIn K mainGlobals "InvalidRow" = some (some (.ref C_InvalidRow)))
    (xxxc_InvalidRow : Dx.XcP K C_InvalidRow)
    (xxxq_InvalidRow : PySem.W.excIn K C_InvalidRow [.type "ValueError", .type "Exception", .type "BaseException", .type "object"] "ValueError.__new__" = true)
    (y_InvalidStep : PySem.W.nsIn K mainGlobals "InvalidStep" = some (some (.ref C_InvalidStep)))
    (xxxc_InvalidStep : Dx.XcP K C_InvalidStep)
    (xxxq_InvalidStep : PySem.W.excIn K C_InvalidStep [.type "ValueError", .type "Exception", .type "BaseException", .type "object"] "ValueError.__new__" = true)
    (y_InvalidStretch : PySem.W.nsIn K mainGlobals "InvalidStretch" = some (some (.ref C_InvalidStretch)))
    (xxxc_InvalidStretch : Dx.XcP K C_InvalidStretch)
    (xxxq_InvalidStretch : PySem.W.excIn K C_InvalidStretch [.type "ValueError", .type "Exception", .type "BaseException", .type "object"] "ValueError.__new__" = true)
    (y_InvalidText : PySem.W.nsIn K mainGlobals "InvalidText" = some (some (.ref C_InvalidText)))
    (xxxc_InvalidText : Dx.XcP K C_InvalidText)
    (xxoe_InvalidText : OexC K C_InvalidText)
    (xxin_InvalidText : PySem.W.findIn K (.ref C_InvalidText) "place" = some none)
    (ii_InvalidText : PySem.W.findIn K (.ref C_InvalidText) "__init__" = some (some (.ref I_InvalidText))) (it_InvalidText : PySem.W.typeIn K (.ref I_InvalidText) = some (.type "function"))
    (il_InvalidText : K.lookup I_InvalidText = some ⟨ioc_InvalidText, iod_InvalidText, .func (PySem.W.fnOf "__init__" "InvalidText.__init__" (defArgs si_InvalidText) (defBody si_InvalidText) (defScope si_InvalidText) .none ikV_InvalidText idc_InvalidText ipm_InvalidText ian_InvalidText icd_InvalidText ict_InvalidText), isl_InvalidText⟩) (ic_InvalidText : PySem.W.codeIn K icd_InvalidText "InvalidText.__init__" = true) (ik_InvalidText : PySem.W.keepIn K (.ref I_InvalidText) = true)
    (y_InvalidTime : PySem.W.nsIn K mainGlobals "InvalidTime" = some (some (.ref C_InvalidTime)))
    (xxxc_InvalidTime : Dx.XcP K C_InvalidTime)
    (xxxq_InvalidTime : PySem.W.excIn K C_InvalidTime [.type "ValueError", .type "Exception", .type "BaseException", .type "object"] "ValueError.__new__" = true)
    (y_NothingToUndo : PySem.W.nsIn K mainGlobals "NothingToUndo" = some (some (.ref C_NothingToUndo)))
    (xxxc_NothingToUndo : Dx.XcP K C_NothingToUndo)
    (xxxq_NothingToUndo : PySem.W.excIn K C_NothingToUndo [.type "ValueError", .type "Exception", .type "BaseException", .type "object"] "ValueError.__new__" = true)
    (y_OtherEnds : PySem.W.nsIn K mainGlobals "OtherEnds" = some (some (.ref C_OtherEnds)))
    (xxxc_OtherEnds : Dx.XcP K C_OtherEnds)
    (xxxq_OtherEnds : PySem.W.excIn K C_OtherEnds [.type "ValueError", .type "Exception", .type "BaseException", .type "object"] "ValueError.__new__" = true)
    (y_Unheard : PySem.W.nsIn K mainGlobals "Unheard" = some (some (.ref C_Unheard)))
    (xxxc_Unheard : Dx.XcP K C_Unheard)
    (xxxq_Unheard : PySem.W.excIn K C_Unheard [.type "ValueError", .type "Exception", .type "BaseException", .type "object"] "ValueError.__new__" = true)
    (sall : Dx.SubAll K [C_InvalidRow, C_InvalidPhases, C_InvalidTime, C_InvalidNumber, C_InvalidStretch, C_InvalidPattern, C_InvalidStep, C_InvalidIndex, C_InvalidPeriod, C_InvalidLine, C_OtherEnds, C_Unheard, C_Full, C_NothingToUndo, C_InvalidCommand, C_InvalidText] C_CopyError)
    (z_ValueError : PySem.W.nsIn K mainGlobals "ValueError" = some none)
    (z_int : PySem.W.nsIn K mainGlobals "int" = some none)
    (z_isinstance : PySem.W.nsIn K mainGlobals "isinstance" = some none)
    (z_len : PySem.W.nsIn K mainGlobals "len" = some none)
    (z_range : PySem.W.nsIn K mainGlobals "range" = some none)
    (z_repr : PySem.W.nsIn K mainGlobals "repr" = some none) :
    ∃ fd : FuncData, (∀ (s : Shared) (v : Value), BindsTo s fd ⟨[v], []⟩ [("script", v)]) ∧ ∀ base : Heap, K.In base → base.Ns mainGlobals mg → Dx.FnG l.prog w K mg base CX0 3 fa fd ["script"] (Dx.spLaw K) := by
  have e := hfa.symm.trans (PySem.W.mg_of X G a4)
  cases e
  let T : Tx K mg := {
    a__law_cell := f0, d__law_cell := _, F__law_cell := fun_mk (st := s_law_cell) l0 c0 k0, b__law_cell := (fun_mk (st := s_law_cell) l0 c0 k0).binds (ps := ["script", "k"]) fun _ _ _ _ _ _ us hl => match us, hl with | [_, _], _ => rfl, g__law_cell := PySem.W.mg_of X G a0,
    a__law_draw := f1, d__law_draw := _, F__law_draw := fun_mk (st := s_law_draw) l1 c1 k1, b__law_draw := (fun_mk (st := s_law_draw) l1 c1 k1).binds (ps := ["cell", "k", "limit"]) fun _ _ _ _ _ _ us hl => match us, hl with | [_, _, _], _ => rfl, g__law_draw := PySem.W.mg_of X G a1,
    a__law_kinds := f2, d__law_kinds := _, F__law_kinds := fun_mk (st := s_law_kinds) l2 c2 k2, b__law_kinds := (fun_mk (st := s_law_kinds) l2 c2 k2).binds (ps := ["e"]) fun _ _ _ _ _ _ us hl => match us, hl with | [_], _ => rfl, g__law_kinds := PySem.W.mg_of X G a2,
    a__law_made := f3, d__law_made := _, F__law_made := fun_mk (st := s_law_made) l3 c3 k3, b__law_made := (fun_mk (st := s_law_made) l3 c3 k3).binds (ps := ["text"]) fun _ _ _ _ _ _ us hl => match us, hl with | [_], _ => rfl, g__law_made := PySem.W.mg_of X G a3,
    a_law := fa, d_law := _, F_law := fun_mk (st := s_law) l4 c4 k4, b_law := (fun_mk (st := s_law) l4 c4 k4).binds (ps := ["script"]) fun _ _ _ _ _ _ us hl => match us, hl with | [_], _ => rfl, g_law := PySem.W.mg_of X G a4,
    c_CopyError := C_CopyError, g_CopyError := PySem.W.mg_of X G y_CopyError, xc_CopyError := xxxc_CopyError, xq_CopyError := xxxq_CopyError,
    c_Full := C_Full, g_Full := PySem.W.mg_of X G y_Full, xc_Full := xxxc_Full, xq_Full := xxxq_Full,
    c_InvalidCommand := C_InvalidCommand, g_InvalidCommand := PySem.W.mg_of X G y_InvalidCommand, xc_InvalidCommand := xxxc_InvalidCommand, xq_InvalidCommand := xxxq_InvalidCommand,
    c_InvalidIndex := C_InvalidIndex, g_InvalidIndex := PySem.W.mg_of X G y_InvalidIndex, xc_InvalidIndex := xxxc_InvalidIndex, xq_InvalidIndex := xxxq_InvalidIndex,
    c_InvalidLine := C_InvalidLine, g_InvalidLine := PySem.W.mg_of X G y_InvalidLine, xc_InvalidLine := xxxc_InvalidLine, xq_InvalidLine := xxxq_InvalidLine,
    c_InvalidNumber := C_InvalidNumber, g_InvalidNumber := PySem.W.mg_of X G y_InvalidNumber, xc_InvalidNumber := xxxc_InvalidNumber, xq_InvalidNumber := xxxq_InvalidNumber,
    c_InvalidPattern := C_InvalidPattern, g_InvalidPattern := PySem.W.mg_of X G y_InvalidPattern, xc_InvalidPattern := xxxc_InvalidPattern, xq_InvalidPattern := xxxq_InvalidPattern,
    c_InvalidPeriod := C_InvalidPeriod, g_InvalidPeriod := PySem.W.mg_of X G y_InvalidPeriod, xc_InvalidPeriod := xxxc_InvalidPeriod, xq_InvalidPeriod := xxxq_InvalidPeriod,
    c_InvalidPhases := C_InvalidPhases, g_InvalidPhases := PySem.W.mg_of X G y_InvalidPhases, xc_InvalidPhases := xxxc_InvalidPhases, xq_InvalidPhases := xxxq_InvalidPhases,
    c_InvalidRow := C_InvalidRow, g_InvalidRow := PySem.W.mg_of X G y_InvalidRow, xc_InvalidRow := xxxc_InvalidRow, xq_InvalidRow := xxxq_InvalidRow,
    c_InvalidStep := C_InvalidStep, g_InvalidStep := PySem.W.mg_of X G y_InvalidStep, xc_InvalidStep := xxxc_InvalidStep, xq_InvalidStep := xxxq_InvalidStep,
    c_InvalidStretch := C_InvalidStretch, g_InvalidStretch := PySem.W.mg_of X G y_InvalidStretch, xc_InvalidStretch := xxxc_InvalidStretch, xq_InvalidStretch := xxxq_InvalidStretch,
    c_InvalidText := C_InvalidText, g_InvalidText := PySem.W.mg_of X G y_InvalidText, xc_InvalidText := xxxc_InvalidText, oe_InvalidText := xxoe_InvalidText, in_InvalidText := xxin_InvalidText, ia_InvalidText := I_InvalidText, id_InvalidText := _, ii_InvalidText := ii_InvalidText, it_InvalidText := it_InvalidText, iF_InvalidText := fun_mk (st := si_InvalidText) il_InvalidText ic_InvalidText ik_InvalidText, ib_InvalidText := fun _ _ _ => .of_eq rfl, ik_InvalidText := fun _ _ _ => .of_eq rfl,
    c_InvalidTime := C_InvalidTime, g_InvalidTime := PySem.W.mg_of X G y_InvalidTime, xc_InvalidTime := xxxc_InvalidTime, xq_InvalidTime := xxxq_InvalidTime,
    c_NothingToUndo := C_NothingToUndo, g_NothingToUndo := PySem.W.mg_of X G y_NothingToUndo, xc_NothingToUndo := xxxc_NothingToUndo, xq_NothingToUndo := xxxq_NothingToUndo,
    c_OtherEnds := C_OtherEnds, g_OtherEnds := PySem.W.mg_of X G y_OtherEnds, xc_OtherEnds := xxxc_OtherEnds, xq_OtherEnds := xxxq_OtherEnds,
    c_Unheard := C_Unheard, g_Unheard := PySem.W.mg_of X G y_Unheard, xc_Unheard := xxxc_Unheard, xq_Unheard := xxxq_Unheard,
    sall := sall,
    n_ValueError := PySem.W.mg_none_of X G z_ValueError,
    n_int := PySem.W.mg_none_of X G z_int,
    n_isinstance := PySem.W.mg_none_of X G z_isinstance,
    n_len := PySem.W.mg_none_of X G z_len,
    n_range := PySem.W.mg_none_of X G z_range,
    n_repr := PySem.W.mg_none_of X G z_repr }
  exact ⟨T.d_law, fun s v => .of_eq rfl, fun base _ _ => ok_law T⟩
end K07
open PySem PySem.W PyProof.Rows
set_option maxRecDepth 100000 in
set_option maxHeartbeats 0 in
theorem PySem.Challenge.cw_lastcopied_k07_errors_made_holds : PySem.Challenge.rw_lastcopied_k07_errors_made.Holds := by
  w_on; o_law; k_head; (case hw => w_witness2)
  k_fill
  refine Dx.walkG_of (l := PySem.Challenge.rw_lastcopied_k07_errors_made) (n := 63) (k := 3) (x := "script") (sp := Dx.spLaw) rfl (by decide) rfl ⟨rfl, by decide, by decide⟩ (fun w h Y => PySem.W.kIn_of Y) ?F (fun _ _ a ns hl hO hS => ⟨a, ns, rfl, hS, hO, hl, fun _ => rfl⟩)
  case F =>
    intro w mg fa h KX G hmg
    refine' K07.all_mk KX G hmg ?a0 ?l0 ?c0 ?k0 ?a1 ?l1 ?c1 ?k1 ?a2 ?l2 ?c2 ?k2 ?a3 ?l3 ?c3 ?k3 ?a4 ?l4 ?c4 ?k4 ?y_CopyError ?xxxc_CopyError ?xxxq_CopyError ?y_Full ?xxxc_Full ?xxxq_Full ?y_InvalidCommand ?xxxc_InvalidCommand ?xxxq_InvalidCommand ?y_InvalidIndex ?xxxc_InvalidIndex ?xxxq_InvalidIndex ?y_InvalidLine ?xxxc_InvalidLine ?xxxq_InvalidLine ?y_InvalidNumber ?xxxc_InvalidNumber ?xxxq_InvalidNumber ?y_InvalidPattern ?xxxc_InvalidPattern ?xxxq_InvalidPattern ?y_InvalidPeriod ?xxxc_InvalidPeriod ?xxxq_InvalidPeriod ?y_InvalidPhases ?xxxc_InvalidPhases ?xxxq_InvalidPhases ?y_InvalidRow ?xxxc_InvalidRow ?xxxq_InvalidRow ?y_InvalidStep ?xxxc_InvalidStep ?xxxq_InvalidStep ?y_InvalidStretch ?xxxc_InvalidStretch ?xxxq_InvalidStretch ?y_InvalidText ?xxxc_InvalidText ?xxoe_InvalidText ?xxin_InvalidText ?ii_InvalidText ?it_InvalidText ?il_InvalidText ?ic_InvalidText ?ik_InvalidText ?y_InvalidTime ?xxxc_InvalidTime ?xxxq_InvalidTime ?y_NothingToUndo ?xxxc_NothingToUndo ?xxxq_NothingToUndo ?y_OtherEnds ?xxxc_OtherEnds ?xxxq_OtherEnds ?y_Unheard ?xxxc_Unheard ?xxxq_Unheard ?sall ?z_ValueError ?z_int ?z_isinstance ?z_len ?z_range ?z_repr
    (case a0 => k_is)
    (case l0 => k_is)
    (case c0 => k_is)
    (case k0 => k_is)
    (case a1 => k_is)
    (case l1 => k_is)
    (case c1 => k_is)
    (case k1 => k_is)
    (case a2 => k_is)
    (case l2 => k_is)
    (case c2 => k_is)
    (case k2 => k_is)
    (case a3 => k_is)
    (case l3 => k_is)
    (case c3 => k_is)
    (case k3 => k_is)
    (case a4 => k_is)
    (case l4 => k_is)
    (case c4 => k_is)
    (case k4 => k_is)
    (case y_CopyError => k_is)
    (case xxxc_CopyError => exact ⟨by k_is, by k_is, by k_is, by k_is, by k_is, by k_is, by k_is, by k_is, by k_is, by k_is, by k_is⟩)
    (case xxxq_CopyError => k_exc)
    (case y_Full => k_is)
    (case xxxc_Full => exact ⟨by k_is, by k_is, by k_is, by k_is, by k_is, by k_is, by k_is, by k_is, by k_is, by k_is, by k_is⟩)
    (case xxxq_Full => k_exc)
    (case y_InvalidCommand => k_is)
    (case xxxc_InvalidCommand => exact ⟨by k_is, by k_is, by k_is, by k_is, by k_is, by k_is, by k_is, by k_is, by k_is, by k_is, by k_is⟩)
    (case xxxq_InvalidCommand => k_exc)
    (case y_InvalidIndex => k_is)
    (case xxxc_InvalidIndex => exact ⟨by k_is, by k_is, by k_is, by k_is, by k_is, by k_is, by k_is, by k_is, by k_is, by k_is, by k_is⟩)
    (case xxxq_InvalidIndex => k_exc)
    (case y_InvalidLine => k_is)
    (case xxxc_InvalidLine => exact ⟨by k_is, by k_is, by k_is, by k_is, by k_is, by k_is, by k_is, by k_is, by k_is, by k_is, by k_is⟩)
    (case xxxq_InvalidLine => k_exc)
    (case y_InvalidNumber => k_is)
    (case xxxc_InvalidNumber => exact ⟨by k_is, by k_is, by k_is, by k_is, by k_is, by k_is, by k_is, by k_is, by k_is, by k_is, by k_is⟩)
    (case xxxq_InvalidNumber => k_exc)
    (case y_InvalidPattern => k_is)
    (case xxxc_InvalidPattern => exact ⟨by k_is, by k_is, by k_is, by k_is, by k_is, by k_is, by k_is, by k_is, by k_is, by k_is, by k_is⟩)
    (case xxxq_InvalidPattern => k_exc)
    (case y_InvalidPeriod => k_is)
    (case xxxc_InvalidPeriod => exact ⟨by k_is, by k_is, by k_is, by k_is, by k_is, by k_is, by k_is, by k_is, by k_is, by k_is, by k_is⟩)
    (case xxxq_InvalidPeriod => k_exc)
    (case y_InvalidPhases => k_is)
    (case xxxc_InvalidPhases => exact ⟨by k_is, by k_is, by k_is, by k_is, by k_is, by k_is, by k_is, by k_is, by k_is, by k_is, by k_is⟩)
    (case xxxq_InvalidPhases => k_exc)
    (case y_InvalidRow => k_is)
    (case xxxc_InvalidRow => exact ⟨by k_is, by k_is, by k_is, by k_is, by k_is, by k_is, by k_is, by k_is, by k_is, by k_is, by k_is⟩)
    (case xxxq_InvalidRow => k_exc)
    (case y_InvalidStep => k_is)
    (case xxxc_InvalidStep => exact ⟨by k_is, by k_is, by k_is, by k_is, by k_is, by k_is, by k_is, by k_is, by k_is, by k_is, by k_is⟩)
    (case xxxq_InvalidStep => k_exc)
    (case y_InvalidStretch => k_is)
    (case xxxc_InvalidStretch => exact ⟨by k_is, by k_is, by k_is, by k_is, by k_is, by k_is, by k_is, by k_is, by k_is, by k_is, by k_is⟩)
    (case xxxq_InvalidStretch => k_exc)
    (case y_InvalidText => k_is)
    (case xxxc_InvalidText => exact ⟨by k_is, by k_is, by k_is, by k_is, by k_is, by k_is, by k_is, by k_is, by k_is, by k_is, by k_is⟩)
    (case xxoe_InvalidText => exact ⟨⟨_, _, _, _, _, _, _, _, _, _, _, _, _, _, _, by k_is, by decide +kernel⟩, by k_is, by k_is, by k_is, by k_is⟩)
    (case xxin_InvalidText => k_is)
    (case ii_InvalidText => k_is)
    (case it_InvalidText => k_is)
    (case il_InvalidText => k_is)
    (case ic_InvalidText => k_is)
    (case ik_InvalidText => k_is)
    (case y_InvalidTime => k_is)
    (case xxxc_InvalidTime => exact ⟨by k_is, by k_is, by k_is, by k_is, by k_is, by k_is, by k_is, by k_is, by k_is, by k_is, by k_is⟩)
    (case xxxq_InvalidTime => k_exc)
    (case y_NothingToUndo => k_is)
    (case xxxc_NothingToUndo => exact ⟨by k_is, by k_is, by k_is, by k_is, by k_is, by k_is, by k_is, by k_is, by k_is, by k_is, by k_is⟩)
    (case xxxq_NothingToUndo => k_exc)
    (case y_OtherEnds => k_is)
    (case xxxc_OtherEnds => exact ⟨by k_is, by k_is, by k_is, by k_is, by k_is, by k_is, by k_is, by k_is, by k_is, by k_is, by k_is⟩)
    (case xxxq_OtherEnds => k_exc)
    (case y_Unheard => k_is)
    (case xxxc_Unheard => exact ⟨by k_is, by k_is, by k_is, by k_is, by k_is, by k_is, by k_is, by k_is, by k_is, by k_is, by k_is⟩)
    (case xxxq_Unheard => k_exc)
    (case sall => (refine' Dx.SubAll.mk ?nd ?tab; (case nd => decide); (case tab => repeat' (first | exact Dx.SubRow.nil | exact Dx.SubTab.nil | (refine' Dx.SubRow.cons ?h ?_; (case h => k_is)) | (refine' Dx.SubTab.cons ?_ ?h1 ?h2 ?_; (case h1 => k_is); (case h2 => k_is))))))
    (case z_ValueError => k_is)
    (case z_int => k_is)
    (case z_isinstance => k_is)
    (case z_len => k_is)
    (case z_range => k_is)
    (case z_repr => k_is)
