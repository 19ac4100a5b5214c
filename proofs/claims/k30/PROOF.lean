import PyProof.Rows.All
import Wide.All
import OpenK.AllK
import Wide.FinOn
import HandS.ForMost
import HandS.Walk
import HandS.IsInst
import HandS.Steps
import HandS.Zip
import KE.GoesEnum
import KE.GoesEnumKw
import KE.SortData
import HandS.Strs
import HandS.SetKeys
import HandS.SetFor
import HandS.Star
import HandS.Wide
import HandS.WideBits
import PySem.Challenge.RW_nearseats_k30_determinants_and_ranks
import HandS.Head0
import HandS.Head1
import HandS.Head2
import HandS.HeadEnd
import HandS.HeadHook1
import HandS.HeadHook2
import HandS.HeadHook3
import HandS.HeadHook4
set_option Elab.async false
set_option maxRecDepth 100000
set_option maxHeartbeats 0
set_option linter.all false
/-! DL0: values as plain data (D), how the heap bears them (Rep), the frame as slots (ER), and what it means that an
expression, a test, a block does something at the level of data (tD, tDT, tS). Built over HandS. -/
namespace DL
open PySem L2
/-! ### data -/
inductive D where
  | non | bl (b : Bool) | int (i : Int) | str (s : Str) | ty (n : String)
  | lst (xs : List D) | tup (xs : List D)
  | dk (ks : List Key) (xs : List D)
  | ins (C : Addr) (ns : List Str) (xs : List D)
def Ext (F H : Hp) : Prop := ∀ b o, F b = some o → H b = some o
theorem Ext.refl (F : Hp) : Ext F F := fun _ _ h => h
theorem Ext.trans {F G H : Hp} (a : Ext F G) (b : Ext G H) : Ext F H := fun x o h => b x o (a x o h)
theorem Ext.lay {F : Hp} {a : Addr} {o : HO} (h : F a = none) : Ext F (upd F a o) := fun b u e => by
  rw [upd_ne (ne_of_none e h)]; exact e
theorem Ext.updR {F H : Hp} {a : Addr} {o : HO} (e : Ext F H) (h : F a = none) : Ext F (L2.upd H a o) := fun b u q => by
  rw [upd_ne (ne_of_none q h)]; exact e b u q
theorem Ext.free {F H : Hp} (e : Ext F H) {a : Addr} (h : H a = none) : F a = none := by
  cases q : F a with
  | none => rfl
  | some o => rw [e a o q] at h; cases h
theorem Ext.sqT {K : PySem.W.Frag} {F H : Hp} {a : Addr} {xs : List V} (e : Ext F H) (h : SqT K F a xs) : SqT K H a xs := by
  rcases h with (h | ⟨o, h⟩) | h
  · exact .inl (.inl (e _ _ h))
  · exact .inl (.inr ⟨o, e _ _ h⟩)
  · exact .inr h
theorem Ext.rd {F H : Hp} {a : Addr} {u : HO} (e : Ext F H) (h : Rd F a u) : Rd H a u := h.imp (e _ _) fun ⟨o, q⟩ => ⟨o, e _ _ q⟩
theorem rd_inj {H : Hp} {a : Addr} {xs ys : List V} (h : Rd H a (.lst xs)) (g : Rd H a (.lst ys)) : xs = ys := by
  rcases h with h | ⟨o, h⟩ <;> rcases g with g | ⟨p, g⟩ <;> (rw [h] at g; cases g) <;> rfl
theorem sql_rd {K : PySem.W.Frag} {H : Hp} {a : Addr} {xs : List V} (h : Rd H a (.lst xs)) : SqL K H a xs := .inl h
/-- a tuple whose object is known to bear no dict -/
def SqX (K : PySem.W.Frag) (H : Hp) (a : Addr) (xs : List V) : Prop := SqT K H a xs ∧ ((∃ o u, H a = some (.frz o u) ∧ o.dict = none) ∨ ∃ o, K.lookup a = some o ∧ o.dict = none)
theorem Ext.sqX {K : PySem.W.Frag} {F H : Hp} {a : Addr} {xs : List V} (e : Ext F H) (h : SqX K F a xs) : SqX K H a xs :=
  ⟨e.sqT h.1, h.2.imp (fun ⟨o, u, q, d⟩ => ⟨o, u, e _ _ q, d⟩) id⟩
theorem SqX.new {K : PySem.W.Frag} {H : Hp} {a : Addr} {xs : List V} {o : Obj} (d : o.dict = none) : SqX K (upd H a (.frz o (.tup xs))) a xs :=
  ⟨.inl (.inr ⟨o, upd_same⟩), .inl ⟨o, _, upd_same, d⟩⟩
mutual
def Rep (K : PySem.W.Frag) (H : Hp) : D → V → Prop
  | .non, v => v = .non
  | .bl b, v => v = .bl b
  | .int i, v => v = .int i
  | .str s, v => v = .str s
  | .ty n, v => v = .ty n
  | .lst ds, v => ∃ a vs, v = .ref a ∧ Rd H a (.lst vs) ∧ Reps K H ds vs
  | .tup ds, v => ∃ a vs, v = .ref a ∧ SqX K H a vs ∧ Reps K H ds vs
  | .dk ks ds, v => ∃ a kvs, v = .ref a ∧ H a = some (.dK kvs) ∧ kvs.map (·.1) = ks ∧ Reps K H ds (kvs.map (·.2))
  | .ins C ns ds, v => ∃ a dx fs, v = .ref a ∧ H a = some (.ins C dx fs) ∧ fs.map (·.1) = ns ∧ Reps K H ds (fs.map (·.2))
def Reps (K : PySem.W.Frag) (H : Hp) : List D → List V → Prop
  | [], vs => vs = []
  | d :: ds, vs => ∃ v r, vs = v :: r ∧ Rep K H d v ∧ Reps K H ds r
end
mutual
theorem Rep.mono {K : PySem.W.Frag} {F H : Hp} (e : Ext F H) : ∀ (d : D) (v : V), Rep K F d v → Rep K H d v
  | .non, v, h => h
  | .bl _, v, h => h
  | .int _, v, h => h
  | .str _, v, h => h
  | .ty _, v, h => h
  | .lst ds, v, h => by
    obtain ⟨a, vs, h1, h2, h3⟩ := h
    exact ⟨a, vs, h1, e.rd h2, Reps.mono e ds vs h3⟩
  | .tup ds, v, h => by
    obtain ⟨a, vs, h1, h2, h3⟩ := h
    exact ⟨a, vs, h1, e.sqX h2, Reps.mono e ds vs h3⟩
  | .dk ks ds, v, h => by
    obtain ⟨a, vs, h1, h2, h4, h3⟩ := h
    exact ⟨a, vs, h1, e _ _ h2, h4, Reps.mono e ds _ h3⟩
  | .ins C ns ds, v, h => by
    obtain ⟨a, dx, vs, h1, h2, h4, h3⟩ := h
    exact ⟨a, dx, vs, h1, e _ _ h2, h4, Reps.mono e ds _ h3⟩
theorem Reps.mono {K : PySem.W.Frag} {F H : Hp} (e : Ext F H) : ∀ (ds : List D) (vs : List V), Reps K F ds vs → Reps K H ds vs
  | [], vs, h => h
  | d :: ds, vs, h => by
    obtain ⟨v, r, h1, h2, h3⟩ := h
    exact ⟨v, r, h1, Rep.mono e d v h2, Reps.mono e ds r h3⟩
end
section
variable {K : PySem.W.Frag} {F H : Hp} {ds es : List D} {vs ws : List V} {d : D} {v : V}
theorem Reps.nil : Reps K H [] [] := by simp [Reps]
theorem Reps.cons (a : Rep K H d v) (b : Reps K H ds vs) : Reps K H (d :: ds) (v :: vs) := by
  simp only [Reps]; exact ⟨v, vs, rfl, a, b⟩
theorem Reps.nil_of (h : Reps K H [] vs) : vs = [] := by simpa [Reps] using h
theorem Reps.cons_of (h : Reps K H (d :: ds) vs) : ∃ v r, vs = v :: r ∧ Rep K H d v ∧ Reps K H ds r := by simpa only [Reps] using h
theorem Reps.length : ∀ {ds : List D} {vs : List V}, Reps K H ds vs → vs.length = ds.length
  | [], vs, h => by rw [h.nil_of]; rfl
  | d :: ds, vs, h => by
    obtain ⟨v, r, rfl, _, h3⟩ := h.cons_of
    show r.length + 1 = ds.length + 1
    rw [h3.length]
theorem Reps.get : ∀ {ds : List D} {vs : List V} {i : Nat} {v : V}, Reps K H ds vs → vs[i]? = some v → ∃ d, ds[i]? = some d ∧ Rep K H d v
  | [], vs, i, v, h, g => by rw [h.nil_of] at g; cases g
  | d :: ds, vs, 0, v, h, g => by
    obtain ⟨w, r, rfl, h2, h3⟩ := h.cons_of
    cases g
    exact ⟨d, rfl, h2⟩
  | d :: ds, vs, i + 1, v, h, g => by
    obtain ⟨w, r, rfl, h2, h3⟩ := h.cons_of
    exact h3.get (i := i) g
theorem Reps.getD : ∀ {ds : List D} {vs : List V} {i : Nat} {d : D}, Reps K H ds vs → ds[i]? = some d → ∃ v, vs[i]? = some v ∧ Rep K H d v
  | [], vs, i, v, h, g => by cases g
  | d :: ds, vs, 0, v, h, g => by
    obtain ⟨w, r, rfl, h2, h3⟩ := h.cons_of
    cases g
    exact ⟨w, rfl, h2⟩
  | d :: ds, vs, i + 1, v, h, g => by
    obtain ⟨w, r, rfl, h2, h3⟩ := h.cons_of
    exact h3.getD (i := i) g
theorem Reps.append : ∀ {ds es : List D} {vs ws : List V}, Reps K H ds vs → Reps K H es ws → Reps K H (ds ++ es) (vs ++ ws)
  | [], es, vs, ws, h, g => by rw [h.nil_of]; exact g
  | d :: ds, es, vs, ws, h, g => by
    obtain ⟨w, r, rfl, h2, h3⟩ := h.cons_of
    exact .cons h2 (h3.append g)
theorem Reps.one (h : Rep K H d v) : Reps K H [d] [v] := .cons h .nil
theorem Reps.set : ∀ {ds : List D} {vs : List V} (i : Nat) {d : D} {v : V}, Reps K H ds vs → Rep K H d v → Reps K H (ds.set i d) (vs.set i v)
  | [], vs, i, d, v, h, g => by rw [h.nil_of]; exact .nil
  | e :: ds, vs, 0, d, v, h, g => by
    obtain ⟨w, r, rfl, h2, h3⟩ := h.cons_of
    exact .cons g h3
  | e :: ds, vs, i + 1, d, v, h, g => by
    obtain ⟨w, r, rfl, h2, h3⟩ := h.cons_of
    exact .cons h2 (h3.set i g)
theorem Reps.take : ∀ {ds : List D} {vs : List V} (n : Nat), Reps K H ds vs → Reps K H (ds.take n) (vs.take n)
  | ds, vs, 0, h => .nil
  | [], vs, n + 1, h => by rw [h.nil_of]; exact .nil
  | e :: ds, vs, n + 1, h => by
    obtain ⟨w, r, rfl, h2, h3⟩ := h.cons_of
    exact .cons h2 (h3.take n)
theorem Reps.drop : ∀ {ds : List D} {vs : List V} (n : Nat), Reps K H ds vs → Reps K H (ds.drop n) (vs.drop n)
  | ds, vs, 0, h => h
  | [], vs, n + 1, h => by rw [h.nil_of]; exact .nil
  | e :: ds, vs, n + 1, h => by
    obtain ⟨w, r, rfl, h2, h3⟩ := h.cons_of
    exact h3.drop n
theorem Reps.eraseIdx : ∀ {ds : List D} {vs : List V} (n : Nat), Reps K H ds vs → Reps K H (ds.eraseIdx n) (vs.eraseIdx n)
  | [], vs, n, h => by rw [h.nil_of]; exact .nil
  | e :: ds, vs, 0, h => by
    obtain ⟨w, r, rfl, h2, h3⟩ := h.cons_of
    exact h3
  | e :: ds, vs, n + 1, h => by
    obtain ⟨w, r, rfl, h2, h3⟩ := h.cons_of
    exact .cons h2 (h3.eraseIdx n)
theorem Reps.reverse {ds : List D} {vs : List V} (h : Reps K H ds vs) : Reps K H ds.reverse vs.reverse := by
  induction ds generalizing vs with
  | nil => rw [h.nil_of]; exact .nil
  | cons d ds ih =>
    obtain ⟨w, r, rfl, h2, h3⟩ := h.cons_of
    rw [List.reverse_cons, List.reverse_cons]
    exact (ih h3).append (.one h2)
/-- scalars determine the value -/
theorem Reps.ints : ∀ {ns : List Int} {vs : List V}, Reps K H (ns.map D.int) vs → vs = ns.map V.int
  | [], vs, h => h.nil_of
  | n :: ns, vs, h => by
    obtain ⟨w, r, rfl, h2, h3⟩ := h.cons_of
    have e : w = V.int n := by simpa only [Rep] using h2
    rw [e, h3.ints]; rfl
theorem Reps.bls : ∀ {ns : List Bool} {vs : List V}, Reps K H (ns.map D.bl) vs → vs = ns.map V.bl
  | [], vs, h => h.nil_of
  | n :: ns, vs, h => by
    obtain ⟨w, r, rfl, h2, h3⟩ := h.cons_of
    have e : w = V.bl n := by simpa only [Rep] using h2
    rw [e, h3.bls]; rfl
theorem Reps.strs : ∀ {ns : List Str} {vs : List V}, Reps K H (ns.map D.str) vs → vs = ns.map V.str
  | [], vs, h => h.nil_of
  | n :: ns, vs, h => by
    obtain ⟨w, r, rfl, h2, h3⟩ := h.cons_of
    have e : w = V.str n := by simpa only [Rep] using h2
    rw [e, h3.strs]; rfl
theorem rep_non : Rep K H .non v ↔ v = .non := by simp [Rep]
theorem rep_bl {b : Bool} : Rep K H (.bl b) v ↔ v = .bl b := by simp [Rep]
theorem rep_int {i : Int} : Rep K H (.int i) v ↔ v = .int i := by simp [Rep]
theorem rep_str {s : Str} : Rep K H (.str s) v ↔ v = .str s := by simp [Rep]
theorem rep_ty {s : String} : Rep K H (.ty s) v ↔ v = .ty s := by simp [Rep]
theorem rep_lst : Rep K H (.lst ds) v ↔ ∃ a vs, v = .ref a ∧ Rd H a (.lst vs) ∧ Reps K H ds vs := by simp only [Rep]
theorem rep_tup : Rep K H (.tup ds) v ↔ ∃ a vs, v = .ref a ∧ SqX K H a vs ∧ Reps K H ds vs := by simp only [Rep]
end
/-! ### slots, frames -/
/-- what is known of a name: its data, fixed for good (v true) or as it stood when the def was called (v false); or a list that this def alone may change -/
inductive Slot where
  | v (k : Bool) (d : D)
  | own (ds : List D)
abbrev Slot.val (d : D) : Slot := .v true d
abbrev Slot.view (d : D) : Slot := .v false d
abbrev Env := List (Option Slot)
/-- what stood when the def was called: what is fixed, the heap, the arguments, which of them are the caller's lists that this def may change -/
structure Gx where
  F0 : Hp
  H0 : Hp
  vs : List V
  ms : List Bool
/- the heap at the call but for the lists that may change -/
open Classical in
noncomputable def Gx.Hv (G : Gx) : Hp := fun b => if ∃ i : Nat, G.ms[i]? = some true ∧ G.vs[i]? = some (V.ref b) then none else G.H0 b
theorem Gx.hv_h0 {G : Gx} {b : Addr} {o : HO} (h : G.Hv b = some o) : G.H0 b = some o := by
  unfold Gx.Hv at h
  split at h
  · cases h
  · exact h
theorem Gx.h0_hv {G : Gx} {b : Addr} {o : HO} (h : G.H0 b = some o) (n : ∀ i : Nat, G.ms[i]? = some true → G.vs[i]? ≠ some (V.ref b)) : G.Hv b = some o := by
  unfold Gx.Hv
  rw [if_neg]
  · exact h
  · rintro ⟨i, h1, h2⟩; exact n i h1 h2
theorem Gx.hv_ne {G : Gx} {b : Addr} {o : HO} (h : G.Hv b = some o) {i : Nat} (h1 : G.ms[i]? = some true) : G.vs[i]? ≠ some (V.ref b) := fun h2 => by
  unfold Gx.Hv at h
  rw [if_pos ⟨i, h1, h2⟩] at h; cases h
noncomputable def Gx.at (G : Gx) (F : Hp) : Bool → Hp
  | true => F
  | false => G.Hv
/-- what is fixed of a view: all but a list's own row of items -/
def RI (K : PySem.W.Frag) (G : Gx) (F : Hp) : D → V → Prop
  | .lst ds, v => ∀ a vs, v = .ref a → Rd G.Hv a (.lst vs) → Reps K F ds vs
  | d, v => Rep K F d v
/-- how a value bears data: fixed for good, or as it stood when the def was called, its items fixed -/
def RK (K : PySem.W.Frag) (G : Gx) (F : Hp) : Bool → D → V → Prop
  | true, d, v => Rep K F d v
  | false, d, v => Rep K G.Hv d v ∧ RI K G F d v
theorem RI.mono {K : PySem.W.Frag} {G : Gx} {F F' : Hp} {d : D} {v : V} (e : Ext F F') (h : RI K G F d v) : RI K G F' d v := by
  cases d with
  | lst ds => exact fun a vs h1 h2 => Reps.mono e _ _ (h a vs h1 h2)
  | _ => exact Rep.mono e _ _ (show Rep K F _ v from h)
theorem RK.mono {K : PySem.W.Frag} {G : Gx} {F F' : Hp} {k : Bool} {d : D} {v : V} (e : Ext F F') (h : RK K G F k d v) : RK K G F' k d v := by
  cases k with
  | true => exact Rep.mono e _ _ (show Rep K F d v from h)
  | false => exact ⟨h.1, h.2.mono e⟩
theorem RK.at {K : PySem.W.Frag} {G : Gx} {F : Hp} {k : Bool} {d : D} {v : V} (h : RK K G F k d v) : Rep K (G.at F k) d v := by
  cases k with
  | true => exact h
  | false => exact h.1
theorem RK.lst {K : PySem.W.Frag} {G : Gx} {F : Hp} {k : Bool} {ds : List D} {v : V} (h : RK K G F k (.lst ds) v) : ∃ a vs, v = .ref a ∧ Rd (G.at F k) a (.lst vs) ∧ Reps K F ds vs := by
  cases k with
  | true => exact rep_lst.mp h
  | false =>
    obtain ⟨a, vs, h1, h2, h3⟩ := rep_lst.mp h.1
    exact ⟨a, vs, h1, h2, h.2 a vs h1 h2⟩
theorem RK.non_lst {K : PySem.W.Frag} {G : Gx} {F : Hp} {k : Bool} {d : D} {v : V} (h : RK K G F k d v) (hd : ∀ ds, d ≠ .lst ds) : Rep K F d v := by
  cases k with
  | true => exact h
  | false =>
    have q := h.2
    cases d with
    | lst ds => exact absurd rfl (hd ds)
    | _ => exact q
theorem RK.tup {K : PySem.W.Frag} {G : Gx} {F : Hp} {k : Bool} {ds : List D} {v : V} (h : RK K G F k (.tup ds) v) : ∃ a vs, v = .ref a ∧ SqX K F a vs ∧ Reps K F ds vs :=
  rep_tup.mp (h.non_lst fun _ q => by cases q)
theorem rk_sc {K : PySem.W.Frag} {G : Gx} {F : Hp} {k : Bool} {d : D} {v : V} {p : Prop} (hd : ∀ ds, d ≠ .lst ds) (h : ∀ F, Rep K F d v ↔ p) : RK K G F k d v ↔ p := by
  cases k with
  | true => exact h F
  | false =>
    refine ⟨fun q => (h _).mp q.1, fun q => ⟨(h _).mpr q, ?_⟩⟩
    cases d with
    | lst ds => exact absurd rfl (hd ds)
    | _ => exact (h F).mpr q
theorem rk_non {K : PySem.W.Frag} {G : Gx} {F : Hp} {k : Bool} {v : V} : RK K G F k .non v ↔ v = .non := rk_sc (fun _ q => by cases q) fun _ => rep_non
theorem rk_bl {K : PySem.W.Frag} {G : Gx} {F : Hp} {k : Bool} {v : V} {b : Bool} : RK K G F k (.bl b) v ↔ v = .bl b := rk_sc (fun _ q => by cases q) fun _ => rep_bl
theorem rk_int {K : PySem.W.Frag} {G : Gx} {F : Hp} {k : Bool} {v : V} {i : Int} : RK K G F k (.int i) v ↔ v = .int i := rk_sc (fun _ q => by cases q) fun _ => rep_int
theorem rk_str {K : PySem.W.Frag} {G : Gx} {F : Hp} {k : Bool} {v : V} {s : Str} : RK K G F k (.str s) v ↔ v = .str s := rk_sc (fun _ q => by cases q) fun _ => rep_str
theorem rk_ty {K : PySem.W.Frag} {G : Gx} {F : Hp} {k : Bool} {v : V} {s : String} : RK K G F k (.ty s) v ↔ v = .ty s := rk_sc (fun _ q => by cases q) fun _ => rep_ty
/-- what is fixed may be seen as a view, where it stood at the call -/
theorem RK.of {K : PySem.W.Frag} {G : Gx} {F H : Hp} {k : Bool} {d : D} {v : V} (e1 : Ext F H) (e2 : Ext G.Hv H) (h : Rep K F d v) (g : Rep K (G.at F k) d v) : RK K G F k d v := by
  cases k with
  | true => exact h
  | false =>
    refine ⟨g, ?_⟩
    cases d with
    | lst ds =>
      intro a vs h1 h2
      obtain ⟨a', vs', q1, q2, q3⟩ := rep_lst.mp h
      rw [h1] at q1; cases q1
      cases rd_inj (e1.rd q2) (e2.rd h2)
      exact q3
    | _ => exact h
theorem RK.view {K : PySem.W.Frag} {G G' : Gx} {F : Hp} {k : Bool} {d : D} {v : V} (h : RK K G F k d v) (e : Ext (G.at F k) G'.Hv) : RK K G' F false d v := by
  refine ⟨Rep.mono e _ _ h.at, ?_⟩
  cases d with
  | lst ds =>
    intro a vs h1 h2
    obtain ⟨a', vs', q1, q2, q3⟩ := h.lst
    rw [h1] at q1; cases q1
    cases rd_inj (e.rd q2) h2
    exact q3
  | _ => exact h.non_lst fun _ q => by cases q
theorem RK.weak {K : PySem.W.Frag} {G G' : Gx} {F : Hp} {k : Bool} {d : D} {v : V} (h : RK K G F k d v) (e : Ext G.Hv G'.Hv) : RK K G' F k d v := by
  cases k with
  | true => exact h
  | false => exact h.view e
/-- the items of a list as they stand, and fixed -/
theorem Reps.both {K : PySem.W.Frag} {F H : Hp} : ∀ {ds : List D} {vs : List V}, Reps K F ds vs → Reps K H ds vs → ∀ {i : Nat} {d : D}, ds[i]? = some d → ∃ v, vs[i]? = some v ∧ Rep K F d v ∧ Rep K H d v := fun h g i d hd => by
  obtain ⟨v, h1, h2⟩ := h.getD hd
  obtain ⟨w, g1, g2⟩ := g.getD hd
  rw [h1] at g1; cases g1
  exact ⟨v, h1, h2, g2⟩
structure ER (K : PySem.W.Frag) (G : Gx) (F H : Hp) (σ : L2.St) (ρ : Env) : Prop where
  ext : Ext G.F0 F
  sub : Ext F H
  new : ∀ b o, F b = some o → G.F0 b = some o ∨ G.H0 b = none
  keep : Ext G.Hv H
  there : ∀ b o, G.H0 b = some o → ∃ u, H b = some u
  arg : ∀ (i : Nat), G.ms[i]? = some true → ∃ v, G.vs[i]? = some v ∧ σ[i]? = some (some v)
  val : ∀ (i : Nat) k d, ρ[i]? = some (some (.v k d)) → ∃ v, σ[i]? = some (some v) ∧ RK K G F k d v
  own : ∀ (i : Nat) ds, ρ[i]? = some (some (.own ds)) → ∃ a vs, σ[i]? = some (some (.ref a)) ∧ H a = some (.lst vs) ∧ F a = none ∧ (G.H0 a = none ∨ G.ms[i]? = some true) ∧ Reps K F ds vs
  inj : ∀ (i j : Nat) a ds es, i ≠ j → ρ[i]? = some (some (.own ds)) → ρ[j]? = some (some (.own es)) → σ[i]? = some (some (.ref a)) → σ[j]? = some (some (.ref a)) → False
  len : σ.length = ρ.length
/-- how a value bears a slot: data, or a new list that nobody else holds -/
def SR (K : PySem.W.Frag) (G : Gx) (F H : Hp) (σ : L2.St) (ρ : Env) : Slot → V → Prop
  | .v k d, v => RK K G F k d v
  | .own ds, v => ∃ a vs, v = .ref a ∧ H a = some (.lst vs) ∧ F a = none ∧ G.H0 a = none ∧ Reps K F ds vs ∧ ∀ (i : Nat) es, ρ[i]? = some (some (.own es)) → σ[i]? ≠ some (some (.ref a))
def tD (K : PySem.W.Frag) (G : Gx) (ρ ρ' : Env) (r : Slot) : TE := fun σ H Q => ∃ F, ER K G F H σ ρ ∧ ∀ F' H' v, Ext F F' → ER K G F' H' σ ρ' → SR K G F' H' σ ρ' r v → Q v H'
def tDT (K : PySem.W.Frag) (G : Gx) (ρ ρ' : Env) (b : Bool) : TT := fun σ H Q => ∃ F, ER K G F H σ ρ ∧ ∀ F' H', Ext F F' → ER K G F' H' σ ρ' → Q b H'
abbrev ED (X : Cx) (G : Gx) (e : Expr) (ρ ρ' : Env) (r : Slot) : Prop := PE X e (tD X.K G ρ ρ' r)
abbrev ET (X : Cx) (G : Gx) (e : Expr) (ρ ρ' : Env) (b : Bool) : Prop := PT X e (tDT X.K G ρ ρ' b)
abbrev EW (X : Cx) (G : Gx) (e : Expr) (ρ ρ' : Env) (b : Bool) : Prop := PW X e (tDT X.K G ρ ρ' b)
inductive Out where
  | nx (ρ : Env) | ret (r : Slot) (ρ : Env) | bk (ρ : Env) | ct (ρ : Env)
def tS (K : PySem.W.Frag) (G : Gx) (ρ : Env) (P : Out → Prop) : TS := fun D σ H => ∃ F, ER K G F H σ ρ ∧
  (∀ ρ' F' H' σ', P (.nx ρ') → Ext F F' → ER K G F' H' σ' ρ' → D.nx σ' H') ∧
  (∀ r ρ' F' H' σ' v, P (.ret r ρ') → Ext F F' → ER K G F' H' σ' ρ' → SR K G F' H' σ' ρ' r v → D.rt v H') ∧
  (∀ ρ' F' H' σ', P (.bk ρ') → Ext F F' → ER K G F' H' σ' ρ' → D.bk σ' H') ∧
  (∀ ρ' F' H' σ', P (.ct ρ') → Ext F F' → ER K G F' H' σ' ρ' → D.ct σ' H')
abbrev SD (X : Cx) (G : Gx) (st : Stmt) (ρ : Env) (P : Out → Prop) : Prop := PS X st (tS X.K G ρ P)
abbrev BD (X : Cx) (G : Gx) (sts : List Stmt) (ρ : Env) (P : Out → Prop) : Prop := PSs X sts (tS X.K G ρ P)
theorem pe_mono {X : Cx} {e : Expr} {t t' : TE} (h : PE X e t) (i : ∀ σ H Q, t' σ H Q → t σ H Q) : PE X e t' := ⟨fun pins s σ H Q I q => h.run pins s σ H Q I (i σ H Q q)⟩
theorem pt_mono {X : Cx} {e : Expr} {t t' : TT} (h : PT X e t) (i : ∀ σ H Q, t' σ H Q → t σ H Q) : PT X e t' := ⟨fun pins s σ H Q I q => h.run pins s σ H Q I (i σ H Q q)⟩
theorem pw_mono {X : Cx} {e : Expr} {t t' : TT} (h : PW X e t) (i : ∀ σ H Q, t' σ H Q → t σ H Q) : PW X e t' := ⟨fun wh pins s σ H Q I q => h.run wh pins s σ H Q I (i σ H Q q)⟩
theorem pa_mono {X : Cx} {es : List Expr} {t t' : TA} (h : PA X es t) (i : ∀ σ H Q, t' σ H Q → t σ H Q) : PA X es t' := ⟨fun p pins s σ H Q I q => h.run p pins s σ H Q I (i σ H Q q)⟩
theorem ps_mono {X : Cx} {st : Stmt} {t t' : TS} (h : PS X st t) (i : ∀ D σ H, t' D σ H → t D σ H) : PS X st t' := ⟨fun pins s σ H D I q => h.run pins s σ H D I (i D σ H q)⟩
theorem pss_mono {X : Cx} {st : List Stmt} {t t' : TS} (h : PSs X st t) (i : ∀ D σ H, t' D σ H → t D σ H) : PSs X st t' := ⟨fun pins s σ H D I q => h.run pins s σ H D I (i D σ H q)⟩
/-- many readings at once -/
theorem pss_any {X : Cx} {st : List Stmt} {ι : Type} {p : ι → Prop} {t : ι → TS} (h : ∀ i, p i → PSs X st (t i)) : PSs X st (fun D σ H => ∃ i, p i ∧ t i D σ H) :=
  ⟨fun pins s σ H D I ⟨i, hp, q⟩ => (h i hp).run pins s σ H D I q⟩
theorem pe_any {X : Cx} {e : Expr} {ι : Type} {p : ι → Prop} {t : ι → TE} (h : ∀ i, p i → PE X e (t i)) : PE X e (fun σ H Q => ∃ i, p i ∧ t i σ H Q) :=
  ⟨fun pins s σ H Q I ⟨i, hp, q⟩ => (h i hp).run pins s σ H Q I q⟩
theorem pt_any {X : Cx} {e : Expr} {ι : Type} {p : ι → Prop} {t : ι → TT} (h : ∀ i, p i → PT X e (t i)) : PT X e (fun σ H Q => ∃ i, p i ∧ t i σ H Q) :=
  ⟨fun pins s σ H Q I ⟨i, hp, q⟩ => (h i hp).run pins s σ H Q I q⟩
section
variable {X : Cx} {G : Gx} {ρ ρ' : Env} {r : Slot} {d : D} {ds : List D} {K : PySem.W.Frag} {F F' H H' : Hp} {σ : L2.St} {v : V} {k : Bool}
theorem at_ext (e : Ext F F') : Ext (G.at F k) (G.at F' k) := by
  cases k
  · exact Ext.refl _
  · exact e
theorem ER.atH (E : ER K G F H σ ρ) : Ext (G.at F k) H := by
  cases k
  · exact E.keep
  · exact E.sub
theorem ER.h0 {p : Addr} (E : ER K G F H σ ρ) (hp : H p = none) : G.H0 p = none := by
  cases z : G.H0 p with
  | none => rfl
  | some w =>
    obtain ⟨u, hu⟩ := E.there p w z
    rw [hp] at hu; cases hu
/-- a new list's address may become fixed -/
theorem ER.fix {a : Addr} {vs : List V} (E : ER K G F H σ ρ) (ha : H a = some (.lst vs)) (hF : F a = none) (h0 : G.H0 a = none) (ne : ∀ (i : Nat) es, ρ[i]? = some (some (.own es)) → σ[i]? ≠ some (some (.ref a))) : ER K G (upd F a (.lst vs)) H σ ρ where
  ext := E.ext.trans (Ext.lay hF)
  sub := fun b o q => by
    by_cases hb : b = a
    · subst hb; rw [upd_same] at q; rw [ha]; exact q
    · rw [upd_ne hb] at q; exact E.sub b o q
  new := fun b o q => by
    by_cases hb : b = a
    · subst hb; exact .inr h0
    · rw [upd_ne hb] at q; exact E.new b o q
  keep := E.keep
  there := E.there
  arg := E.arg
  val := fun i k d hi => by
    obtain ⟨v, h1, h2⟩ := E.val i k d hi
    exact ⟨v, h1, h2.mono (Ext.lay hF)⟩
  own := fun i es hi => by
    obtain ⟨a', vs', h1, h2, h3, h4, h5⟩ := E.own i es hi
    have na : a' ≠ a := fun q => ne i es hi (by rw [h1, q])
    exact ⟨a', vs', h1, h2, by rw [upd_ne na]; exact h3, h4, Reps.mono (Ext.lay hF) _ _ h5⟩
  inj := E.inj
  len := E.len
/-- something new is laid into the heap, and fixed -/
theorem ER.lay {p : Addr} {o : HO} (E : ER K G F H σ ρ) (hp : H p = none) : ER K G (upd F p o) (upd H p o) σ ρ where
  ext := E.ext.trans (Ext.lay (E.sub.free hp))
  sub := fun b u q => by
    by_cases hb : b = p
    · subst hb; rw [upd_same] at q ⊢; exact q
    · rw [upd_ne hb] at q ⊢; exact E.sub b u q
  new := fun b u q => by
    by_cases hb : b = p
    · subst hb; exact .inr (E.h0 hp)
    · rw [upd_ne hb] at q; exact E.new b u q
  keep := E.keep.updR (E.keep.free hp)
  there := fun b u q => by
    obtain ⟨w, hw⟩ := E.there b u q
    exact ⟨w, by rw [upd_ne (ne_of_none hw hp)]; exact hw⟩
  arg := E.arg
  val := fun i k d hi => by
    obtain ⟨v, h1, h2⟩ := E.val i k d hi
    exact ⟨v, h1, h2.mono (Ext.lay (E.sub.free hp))⟩
  own := fun i es hi => by
    obtain ⟨a', vs', h1, h2, h3, h4, h5⟩ := E.own i es hi
    have na : a' ≠ p := ne_of_none h2 hp
    exact ⟨a', vs', h1, by rw [upd_ne na]; exact h2, by rw [upd_ne na]; exact h3, h4, Reps.mono (Ext.lay (E.sub.free hp)) _ _ h5⟩
  inj := E.inj
  len := E.len
/-- new things in the heap, of which nothing is said -/
theorem ER.lay0 {p : Addr} {o : HO} (E : ER K G F H σ ρ) (hp : H p = none) : ER K G F (upd H p o) σ ρ where
  ext := E.ext
  sub := E.sub.updR (E.sub.free hp)
  new := E.new
  keep := E.keep.updR (E.keep.free hp)
  there := fun b u q => by
    obtain ⟨w, hw⟩ := E.there b u q
    exact ⟨w, by rw [upd_ne (ne_of_none hw hp)]; exact hw⟩
  arg := E.arg
  val := E.val
  own := fun i es hi => by
    obtain ⟨a', vs', h1, h2, h3, h4, h5⟩ := E.own i es hi
    exact ⟨a', vs', h1, by rw [upd_ne (ne_of_none h2 hp)]; exact h2, h3, h4, h5⟩
  inj := E.inj
  len := E.len
/-- a new list that nobody holds yet -/
theorem ER.newL {p : Addr} {vs : List V} (E : ER K G F H σ ρ) (hp : H p = none) (hr : Reps K F ds vs) : SR K G F (upd H p (.lst vs)) σ ρ (.own ds) (.ref p) :=
  ⟨p, vs, rfl, upd_same, E.sub.free hp, E.h0 hp, hr, fun i es hi hs => by
    obtain ⟨a', vs', h1, h2, _⟩ := E.own i es hi
    rw [h1] at hs; cases hs
    rw [h2] at hp; cases hp⟩
/-- a list of the def's own changes its items -/
theorem ER.write {a : Addr} {ws : List V} {i : Nat} {es : List D} (E : ER K G F H σ ρ) (hi : ρ[i]? = some (some (.own ds))) (ha : σ[i]? = some (some (.ref a))) (hr : Reps K F es ws) : ER K G F (upd H a (.lst ws)) σ (ρ.set i (some (.own es))) := by
  obtain ⟨a', vs', g1, g2, g3, g4, g5⟩ := E.own i ds hi
  rw [ha] at g1; cases g1
  have hil : i < ρ.length := (List.getElem?_eq_some_iff.mp hi).1
  have oth : ∀ (j : Nat) x, (ρ.set i (some (.own es)))[j]? = some x → (i = j ∧ x = some (.own es)) ∨ (i ≠ j ∧ ρ[j]? = some x) := fun j x h => by
    rw [List.getElem?_set] at h
    by_cases q : i = j
    · subst q
      rw [if_pos rfl, if_pos hil] at h
      exact .inl ⟨rfl, (Option.some.inj h).symm⟩
    · rw [if_neg q] at h; exact .inr ⟨q, h⟩
  refine ⟨E.ext, E.sub.updR g3, E.new, ?_, ?_, E.arg, ?_, ?_, ?_, ?_⟩
  · refine E.keep.updR ?_
    rcases g4 with h | h
    · cases q : G.Hv a with
      | none => rfl
      | some o => rw [Gx.hv_h0 q] at h; cases h
    · cases q : G.Hv a with
      | none => rfl
      | some o =>
        exfalso
        obtain ⟨v, z, g⟩ := E.arg i h
        rw [ha] at g; cases g
        exact Gx.hv_ne q h z
  · intro b o q
    obtain ⟨w, hw⟩ := E.there b o q
    by_cases hb : b = a
    · subst hb; exact ⟨_, upd_same⟩
    · exact ⟨w, by rw [upd_ne hb]; exact hw⟩
  · intro j k d hj
    rcases oth j _ hj with ⟨_, h⟩ | ⟨_, h⟩
    · cases h
    · exact E.val j k d h
  · intro j us hj
    rcases oth j _ hj with ⟨q, h⟩ | ⟨q, h⟩
    · injection h with h; injection h with h; subst q; subst h
      exact ⟨a, ws, ha, upd_same, g3, g4, hr⟩
    · obtain ⟨b, vb, k1, k2, k3, k4, k5⟩ := E.own j us h
      have nb : b ≠ a := fun z => by subst z; exact E.inj i j b ds us q hi h ha k1
      exact ⟨b, vb, k1, by rw [upd_ne nb]; exact k2, k3, k4, k5⟩
  · intro j l b us ws' ne h1 h2 s1 s2
    rcases oth j _ h1 with ⟨q, h⟩ | ⟨q, h⟩
    · subst q
      rcases oth l _ h2 with ⟨q', h'⟩ | ⟨q', h'⟩
      · exact ne q'
      · exact E.inj i l b ds ws' ne hi h' s1 s2
    · rcases oth l _ h2 with ⟨q', h'⟩ | ⟨q', h'⟩
      · subst q'
        exact E.inj j i b us ds ne h hi s1 s2
      · exact E.inj j l b us ws' ne h h' s1 s2
  · rw [List.length_set]; exact E.len
end
end DL
/-! DL1: expressions. -/
namespace DL
open PySem L2
section
variable {X : Cx} {G : Gx} {e a b c : Expr} {ρ ρ' ρ0 ρ1 ρ2 ρ3 : Env} {r z : Slot} {d x y w : D} {ds es : List D} {K : PySem.W.Frag} {F F' H H' : Hp} {σ : L2.St} {v u : V} {pos : Pos} {k k1 k2 : Bool}
theorem getset_ne {α : Type} {l : List α} {i j : Nat} {x : α} (h : i ≠ j) : (l.set i x)[j]? = l[j]? := by
  rw [List.getElem?_set]; rw [if_neg h]
theorem getset_eq {α : Type} {l : List α} {i : Nat} {x y : α} (h : (l.set i x)[i]? = some y) : y = x := by
  rw [List.getElem?_set] at h
  by_cases q : i < l.length
  · simp [q] at h; exact h.symm
  · simp [q] at h
theorem getset_or {α : Type} {l : List α} {i j : Nat} {x y : α} (h : (l.set i x)[j]? = some y) : (i = j ∧ y = x) ∨ (i ≠ j ∧ l[j]? = some y) := by
  by_cases q : i = j
  · subst q; exact .inl ⟨rfl, getset_eq h⟩
  · rw [getset_ne q] at h; exact .inr ⟨q, h⟩
/-- what is no longer known of a slot -/
theorem ER.drop (E : ER K G F H σ ρ) (i : Nat) : ER K G F H σ (ρ.set i none) where
  ext := E.ext
  sub := E.sub
  new := E.new
  keep := E.keep
  there := E.there
  arg := E.arg
  val := fun j k d h => by
    rcases getset_or h with ⟨_, h⟩ | ⟨_, h⟩
    · cases h
    · exact E.val j k d h
  own := fun j d h => by
    rcases getset_or h with ⟨_, h⟩ | ⟨_, h⟩
    · cases h
    · exact E.own j d h
  inj := fun j k a ds es ne h1 h2 => by
    rcases getset_or h1 with ⟨_, h1⟩ | ⟨_, h1⟩
    · cases h1
    · rcases getset_or h2 with ⟨_, h2⟩ | ⟨_, h2⟩
      · cases h2
      · exact E.inj j k a ds es ne h1 h2
  len := by rw [List.length_set]; exact E.len
/-- a slot that bears fixed data -/
theorem ER.say (E : ER K G F H σ ρ) {i : Nat} (hv : σ[i]? = some (some v)) (hr : RK K G F k d v) : ER K G F H σ (ρ.set i (some (.v k d))) where
  ext := E.ext
  sub := E.sub
  new := E.new
  keep := E.keep
  there := E.there
  arg := E.arg
  val := fun j k d h => by
    rcases getset_or h with ⟨q, h⟩ | ⟨_, h⟩
    · injection h with h'; injection h' with h1 h2; subst q; subst h1; subst h2; exact ⟨v, hv, hr⟩
    · exact E.val j k d h
  own := fun j d h => by
    rcases getset_or h with ⟨_, h⟩ | ⟨_, h⟩
    · cases h
    · exact E.own j d h
  inj := fun j k a ds es ne h1 h2 => by
    rcases getset_or h1 with ⟨_, h1⟩ | ⟨_, h1⟩
    · cases h1
    · rcases getset_or h2 with ⟨_, h2⟩ | ⟨_, h2⟩
      · cases h2
      · exact E.inj j k a ds es ne h1 h2
  len := by rw [List.length_set]; exact E.len
theorem sr_val (h : Rep K F d v) : SR K G F H σ ρ (.val d) v := h
theorem sr_int {i : Int} : SR K G F H σ ρ (.v k (.int i)) (.int i) := (rk_int (K := K) (G := G) (F := F)).mpr rfl
theorem sr_bl {i : Bool} : SR K G F H σ ρ (.v k (.bl i)) (.bl i) := (rk_bl (K := K) (G := G) (F := F)).mpr rfl
theorem sr_str {i : Str} : SR K G F H σ ρ (.v k (.str i)) (.str i) := (rk_str (K := K) (G := G) (F := F)).mpr rfl
theorem sr_non : SR K G F H σ ρ (.v k .non) .non := (rk_non (K := K) (G := G) (F := F)).mpr rfl
theorem of_int {i : Int} (h : SR K G F H σ ρ (.v k (.int i)) v) : v = .int i := (rk_int (K := K) (G := G) (F := F)).mp h
theorem of_bl {i : Bool} (h : SR K G F H σ ρ (.v k (.bl i)) v) : v = .bl i := (rk_bl (K := K) (G := G) (F := F)).mp h
theorem of_str {i : Str} (h : SR K G F H σ ρ (.v k (.str i)) v) : v = .str i := (rk_str (K := K) (G := G) (F := F)).mp h
theorem of_non (h : SR K G F H σ ρ (.v k .non) v) : v = .non := (rk_non (K := K) (G := G) (F := F)).mp h
/-! ### names, constants -/
theorem ed_var {i : Nat} {n : Str} (hN : X.N[i]? = some n) (hv : Vis X.env.scope n) (h : ρ[i]? = some (some (.v k d))) (hd : (n == ("__debug__" : Str)) = false := by decide) (hcd : (n == ("__classdict__" : Str)) = false := by decide) : ED X G (.Name n pos) ρ ρ (.v k d) :=
  pe_mono (pe_var hN hv hd hcd) fun σ H Q ⟨F, E, q⟩ => by
    obtain ⟨v, h1, h2⟩ := E.val i k d h
    exact ⟨v, h1, q F H v (Ext.refl _) E h2⟩
/-- a list of the def's own becomes fixed, as it is read -/
theorem ed_varF {i : Nat} {n : Str} (hN : X.N[i]? = some n) (hv : Vis X.env.scope n) (h : ρ[i]? = some (some (.own ds))) (hm : G.ms[i]? ≠ some true) (hd : (n == ("__debug__" : Str)) = false := by decide) (hcd : (n == ("__classdict__" : Str)) = false := by decide) : ED X G (.Name n pos) ρ (ρ.set i (some (.val (.lst ds)))) (.val (.lst ds)) :=
  pe_mono (pe_var hN hv hd hcd) fun σ H Q ⟨F, E, k⟩ => by
    obtain ⟨a, vs, h1, h2, h3, h4, h5⟩ := E.own i ds h
    have h0 : G.H0 a = none := h4.resolve_right hm
    have E1 := (E.drop i).fix (a := a) h2 h3 h0 fun j es hj hs => by
      rcases getset_or hj with ⟨_, hj⟩ | ⟨ne, hj⟩
      · cases hj
      · exact E.inj i j a ds es ne h hj h1 hs
    have hr : Rep X.K (upd F a (.lst vs)) (.lst ds) (.ref a) := by
      rw [rep_lst]; exact ⟨a, vs, rfl, .inl upd_same, Reps.mono (Ext.lay h3) _ _ h5⟩
    have E2 := E1.say (k := true) (d := .lst ds) (i := i) h1 hr
    rw [List.set_set] at E2
    exact ⟨_, h1, k _ H _ (Ext.lay h3) E2 hr⟩
theorem ed_c {v : V} (h : PE X e (tC v)) (hr : ∀ F, Rep X.K F d v) : ED X G e ρ ρ (.val d) := pe_mono h fun σ H Q ⟨F, E, k⟩ => k F H v (Ext.refl _) E (sr_val (hr F))
theorem ed_int {i j pos} : ED X G (.Constant (.int i) j pos) ρ ρ (.val (.int i)) := ed_c pe_int fun _ => rep_int.mpr rfl
theorem ed_bl {i j pos} : ED X G (.Constant (.bool i) j pos) ρ ρ (.val (.bl i)) := ed_c pe_bl fun _ => rep_bl.mpr rfl
theorem ed_non {j pos} : ED X G (.Constant .none j pos) ρ ρ (.val .non) := ed_c pe_non fun _ => rep_non.mpr rfl
theorem ed_str {i j pos} : ED X G (.Constant (.str i) j pos) ρ ρ (.val (.str i)) := ed_c pe_str fun _ => rep_str.mpr rfl
theorem ed_glob {n : Str} {v : V} {u : Value} (hg : Gl X n) (hm : X.mg n = some u) (r : RelV v u) (hr : ∀ F, Rep X.K F d v) (hd : (n == ("__debug__" : Str)) = false := by decide) : ED X G (.Name n pos) ρ ρ (.val d) := ed_c (pe_glob hg hm r hd) hr
theorem ed_ty {n : Str} {T : String} (hg : Gl X n) (hm : X.mg n = none) (hv : bootBuiltins n = some (.type T)) (hn : n ≠ "__name__" := by decide) (hd : (n == ("__debug__" : Str)) = false := by decide) : ED X G (.Name n pos) ρ ρ (.val (.ty T)) :=
  ed_c (v := .ty T) (pe_bltn hg hm hv rfl hn hd) fun _ => rep_ty.mpr rfl
/-- a new list becomes fixed -/
theorem ed_fix (h : ED X G e ρ ρ' (.own ds)) : ED X G e ρ ρ' (.val (.lst ds)) := pe_mono h fun σ H Q ⟨F, E, k⟩ => ⟨F, E, fun F' H' v e1 E1 r1 => by
  obtain ⟨a, vs, rfl, h2, h3, h4, h5, h6⟩ := r1
  exact k (upd F' a (.lst vs)) H' _ (e1.trans (Ext.lay h3)) (E1.fix h2 h3 h4 h6) (rep_lst.mpr ⟨a, vs, rfl, .inl upd_same, Reps.mono (Ext.lay h3) _ _ h5⟩)⟩
theorem ed_is {z' : Slot} (h : ED X G e ρ ρ' z) (q : z = z') : ED X G e ρ ρ' z' := q ▸ h
/-! ### operators: by what the values are -/
def VR (K : PySem.W.Frag) (G : Gx) (ρ : Env) (r : R2) (k1 : Bool) (x : D) (k2 : Bool) (y : D) (z : Slot) : Prop :=
  ∀ σ F H v u Q, ER K G F H σ ρ → RK K G F k1 x v → RK K G F k2 y u → (∀ F' H' w, Ext F F' → ER K G F' H' σ ρ → SR K G F' H' σ ρ z w → Q w H') → r v u H Q
theorem ed_bin {r : R2} (ho : ∀ {ta tb}, PE X a ta → PE X b tb → PE X e (tOp r ta tb)) (ha : ED X G a ρ ρ1 (.v k1 x)) (hb : ED X G b ρ1 ρ2 (.v k2 y)) (hr : VR X.K G ρ2 r k1 x k2 y z) : ED X G e ρ ρ2 z :=
  pe_mono (ho ha hb) fun σ H Q ⟨F, E, k⟩ => ⟨F, E, fun F1 H1 v e1 E1 r1 => ⟨F1, E1, fun F2 H2 u e2 E2 r2 =>
    hr σ F2 H2 v u Q E2 (r1.mono e2) r2 fun F' H' w e3 E3 s3 => k F' H' w (e1.trans (e2.trans e3)) E3 s3⟩⟩
theorem vr_I0 {g : Int → Int → V} {i j : Int} {h : D} (q : ∀ F, Rep K F h (g i j)) : VR K G ρ (rI0 g) k1 (.int i) k2 (.int j) (.val h) := fun σ F H v u Q E hv hu k => by
  rw [rk_int] at hv hu
  exact ⟨i, j, hv, hu, k F H _ (Ext.refl _) E (sr_val (q F))⟩
theorem vr_I {C : Int → Int → Prop} {g : Int → Int → V} {i j : Int} {h : D} (c : C i j) (q : ∀ F, Rep K F h (g i j)) : VR K G ρ (rI C g) k1 (.int i) k2 (.int j) (.val h) := fun σ F H v u Q E hv hu k => by
  rw [rk_int] at hv hu
  exact ⟨i, j, hv, hu, c, k F H _ (Ext.refl _) E (sr_val (q F))⟩
theorem Rep.lstH {v : V} (s : Ext F H) (h : Rep K F (.lst ds) v) : ∃ a vs, v = .ref a ∧ Rd H a (.lst vs) ∧ Reps K F ds vs := by
  rw [rep_lst] at h
  obtain ⟨a, vs, h1, h2, h3⟩ := h
  exact ⟨a, vs, h1, s.rd h2, h3⟩
theorem Rep.tupH {v : V} (s : Ext F H) (h : Rep K F (.tup ds) v) : ∃ a vs, v = .ref a ∧ SqT K H a vs ∧ Reps K F ds vs := by
  rw [rep_tup] at h
  obtain ⟨a, vs, h1, h2, h3⟩ := h
  exact ⟨a, vs, h1, s.sqT h2.1, h3⟩
/-- list + list, also of frozen ones -/
def rCatR : R2 := fun x y H Q => ∃ l b xs zs, x = .ref l ∧ y = .ref b ∧ Rd H l (.lst xs) ∧ Rd H b (.lst zs) ∧ xs.length + zs.length ≤ sizeLine ∧ ∀ p, H p = none → Q (.ref p) (upd H p (.lst (xs ++ zs)))
theorem op_catR {X : Cx} : OpR X (binaryOp .Add) rCatR := by
  intro pins s σ H x y v u Q I rx ry h
  obtain ⟨l, b, xs, zs, rfl, rfl, hH, hB, hz, q⟩ := h
  cases rx; cases ry
  obtain ⟨z1, its, n, r, e⟩ := (show ObjOk X.prog X.w H s.heap l (.lst xs) from hH.ok I.hok)
  obtain ⟨z2, its2, n2, r2, e2⟩ := (show ObjOk X.prog X.w H s.heap b (.lst zs) from hB.ok I.hok)
  have l1 := r.length
  have l2 := r2.length
  refine PySem.P.add_list e e2 ?_ (by rw [List.size_toArray, List.size_toArray]; omega)
  rw [show its.toArray ++ its2.toArray = (its ++ its2).toArray by simp]
  exact ⟨.ref _, _, I.lnew (t' := s.toks) (r.append r2) (by rw [List.length_append]; omega), rfl, q _ I.fresh⟩
inductive AddD : Slot → Slot → Slot → Prop where
  | int {k1 k2 : Bool} {i j : Int} : AddD (.v k1 (.int i)) (.v k2 (.int j)) (.val (.int (i + j)))
  | str {k1 k2 : Bool} {i j : Str} (h : i.length + j.length ≤ sizeLine) : AddD (.v k1 (.str i)) (.v k2 (.str j)) (.val (.str (i ++ j)))
  | lst {k1 k2 : Bool} {i j : List D} (h : i.length + j.length ≤ sizeLine) : AddD (.v k1 (.lst i)) (.v k2 (.lst j)) (.own (i ++ j))
theorem ed_add {sx sy : Slot} (ha : ED X G a ρ ρ1 sx) (hb : ED X G b ρ1 ρ2 sy) (h : AddD sx sy z) : ED X G (.BinOp a .Add b pos) ρ ρ2 z := by
  cases h with
  | int => exact ed_bin (fun h1 h2 => pe_op op_add h1 h2) ha hb (vr_I0 fun _ => rep_int.mpr rfl)
  | str h =>
    exact ed_bin (fun h1 h2 => pe_op op_add_str h1 h2) ha hb fun σ F H v u Q E hv hu k => by
      rw [rk_str] at hv hu
      exact ⟨_, _, hv, hu, h, k F H _ (Ext.refl _) E sr_str⟩
  | lst h =>
    exact ed_bin (fun h1 h2 => pe_op op_catR h1 h2) ha hb fun σ F H v u Q E hv hu k => by
      obtain ⟨p, vs, rfl, h2, h3⟩ := hv.lst
      obtain ⟨q, ws, rfl, g2, g3⟩ := hu.lst
      exact ⟨p, q, vs, ws, rfl, rfl, E.atH.rd h2, E.atH.rd g2, by rw [h3.length, g3.length]; exact h, fun n hn => k F _ _ (Ext.refl _) (E.lay0 hn) (E.newL hn (h3.append g3))⟩
theorem ed_sub {i j : Int} (ha : ED X G a ρ ρ1 (.v k1 (.int i))) (hb : ED X G b ρ1 ρ2 (.v k2 (.int j))) : ED X G (.BinOp a .Sub b pos) ρ ρ2 (.val (.int (i - j))) :=
  ed_bin (fun h1 h2 => pe_op op_sub h1 h2) ha hb (vr_I0 fun _ => rep_int.mpr rfl)
theorem ed_mul {i j : Int} (ha : ED X G a ρ ρ1 (.v k1 (.int i))) (hb : ED X G b ρ1 ρ2 (.v k2 (.int j))) (h : CMul i j) : ED X G (.BinOp a .Mult b pos) ρ ρ2 (.val (.int (i * j))) :=
  ed_bin (fun h1 h2 => pe_op op_mul h1 h2) ha hb (vr_I h fun _ => rep_int.mpr rfl)
theorem ed_fdiv {i j : Int} (ha : ED X G a ρ ρ1 (.v k1 (.int i))) (hb : ED X G b ρ1 ρ2 (.v k2 (.int j))) (h : CDiv i j) : ED X G (.BinOp a .FloorDiv b pos) ρ ρ2 (.val (.int (i / j))) :=
  ed_bin (fun h1 h2 => pe_op op_fdiv h1 h2) ha hb (vr_I h fun _ => rep_int.mpr rfl)
theorem ed_mod {i j : Int} (ha : ED X G a ρ ρ1 (.v k1 (.int i))) (hb : ED X G b ρ1 ρ2 (.v k2 (.int j))) (h : 0 < j) : ED X G (.BinOp a .Mod b pos) ρ ρ2 (.val (.int (i % j))) :=
  ed_bin (fun h1 h2 => pe_op op_mod h1 h2) ha hb (vr_I (C := fun _ j => 0 < j) h fun _ => rep_int.mpr rfl)
theorem ed_pow {i j : Int} (ha : ED X G a ρ ρ1 (.v k1 (.int i))) (hb : ED X G b ρ1 ρ2 (.v k2 (.int j))) (h : CPow i j) : ED X G (.BinOp a .Pow b pos) ρ ρ2 (.val (.int (i ^ j.toNat))) :=
  ed_bin (fun h1 h2 => pe_op op_pow h1 h2) ha hb (vr_I h fun _ => rep_int.mpr rfl)
theorem ed_neg {i : Int} (ha : ED X G a ρ ρ1 (.v k1 (.int i))) : ED X G (.UnaryOp .USub a pos) ρ ρ1 (.val (.int (-i))) :=
  pe_mono (pe_un un_neg ha) fun σ H Q ⟨F, E, k⟩ => ⟨F, E, fun F1 H1 v e1 E1 r1 => ⟨i, of_int r1, k F1 H1 _ e1 E1 sr_int⟩⟩
/-! ### comparisons -/
/-- a comparison of two data -/
inductive CmpD : CmpOp → D → D → Bool → Prop where
  | eqI {i j : Int} : CmpD .Eq (.int i) (.int j) (decide (i = j))
  | eqS {i j : Str} : CmpD .Eq (.str i) (.str j) (decide (i = j))
  | eqB {i j : Bool} : CmpD .Eq (.bl i) (.bl j) (decide (i = j))
  | neI {i j : Int} : CmpD .NotEq (.int i) (.int j) (!decide (i = j))
  | neS {i j : Str} : CmpD .NotEq (.str i) (.str j) (!decide (i = j))
  | neB {i j : Bool} : CmpD .NotEq (.bl i) (.bl j) (!decide (i = j))
  | ltI {i j : Int} : CmpD .Lt (.int i) (.int j) (decide (i < j))
  | leI {i j : Int} : CmpD .LtE (.int i) (.int j) (decide (i ≤ j))
  | gtI {i j : Int} : CmpD .Gt (.int i) (.int j) (decide (j < i))
  | geI {i j : Int} : CmpD .GtE (.int i) (.int j) (decide (j ≤ i))
theorem vcmp {op : CmpOp} {k : Bool} (h : CmpD op x y k) : ∃ r : R2, (∀ {X : Cx}, OpR X (compareOp op) r) ∧ ∀ K G ρ k1 k2, VR K G ρ r k1 x k2 y (.val (.bl k)) := by
  cases h with
  | @eqI i j =>
    exact ⟨rEq, fun {X} => op_eq, fun K G ρ k1 k2 σ F H v u Q E hv hu k => by
      rw [rk_int] at hv hu; subst hv; subst hu
      refine ⟨rfl, ?_⟩
      have e : decide (V.int i = V.int j) = decide (i = j) := by simp
      rw [e]; exact k F H _ (Ext.refl _) E sr_bl⟩
  | @eqS i j =>
    exact ⟨rEq, fun {X} => op_eq, fun K G ρ k1 k2 σ F H v u Q E hv hu k => by
      rw [rk_str] at hv hu; subst hv; subst hu
      refine ⟨rfl, ?_⟩
      have e : decide (V.str i = V.str j) = decide (i = j) := by simp
      rw [e]; exact k F H _ (Ext.refl _) E sr_bl⟩
  | @eqB i j =>
    exact ⟨rEq, fun {X} => op_eq, fun K G ρ k1 k2 σ F H v u Q E hv hu k => by
      rw [rk_bl] at hv hu; subst hv; subst hu
      refine ⟨rfl, ?_⟩
      have e : decide (V.bl i = V.bl j) = decide (i = j) := by simp
      rw [e]; exact k F H _ (Ext.refl _) E sr_bl⟩
  | @neI i j =>
    exact ⟨rNe, fun {X} => op_ne, fun K G ρ k1 k2 σ F H v u Q E hv hu k => by
      rw [rk_int] at hv hu; subst hv; subst hu
      refine ⟨rfl, ?_⟩
      have e : decide (V.int i = V.int j) = decide (i = j) := by simp
      rw [e]; exact k F H _ (Ext.refl _) E sr_bl⟩
  | @neS i j =>
    exact ⟨rNe, fun {X} => op_ne, fun K G ρ k1 k2 σ F H v u Q E hv hu k => by
      rw [rk_str] at hv hu; subst hv; subst hu
      refine ⟨rfl, ?_⟩
      have e : decide (V.str i = V.str j) = decide (i = j) := by simp
      rw [e]; exact k F H _ (Ext.refl _) E sr_bl⟩
  | @neB i j =>
    exact ⟨rNe, fun {X} => op_ne, fun K G ρ k1 k2 σ F H v u Q E hv hu k => by
      rw [rk_bl] at hv hu; subst hv; subst hu
      refine ⟨rfl, ?_⟩
      have e : decide (V.bl i = V.bl j) = decide (i = j) := by simp
      rw [e]; exact k F H _ (Ext.refl _) E sr_bl⟩
  | ltI => exact ⟨_, fun {X} => op_lt, fun K G ρ k1 k2 => vr_I0 fun _ => rep_bl.mpr rfl⟩
  | leI => exact ⟨_, fun {X} => op_le, fun K G ρ k1 k2 => vr_I0 fun _ => rep_bl.mpr rfl⟩
  | gtI => exact ⟨_, fun {X} => op_gt, fun K G ρ k1 k2 => vr_I0 fun _ => rep_bl.mpr rfl⟩
  | geI => exact ⟨_, fun {X} => op_ge, fun K G ρ k1 k2 => vr_I0 fun _ => rep_bl.mpr rfl⟩
theorem ed_cmp {op : CmpOp} {k : Bool} (ha : ED X G a ρ ρ1 (.v k1 x)) (hb : ED X G b ρ1 ρ2 (.v k2 y)) (h : CmpD op x y k) (hm : behindInMarks op b = false := by first | exact nomark _ | rfl) : ED X G (.Compare a [op] [b] pos) ρ ρ2 (.val (.bl k)) := by
  obtain ⟨r, ho, hr⟩ := vcmp h
  exact ed_bin (fun h1 h2 => pe_cmpR ho h1 h2 hm) ha hb (hr _ _ _ _ _)
theorem et_bin {r : R2} {k : Bool} (ho : ∀ {ta tb}, PE X a ta → PE X b tb → PT X e (tTest (tOp r ta tb))) (ha : ED X G a ρ ρ1 (.v k1 x)) (hb : ED X G b ρ1 ρ2 (.v k2 y)) (hr : VR X.K G ρ2 r k1 x k2 y (.val (.bl k))) : ET X G e ρ ρ2 k :=
  pt_mono (ho ha hb) fun σ H Q ⟨F, E, q⟩ => ⟨F, E, fun F1 H1 v e1 E1 r1 => ⟨F1, E1, fun F2 H2 u e2 E2 r2 =>
    hr σ F2 H2 v u _ E2 (r1.mono e2) r2 fun F' H' w e3 E3 s3 => ⟨k, of_bl s3, q F' H' (e1.trans (e2.trans e3)) E3⟩⟩⟩
theorem et_cmp {op : CmpOp} {k : Bool} (ha : ED X G a ρ ρ1 (.v k1 x)) (hb : ED X G b ρ1 ρ2 (.v k2 y)) (h : CmpD op x y k) (hm : behindInMarks op b = false := by first | exact nomark _ | rfl) : ET X G (.Compare a [op] [b] pos) ρ ρ2 k := by
  obtain ⟨r, ho, hr⟩ := vcmp h
  exact et_bin (fun h1 h2 => pt_cmpR ho h1 h2 hm) ha hb (hr _ _ _ _ _)
theorem et_val {k : Bool} (ha : ED X G a ρ ρ1 (.v k1 (.bl k))) (he : ∀ whole, isTrue a X.env whole = (do let v ← whole; standAt a.pos; holding [v] (truthy v)) := by intro _; rfl) : ET X G a ρ ρ1 k :=
  pt_mono (pt_val ha he) fun σ H Q ⟨F, E, q⟩ => ⟨F, E, fun F1 H1 v e1 E1 r1 => ⟨k, of_bl r1, q F1 H1 e1 E1⟩⟩
theorem et_not {k : Bool} (ha : ET X G a ρ ρ1 k) : ET X G (.UnaryOp .Not a pos) ρ ρ1 (!k) :=
  pt_mono (pt_not ha) fun σ H Q ⟨F, E, q⟩ => ⟨F, E, fun F1 H1 e1 E1 => q F1 H1 e1 E1⟩
theorem ET.of {k : Bool} (h : EW X G a ρ ρ1 k) : ET X G a ρ ρ1 k := h.pt
variable {rest : List Expr} {k l : Bool}
theorem ew_and1 (ha : ET X G a ρ ρ1 k) : EW X G (.BoolOp .And [a] pos) ρ ρ1 k := pw_and1 ha
theorem ew_or1 (ha : ET X G a ρ ρ1 k) : EW X G (.BoolOp .Or [a] pos) ρ ρ1 k := pw_or1 ha
/-- the parts behind the first leave the frame as it is -/
theorem ew_and (ha : ET X G a ρ ρ1 k) (hb : k = true → EW X G (.BoolOp .And (b :: rest) pos) ρ1 ρ1 l) : EW X G (.BoolOp .And (a :: b :: rest) pos) ρ ρ1 (k && l) := by
  cases k with
  | true =>
    refine pw_mono (pw_and ha (hb rfl)) fun σ H Q ⟨F, E, q⟩ => ⟨F, E, fun F1 H1 e1 E1 => ?_⟩
    show tDT X.K G ρ1 ρ1 l σ H1 Q
    exact ⟨F1, E1, fun F2 H2 e2 E2 => q F2 H2 (e1.trans e2) E2⟩
  | false =>
    refine pw_mono (pw_and (tB' := fun _ _ _ => False) ha ⟨fun _ _ _ _ _ _ _ h => h.elim⟩) fun σ H Q ⟨F, E, q⟩ => ⟨F, E, fun F1 H1 e1 E1 => ?_⟩
    show Q false H1
    exact q F1 H1 e1 E1
theorem ew_or (ha : ET X G a ρ ρ1 k) (hb : k = false → EW X G (.BoolOp .Or (b :: rest) pos) ρ1 ρ1 l) : EW X G (.BoolOp .Or (a :: b :: rest) pos) ρ ρ1 (k || l) := by
  cases k with
  | false =>
    refine pw_mono (pw_or ha (hb rfl)) fun σ H Q ⟨F, E, q⟩ => ⟨F, E, fun F1 H1 e1 E1 => ?_⟩
    show tDT X.K G ρ1 ρ1 l σ H1 Q
    exact ⟨F1, E1, fun F2 H2 e2 E2 => q F2 H2 (e1.trans e2) E2⟩
  | true =>
    refine pw_mono (pw_or (tB' := fun _ _ _ => False) ha ⟨fun _ _ _ _ _ _ _ h => h.elim⟩) fun σ H Q ⟨F, E, q⟩ => ⟨F, E, fun F1 H1 e1 E1 => ?_⟩
    show Q true H1
    exact q F1 H1 e1 E1
theorem pe_false : PE X e (fun _ _ _ => False) := ⟨fun _ _ _ _ _ _ h => h.elim⟩
theorem ed_one {op} (h : ED X G a ρ ρ1 z) : ED X G (.BoolOp op [a] pos) ρ ρ1 z := pe_one h
theorem ed_and (ha : ED X G a ρ ρ1 (.v k1 (.bl k))) (hb : k = true → ED X G (.BoolOp .And (b :: rest) pos) ρ1 ρ1 (.val (.bl l))) : ED X G (.BoolOp .And (a :: b :: rest) pos) ρ ρ1 (.val (.bl (k && l))) := by
  cases k with
  | true =>
    refine pe_mono (pe_and ha (hb rfl)) fun σ H Q ⟨F, E, q⟩ => ⟨F, E, fun F1 H1 v e1 E1 r1 => ⟨true, of_bl r1, ?_⟩⟩
    show tD X.K G ρ1 ρ1 (.val (.bl l)) σ H1 Q
    exact ⟨F1, E1, fun F2 H2 w e2 E2 r2 => q F2 H2 w (e1.trans e2) E2 r2⟩
  | false =>
    refine pe_mono (pe_and ha pe_false) fun σ H Q ⟨F, E, q⟩ => ⟨F, E, fun F1 H1 v e1 E1 r1 => ⟨false, of_bl r1, ?_⟩⟩
    show Q (.bl false) H1
    exact q F1 H1 _ e1 E1 sr_bl
theorem ed_or (ha : ED X G a ρ ρ1 (.v k1 (.bl k))) (hb : k = false → ED X G (.BoolOp .Or (b :: rest) pos) ρ1 ρ1 (.val (.bl l))) : ED X G (.BoolOp .Or (a :: b :: rest) pos) ρ ρ1 (.val (.bl (k || l))) := by
  cases k with
  | false =>
    refine pe_mono (pe_or ha (hb rfl)) fun σ H Q ⟨F, E, q⟩ => ⟨F, E, fun F1 H1 v e1 E1 r1 => ⟨false, of_bl r1, ?_⟩⟩
    show tD X.K G ρ1 ρ1 (.val (.bl l)) σ H1 Q
    exact ⟨F1, E1, fun F2 H2 w e2 E2 r2 => q F2 H2 w (e1.trans e2) E2 r2⟩
  | true =>
    refine pe_mono (pe_or ha pe_false) fun σ H Q ⟨F, E, q⟩ => ⟨F, E, fun F1 H1 v e1 E1 r1 => ⟨true, of_bl r1, ?_⟩⟩
    show Q (.bl true) H1
    exact q F1 H1 _ e1 E1 sr_bl
theorem ed_not (ha : ED X G a ρ ρ1 (.v k1 (.bl k))) : ED X G (.UnaryOp .Not a pos) ρ ρ1 (.val (.bl (!k))) :=
  pe_mono (pe_not ha) fun σ H Q ⟨F, E, q⟩ => ⟨F, E, fun F1 H1 v e1 E1 r1 => ⟨k, of_bl r1, q F1 H1 _ e1 E1 sr_bl⟩⟩
/-- a if c else b -/
theorem ed_ifT (hc : ET X G c ρ ρ1 true) (ha : ED X G a ρ1 ρ2 z) : ED X G (.IfExp c a b pos) ρ ρ2 z :=
  pe_mono (pe_ifExp hc ha pe_false) fun σ H Q ⟨F, E, q⟩ => ⟨F, E, fun F1 H1 e1 E1 => by
    show tD X.K G ρ1 ρ2 z σ H1 Q
    exact ⟨F1, E1, fun F2 H2 w e2 E2 r2 => q F2 H2 w (e1.trans e2) E2 r2⟩⟩
theorem ed_ifF (hc : ET X G c ρ ρ1 false) (hb : ED X G b ρ1 ρ2 z) : ED X G (.IfExp c a b pos) ρ ρ2 z :=
  pe_mono (pe_ifExp hc pe_false hb) fun σ H Q ⟨F, E, q⟩ => ⟨F, E, fun F1 H1 e1 E1 => by
    show tD X.K G ρ1 ρ2 z σ H1 Q
    exact ⟨F1, E1, fun F2 H2 w e2 E2 r2 => q F2 H2 w (e1.trans e2) E2 r2⟩⟩
theorem ed_if (hc : ET X G c ρ ρ1 k) (ha : k = true → ED X G a ρ1 ρ2 (.val x)) (hb : k = false → ED X G b ρ1 ρ2 (.val y)) : ED X G (.IfExp c a b pos) ρ ρ2 (.val (if k then x else y)) := by
  cases k with
  | true => exact ed_ifT hc (ha rfl)
  | false => exact ed_ifF hc (hb rfl)
/-! ### displays, arguments -/
def tDA (K : PySem.W.Frag) (G : Gx) (ρ ρ' : Env) (ds : List D) : TA := fun σ H Q => ∃ F, ER K G F H σ ρ ∧ ∀ F' H' vs, Ext F F' → ER K G F' H' σ ρ' → Reps K F' ds vs → Q vs H'
abbrev EA (X : Cx) (G : Gx) (es : List Expr) (ρ ρ' : Env) (ds : List D) : Prop := PA X es (tDA X.K G ρ ρ' ds)
variable {xs : List Expr}
theorem ea_nil : EA X G [] ρ ρ [] := pa_mono pa_nil fun σ H Q ⟨F, E, k⟩ => k F H [] (Ext.refl _) E .nil
theorem ea_cons (ha : ED X G a ρ ρ1 (.val d)) (hr : EA X G xs ρ1 ρ2 ds) (hs : starEach (a :: xs) X.env = (false, eval a X.env) :: starEach xs X.env := by rfl) : EA X G (a :: xs) ρ ρ2 (d :: ds) :=
  pa_mono (pa_cons ha hr hs) fun σ H Q ⟨F, E, k⟩ => ⟨F, E, fun F1 H1 v e1 E1 r1 => ⟨F1, E1, fun F2 H2 vs e2 E2 r2 => k F2 H2 (v :: vs) (e1.trans e2) E2 (.cons (Rep.mono e2 _ _ r1) r2)⟩⟩
theorem ed_lst (h : EA X G xs ρ ρ1 ds) (hl : ds.length ≤ sizeLine) : ED X G (.List xs pos) ρ ρ1 (.own ds) :=
  pe_mono (pe_lst h) fun σ H Q ⟨F, E, k⟩ => ⟨F, E, fun F1 H1 vs e1 E1 r1 => ⟨by rw [r1.length]; exact hl, fun p hp => k F1 _ _ e1 (E1.lay0 hp) (E1.newL hp r1)⟩⟩
/-- a tuple whose object is known -/
def tTupX (t : TA) : TE := fun σ H Q => t σ H fun xs H1 => xs.length ≤ sizeLine ∧ ∀ p o, H1 p = none → o.dict = none → Q (.ref p) (upd H1 p (.frz o (.tup xs)))
theorem pe_tupX {n : Nat} {t : TA} (h : PA X xs t) : PE X (.Tuple xs n pos) (tTupX t) := by
  refine ⟨fun pins s σ H Q I hq => ?_⟩
  refine wpAny_Tuple_spliced (thn (h.run pos pins s σ H _ I hq) fun us s1 ⟨vs, H1, I1, r, z, q⟩ => ⟨by rw [← r.length]; exact z, ?_⟩)
  have hf : H1 s1.heap.objs.size = none := I1.hok.fresh (Nat.le_refl _)
  refine ⟨.ref s1.heap.objs.size, _, I1.laid (t' := s1.toks) (fun b u e => Heap.get?_push_of_some _ e) (Nat.le_refl _) ?_, rfl, q _ { cls := .type "tuple", data := .seq us.toArray } hf rfl⟩
  exact ⟨Heap.get?_push_size _ rfl, z, us, r, ⟨_, Heap.get?_push_size _ rfl, rfl, _, rfl⟩⟩
theorem ed_tup {n : Nat} (h : EA X G xs ρ ρ1 ds) (hl : ds.length ≤ sizeLine) : ED X G (.Tuple xs n pos) ρ ρ1 (.val (.tup ds)) :=
  pe_mono (pe_tupX h) fun σ H Q ⟨F, E, k⟩ => ⟨F, E, fun F1 H1 vs e1 E1 r1 => ⟨by rw [r1.length]; exact hl, fun p o hp ho => k _ _ _ (e1.trans (Ext.lay (E1.sub.free hp))) (E1.lay hp) (rep_tup.mpr ⟨p, vs, rfl, SqX.new ho, Reps.mono (Ext.lay (E1.sub.free hp)) _ _ r1⟩)⟩⟩
/-! ### calls of built-ins -/
def VC (K : PySem.W.Frag) (G : Gx) (ρ : Env) (r : List V → Hp → VK → Prop) (ds : List D) (z : Slot) : Prop :=
  ∀ σ F H vs Q, ER K G F H σ ρ → Reps K F ds vs → (∀ F' H' w, Ext F F' → ER K G F' H' σ ρ → SR K G F' H' σ ρ z w → Q w H') → r vs H Q
variable {n : Str} {p : Pos} {id : String} {rc : List V → Hp → VK → Prop}
theorem ed_callB (hc : CallR X (.builtin id) rc) (hg : Gl X n) (hm : X.mg n = none) (hv : bootBuiltins n = some (.builtin id)) (ha : EA X G (a :: xs) ρ ρ1 ds) (hr : VC X.K G ρ1 rc ds z) (hn : n ≠ "__name__" := by decide) (hdb : (n == ("__debug__" : Str)) = false := by decide)
    (he : starEach (a :: xs) X.env = (false, eval a X.env) :: starEach xs X.env := by rfl) (hpl : (backTo pos (starEach xs X.env)).any (·.1) = false := by rfl) : ED X G (.Call (.Name n p) (a :: xs) [] pos) ρ ρ1 z :=
  pe_mono (pe_callB hc hg hm hv ha hn hdb he hpl) fun σ H Q ⟨F, E, k⟩ => ⟨F, E, fun F1 H1 vs e1 E1 r1 => hr σ F1 H1 vs Q E1 r1 fun F' H' w e3 E3 s3 => k F' H' w (e1.trans e3) E3 s3⟩
theorem ed_callTy (hc : CallR X (.type id) rc) (hg : Gl X n) (hm : X.mg n = none) (hv : bootBuiltins n = some (.type id)) (ha : EA X G (a :: xs) ρ ρ1 ds) (hr : VC X.K G ρ1 rc ds z) (hn : n ≠ "__name__" := by decide) (hdb : (n == ("__debug__" : Str)) = false := by decide)
    (he : starEach (a :: xs) X.env = (false, eval a X.env) :: starEach xs X.env := by rfl) (hpl : (backTo pos (starEach xs X.env)).any (·.1) = false := by rfl) : ED X G (.Call (.Name n p) (a :: xs) [] pos) ρ ρ1 z :=
  pe_mono (pe_callTy hc hg hm hv ha hn hdb he hpl) fun σ H Q ⟨F, E, k⟩ => ⟨F, E, fun F1 H1 vs e1 E1 r1 => hr σ F1 H1 vs Q E1 r1 fun F' H' w e3 E3 s3 => k F' H' w (e1.trans e3) E3 s3⟩
end
end DL
/-! DL2: containers, statements. -/
namespace DL
open PySem L2
section
variable {X : Cx} {G : Gx} {e a b c : Expr} {ρ ρ' ρ0 ρ1 ρ2 ρ3 : Env} {r s z : Slot} {d x y w : D} {ds es : List D} {K : PySem.W.Frag} {F F' H H' : Hp} {σ : L2.St} {v u : V} {pos p : Pos} {k k1 k2 : Bool} {n : Str} {xs : List Expr}
def isSc : D → Bool
  | .non => true | .bl _ => true | .int _ => true | .str _ => true | .ty _ => true
  | _ => false
theorem rep_sc {F H : Hp} (h : isSc d = true) (r : Rep K F d v) : Rep K H d v := by
  cases d <;> first | (simp only [Rep] at r ⊢; exact r) | (cases h)
/-- as fixed data -/
theorem rk_scal {G' : Gx} {F' : Hp} {k' : Bool} (hs : isSc d = true) (h : RK K G F k d v) : RK K G' F' k' d v := by
  have g : ∀ Q : Hp, Rep K Q d v := fun Q => rep_sc hs h.at
  cases k' with
  | true => exact g _
  | false =>
    refine ⟨g _, ?_⟩
    cases d with
    | lst ds => cases hs
    | _ => exact g F'
inductive ToV : Slot → D → Prop where
  | val {d : D} : ToV (.v true d) d
  | sc {d : D} {k : Bool} (h : isSc d = true) : ToV (.v k d) d
  | own {ds : List D} : ToV (.own ds) (.lst ds)
theorem ed_toV (h : ED X G e ρ ρ' s) (t : ToV s d) : ED X G e ρ ρ' (.val d) := by
  cases t with
  | val => exact h
  | own => exact ed_fix h
  | sc hs => exact pe_mono h fun σ H Q ⟨F, E, q⟩ => ⟨F, E, fun F' H' v e1 E1 r1 => q F' H' v e1 E1 (sr_val (rep_sc hs (RK.at r1)))⟩
/-! ### containers -/
theorem reps_atI {ds : List D} {vs : List V} {j : Int} {d : D} (h : Reps K F ds vs) (g : atI ds j = some d) : ∃ v, atI vs j = some v ∧ Rep K F d v := by
  unfold atI at *
  rw [h.length]
  cases q : ixN ds.length j with
  | none => rw [q] at g; cases g
  | some i => rw [q] at g; exact h.getD g
inductive IxD : Slot → Int → Slot → Prop where
  | lst {k : Bool} {ds : List D} {j : Int} {d : D} (h : atI ds j = some d) : IxD (.v k (.lst ds)) j (.val d)
  | tup {k : Bool} {ds : List D} {j : Int} {d : D} (h : atI ds j = some d) : IxD (.v k (.tup ds)) j (.val d)
  | str {k : Bool} {s : Str} {j : Int} {c : Nat} (h : atI s.cps.toList j = some c) (hz : s.length ≤ sizeLine) : IxD (.v k (.str s)) j (.val (.str ⟨#[c]⟩))
theorem ed_ix {j : Int} (ha : ED X G a ρ ρ1 s) (hb : ED X G b ρ1 ρ2 (.v k2 (.int j))) (h : IxD s j z) (hp : PlainIx b := by exact fun _ _ => rfl) : ED X G (.Subscript a b pos) ρ ρ2 z := by
  cases h with
  | lst h =>
    exact ed_bin (fun h1 h2 => pe_ix ix_list h1 h2 hp) ha hb fun σ F H v u Q E hv hu q => by
      obtain ⟨p, vs, rfl, h2, h3⟩ := hv.lst
      obtain ⟨w, g1, g2⟩ := reps_atI h3 h
      rw [rk_int] at hu
      exact ⟨p, vs, _, w, rfl, hu, sql_rd (E.atH.rd h2), g1, q F H w (Ext.refl _) E g2⟩
  | tup h =>
    exact ed_bin (fun h1 h2 => pe_ix ix_tup h1 h2 hp) ha hb fun σ F H v u Q E hv hu q => by
      obtain ⟨p, vs, rfl, h2, h3⟩ := hv.tup
      obtain ⟨w, g1, g2⟩ := reps_atI h3 h
      rw [rk_int] at hu
      exact ⟨p, vs, _, w, rfl, hu, E.sub.sqT h2.1, g1, q F H w (Ext.refl _) E g2⟩
  | str h hz =>
    exact ed_bin (fun h1 h2 => pe_ix ix_str h1 h2 hp) ha hb fun σ F H v u Q E hv hu q => by
      rw [rk_str] at hv
      rw [rk_int] at hu
      exact ⟨_, _, _, hv, hu, hz, h, q F H _ (Ext.refl _) E sr_str⟩
/-- an item of a list of the def's own -/
theorem ed_ixO {i : Nat} {j : Int} (hN : X.N[i]? = some n) (hv : Vis X.env.scope n) (h0 : ρ[i]? = some (some (.own es))) (hb : ED X G b ρ ρ1 (.v k2 (.int j))) (h1 : ρ1[i]? = some (some (.own ds))) (h : atI ds j = some d) (hp : PlainIx b := by exact fun _ _ => rfl)
    (hd : (n == ("__debug__" : Str)) = false := by decide) (hcd : (n == ("__classdict__" : Str)) = false := by decide) : ED X G (.Subscript (.Name n p) b pos) ρ ρ1 (.val d) :=
  pe_mono (pe_ix ix_list (pe_var hN hv hd hcd) hb hp) fun σ H Q ⟨F, E, q⟩ => by
    obtain ⟨a, _, g1, _⟩ := E.own i es h0
    refine ⟨_, g1, F, E, fun F1 H1 u e1 E1 r1 => ?_⟩
    obtain ⟨a', vs, g2, g3, g4, g5, g6⟩ := E1.own i ds h1
    rw [g1] at g2; cases g2
    obtain ⟨w, k1, k2⟩ := reps_atI g6 h
    exact ⟨a, vs, _, w, rfl, of_int r1, SqL.of g3, k1, q F1 H1 w e1 E1 (sr_val k2)⟩
inductive LenD : Slot → Nat → Prop where
  | lst {k : Bool} {ds : List D} : LenD (.v k (.lst ds)) ds.length
  | tup {k : Bool} {ds : List D} : LenD (.v k (.tup ds)) ds.length
  | str {k : Bool} {s : Str} (hz : s.length ≤ sizeLine) : LenD (.v k (.str s)) s.length
  | own {ds : List D} : LenD (.own ds) ds.length
def tD1 (K : PySem.W.Frag) (G : Gx) (ρ ρ' : Env) (r : Slot) : TA := fun σ H Q => ∃ F, ER K G F H σ ρ ∧ ∀ F' H' v, Ext F F' → ER K G F' H' σ ρ' → SR K G F' H' σ ρ' r v → Q [v] H'
/-- one argument, as it is -/
theorem ea_one (ha : ED X G a ρ ρ1 s) (hs : starEach [a] X.env = (false, eval a X.env) :: starEach [] X.env := by rfl) : PA X [a] (tD1 X.K G ρ ρ1 s) :=
  pa_mono (pa_cons ha pa_nil hs) fun σ H Q ⟨F, E, q⟩ => ⟨F, E, fun F1 H1 v e1 E1 r1 => q F1 H1 v e1 E1 r1⟩
theorem ed_len {m : Nat} (hg : Gl X "len") (hm : X.mg "len" = none) (ha : ED X G a ρ ρ1 s) (h : LenD s m) (he : starEach [a] X.env = (false, eval a X.env) :: starEach [] X.env := by rfl) (hpl : (backTo pos (starEach [] X.env)).any (·.1) = false := by rfl) : ED X G (.Call (.Name "len" p) [a] [] pos) ρ ρ1 (.val (.int (m : Int))) := by
  cases h with
  | lst =>
    exact pe_mono (pe_callB call_len hg hm PySem.boot_len (ea_one ha he) (by decide) (by decide) he hpl) fun σ H Q ⟨F, E, q⟩ => ⟨F, E, fun F1 H1 v e1 E1 r1 => by
      obtain ⟨a, vs, rfl, h2, h3⟩ := RK.lst r1
      exact ⟨_, _, rfl, .inl ⟨vs, sql_rd (E1.atH.rd h2), rfl⟩, by rw [h3.length]; exact q F1 H1 _ e1 E1 sr_int⟩⟩
  | tup =>
    exact pe_mono (pe_callB call_len hg hm PySem.boot_len (ea_one ha he) (by decide) (by decide) he hpl) fun σ H Q ⟨F, E, q⟩ => ⟨F, E, fun F1 H1 v e1 E1 r1 => by
      obtain ⟨a, vs, rfl, h2, h3⟩ := RK.tup r1
      exact ⟨_, _, rfl, .inr ⟨vs, E1.sub.sqT h2.1, rfl⟩, by rw [h3.length]; exact q F1 H1 _ e1 E1 sr_int⟩⟩
  | str hz =>
    exact pe_mono (pe_callB call_len hg hm PySem.boot_len (ea_one ha he) (by decide) (by decide) he hpl) fun σ H Q ⟨F, E, q⟩ => ⟨F, E, fun F1 H1 v e1 E1 r1 => by
      have := of_str r1; subst this
      exact ⟨_, _, rfl, ⟨hz, rfl⟩, q F1 H1 _ e1 E1 sr_int⟩⟩
  | own =>
    exact pe_mono (pe_callB call_len hg hm PySem.boot_len (ea_one ha he) (by decide) (by decide) he hpl) fun σ H Q ⟨F, E, q⟩ => ⟨F, E, fun F1 H1 v e1 E1 r1 => by
      obtain ⟨a, vs, rfl, h2, h3, h4, h5, h6⟩ := r1
      exact ⟨_, _, rfl, .inl ⟨vs, SqL.of h2, rfl⟩, by rw [h5.length]; exact q F1 H1 _ e1 E1 sr_int⟩⟩
theorem ed_lenO {i : Nat} (hg : Gl X "len") (hm : X.mg "len" = none) (hN : X.N[i]? = some n) (hv : Vis X.env.scope n) (h0 : ρ[i]? = some (some (.own ds))) {p2 : Pos} (he : starEach [Expr.Name n p2] X.env = (false, eval (Expr.Name n p2) X.env) :: starEach [] X.env := by rfl) (hpl : (backTo pos (starEach [] X.env)).any (·.1) = false := by rfl)
    (hd : (n == ("__debug__" : Str)) = false := by decide) (hcd : (n == ("__classdict__" : Str)) = false := by decide) : ED X G (.Call (.Name "len" p) [.Name n p2] [] pos) ρ ρ (.val (.int (ds.length : Int))) :=
  pe_mono (pe_callB call_len hg hm PySem.boot_len (pa_cons (pe_var hN hv hd hcd) pa_nil he) (by decide) (by decide) he hpl) fun σ H Q ⟨F, E, q⟩ => by
    obtain ⟨a, vs, g2, g3, g4, g5, g6⟩ := E.own i ds h0
    exact ⟨_, g2, _, _, rfl, .inl ⟨vs, SqL.of g3, rfl⟩, by rw [g6.length]; exact q F H _ (Ext.refl _) E sr_int⟩
/-! ### statements -/
theorem ER.put (E : ER K G F H σ ρ) (hs : SR K G F H σ ρ r v) {i : Nat} (hm : G.ms[i]? ≠ some true) : ER K G F H (σ.set i (some v)) (ρ.set i (some r)) := by
  have ne {j : Nat} (h : G.ms[j]? = some true) : i ≠ j := fun q => hm (q ▸ h)
  have get {j : Nat} {x : Option Slot} (h : (ρ.set i (some r))[j]? = some x) : (i = j ∧ x = some r ∧ (σ.set i (some v))[j]? = some (some v)) ∨ (i ≠ j ∧ ρ[j]? = some x ∧ (σ.set i (some v))[j]? = σ[j]?) := by
    by_cases q : i = j
    · subst q
      have hl : i < ρ.length := by
        have := (List.getElem?_eq_some_iff.mp h).1
        rw [List.length_set] at this; exact this
      refine .inl ⟨rfl, getset_eq h, ?_⟩
      rw [List.getElem?_set, if_pos rfl, if_pos (by rw [E.len]; exact hl)]
    · rw [getset_ne q] at h
      exact .inr ⟨q, h, getset_ne q⟩
  refine ⟨E.ext, E.sub, E.new, E.keep, E.there, fun j hj => ?_, fun j k d hj => ?_, fun j ds hj => ?_, fun j l a ds es n1 h1 h2 s1 s2 => ?_, by rw [List.length_set, List.length_set]; exact E.len⟩
  · rw [getset_ne (ne hj)]; exact E.arg j hj
  · rcases get hj with ⟨_, q, g⟩ | ⟨_, q, g⟩
    · injection q with q
      subst q
      exact ⟨v, g, hs⟩
    · rw [g]; exact E.val j k d q
  · rcases get hj with ⟨_, q, g⟩ | ⟨_, q, g⟩
    · injection q with q
      subst q
      obtain ⟨a, vs, rfl, h2, h3, h4, h5, _⟩ := hs
      exact ⟨a, vs, g, h2, h3, .inl h4, h5⟩
    · rw [g]; exact E.own j ds q
  · rcases get h1 with ⟨z1, q1, g1⟩ | ⟨_, q1, g1⟩
    · rcases get h2 with ⟨z2, _⟩ | ⟨_, q2, g2⟩
      · exact n1 (z1.symm.trans z2)
      · injection q1 with q1
        subst q1
        obtain ⟨a', vs, rfl, _, _, _, _, h6⟩ := hs
        rw [g1] at s1; cases s1
        rw [g2] at s2
        exact h6 l es q2 s2
    · rcases get h2 with ⟨z2, q2, g2⟩ | ⟨_, q2, g2⟩
      · injection q2 with q2
        subst q2
        obtain ⟨a', vs, rfl, _, _, _, _, h6⟩ := hs
        rw [g2] at s2; cases s2
        rw [g1] at s1
        exact h6 j ds q1 s1
      · rw [g1] at s1; rw [g2] at s2
        exact E.inj j l a ds es n1 q1 q2 s1 s2
variable {st : Stmt} {rest sts els : List Stmt} {P : Out → Prop}
theorem sd_set {i : Nat} {pos' : Pos} (hN : X.N.Nodup) (hi : X.N[i]? = some n) (hx : Loc X.env.scope n) (he : ED X G e ρ ρ1 r) (hm : G.ms[i]? ≠ some true) (q : P (.nx (ρ1.set i (some r)))) (hs : swapsWith e (some (.Name n pos')) pos.line X.env = pure false := by rfl)
    (hf : X.fn n = true ∨ X.env.scope.names.lookup n = some .local := by first | exact .inl rfl | exact .inr rfl | assumption) : SD X G (.Assign [.Name n pos'] e pos) ρ P :=
  ps_mono (ps_set hN hi hx he hs hf) fun D σ H ⟨F, E, q1, _⟩ => ⟨F, E, fun F1 H1 v e1 E1 r1 => q1 _ F1 H1 _ q e1 (E1.put r1 hm)⟩
theorem sd_expr (he : ED X G e ρ ρ1 r) (q : P (.nx ρ1)) (hs : swapsWith e none pos.line X.env = pure false := by rfl) : SD X G (.Expr e pos) ρ P :=
  ps_mono (ps_expr he hs) fun D σ H ⟨F, E, q1, _⟩ => ⟨F, E, fun F1 H1 v e1 E1 r1 => q1 _ F1 H1 _ q e1 E1⟩
theorem sd_ret (he : ED X G e ρ ρ1 r) (q : P (.ret r ρ1)) : SD X G (.Return (some e) pos) ρ P :=
  ps_mono (ps_ret he) fun D σ H ⟨F, E, _, q1, _⟩ => ⟨F, E, fun F1 H1 v e1 E1 r1 => q1 _ _ F1 H1 σ v q e1 E1 r1⟩
theorem sd_retN (q : P (.ret (.val .non) ρ)) : SD X G (.Return none pos) ρ P :=
  ps_mono ps_retN fun D σ H ⟨F, E, _, q1, _⟩ => q1 _ _ F H σ _ q (Ext.refl _) E sr_non
theorem sd_pass (q : P (.nx ρ)) : SD X G (.Pass pos) ρ P := ps_mono ps_pass fun D σ H ⟨F, E, q1, _⟩ => q1 _ F H σ q (Ext.refl _) E
theorem sd_brk (q : P (.bk ρ)) : SD X G (.Break pos) ρ P := ps_mono ps_break fun D σ H ⟨F, E, _, _, q1, _⟩ => q1 _ F H σ q (Ext.refl _) E
theorem sd_ct (q : P (.ct ρ)) : SD X G (.Continue pos) ρ P := ps_mono ps_continue fun D σ H ⟨F, E, _, _, _, q1⟩ => q1 _ F H σ q (Ext.refl _) E
theorem bd_nil (q : P (.nx ρ)) : BD X G [] ρ P := pss_mono pss_nil fun D σ H ⟨F, E, q1, _⟩ => q1 _ F H σ q (Ext.refl _) E
/-- what must hold behind a statement, with more statements to come -/
def thenP (X : Cx) (G : Gx) (rest : List Stmt) (P : Out → Prop) : Out → Prop
  | .nx ρ => BD X G rest ρ P
  | o => P o
theorem bd_cons (h : SD X G st ρ (thenP X G rest P)) : BD X G (st :: rest) ρ P := by
  have hr : PSs X rest (fun D σ H => ∃ ρ', thenP X G rest P (.nx ρ') ∧ tS X.K G ρ' P D σ H) := pss_any (p := fun ρ' => thenP X G rest P (.nx ρ')) fun ρ' h => h
  refine pss_mono (pss_cons h hr) fun D σ H ⟨F, E, q1, q2, q3, q4⟩ => ⟨F, E, fun ρ' F' H' σ' hp e1 E1 => ⟨ρ', hp, F', E1, ?_, ?_, ?_, ?_⟩, q2, q3, q4⟩
  · exact fun ρ2 F2 H2 σ2 h2 e2 E2 => q1 ρ2 F2 H2 σ2 h2 (e1.trans e2) E2
  · exact fun r ρ2 F2 H2 σ2 v h2 e2 E2 r2 => q2 r ρ2 F2 H2 σ2 v h2 (e1.trans e2) E2 r2
  · exact fun ρ2 F2 H2 σ2 h2 e2 E2 => q3 ρ2 F2 H2 σ2 h2 (e1.trans e2) E2
  · exact fun ρ2 F2 H2 σ2 h2 e2 E2 => q4 ρ2 F2 H2 σ2 h2 (e1.trans e2) E2
theorem tS_ext {D : Ends} {σ : L2.St} {H F1 H1 : Hp} (E1 : ER K G F1 H1 σ ρ1) (e1 : Ext F F1)
    (q : (∀ ρ' F' H' σ', P (.nx ρ') → Ext F F' → ER K G F' H' σ' ρ' → D.nx σ' H') ∧ (∀ r ρ' F' H' σ' v, P (.ret r ρ') → Ext F F' → ER K G F' H' σ' ρ' → SR K G F' H' σ' ρ' r v → D.rt v H') ∧
      (∀ ρ' F' H' σ', P (.bk ρ') → Ext F F' → ER K G F' H' σ' ρ' → D.bk σ' H') ∧ (∀ ρ' F' H' σ', P (.ct ρ') → Ext F F' → ER K G F' H' σ' ρ' → D.ct σ' H')) : tS K G ρ1 P D σ H1 :=
  ⟨F1, E1, fun ρ2 F2 H2 σ2 h2 e2 E2 => q.1 ρ2 F2 H2 σ2 h2 (e1.trans e2) E2, fun r ρ2 F2 H2 σ2 v h2 e2 E2 r2 => q.2.1 r ρ2 F2 H2 σ2 v h2 (e1.trans e2) E2 r2,
    fun ρ2 F2 H2 σ2 h2 e2 E2 => q.2.2.1 ρ2 F2 H2 σ2 h2 (e1.trans e2) E2, fun ρ2 F2 H2 σ2 h2 e2 E2 => q.2.2.2 ρ2 F2 H2 σ2 h2 (e1.trans e2) E2⟩
theorem sd_if (hc : ET X G c ρ ρ1 k) (h1 : k = true → BD X G sts ρ1 P) (h2 : k = false → BD X G els ρ1 P) : SD X G (.If c sts els pos) ρ P := by
  cases k with
  | true =>
    refine ps_mono (ps_if (u := tNever) hc (h1 rfl) pss_never) fun D σ H ⟨F, E, q⟩ => ⟨F, E, fun F1 H1 e1 E1 => ?_⟩
    show tS X.K G ρ1 P D σ H1
    exact tS_ext (H := H) E1 e1 q
  | false =>
    refine ps_mono (ps_if (t := tNever) hc pss_never (h2 rfl)) fun D σ H ⟨F, E, q⟩ => ⟨F, E, fun F1 H1 e1 E1 => ?_⟩
    show tS X.K G ρ1 P D σ H1
    exact tS_ext (H := H) E1 e1 q
/-- what must hold at the end of a turn -/
def turnP (J : Env → Prop) (P : Out → Prop) : Out → Prop
  | .nx ρ => J ρ
  | .ct ρ => J ρ
  | .bk ρ => P (.nx ρ)
  | .ret r ρ => P (.ret r ρ)
inductive Walked : Slot → Bool → List D → Prop where
  | lst {k : Bool} {ds : List D} : Walked (.v k (.lst ds)) k ds
  | tup {k : Bool} {ds : List D} : Walked (.v k (.tup ds)) k ds
def tTurn (K : PySem.W.Frag) (G : Gx) (ds : List D) (k : Bool) (i : Nat) (J : Nat → Env → Prop) (P : Out → Prop) : TS := fun D σ H => ∃ q : Nat × DL.D × Env, (ds[q.1]? = some q.2.1 ∧ J q.1 q.2.2) ∧ tS K G (q.2.2.set i (some (.val q.2.1))) (turnP (J (q.1 + 1)) P) D σ H
/-- for n in a list (a tuple): J i, what holds of the frame ahead of turn i -/
theorem sd_for {i : Nat} {pos' : Pos} (J : Nat → Env → Prop) (hN : X.N.Nodup) (hi : X.N[i]? = some n) (hx : Loc X.env.scope n) (he : ED X G e ρ ρ1 s) (hw : Walked s k ds) (hm : G.ms[i]? ≠ some true) (h0 : J 0 ρ1)
    (ht : ∀ (t : Nat) d ρ', ds[t]? = some d → J t ρ' → BD X G sts (ρ'.set i (some (.val d))) (turnP (J (t + 1)) P)) (hd : ∀ ρ', J ds.length ρ' → P (.nx ρ')) (hp : PassesOwn (model X.prog X.w) X.A X.env X.xe) (hc : X.calm = true)
    (hs : ∀ x, foldedSetIterable e X.env x = pure x := by intro _; rfl) (hf : X.fn n = true ∨ X.env.scope.names.lookup n = some .local := by first | exact .inl rfl | exact .inr rfl | assumption) : SD X G (.For (.Name n pos') e sts [] pos) ρ P := by
  have hb : PSs X sts (tTurn X.K G ds k i J P) := pss_any fun q hq => ht q.1 q.2.1 q.2.2 hq.1 hq.2
  cases hw with
  | lst =>
    refine ps_mono (ps_for hp hc (pi_list he) (pg_name hN hi hx hf) hb hs) fun D σ H ⟨F, E, q1, q2, q3, q4⟩ => ⟨F, E, fun F1 H1 v e1 E1 r1 => ?_⟩
    obtain ⟨a, vs, rfl, hl, hr⟩ : ∃ a vs, v = V.ref a ∧ Rd (G.at F1 k) a (.lst vs) ∧ Reps X.K F1 ds vs := RK.lst r1
    refine ⟨a, rfl, ⟨vs, sql_rd (E1.atH.rd hl)⟩, for_list (g := gName i) (tb := tTurn X.K G ds k i J P) (D := D) (K := X.K) (a := a) (xs := vs) (fun t σ' H' => ∃ F' ρ', J t ρ' ∧ Ext F1 F' ∧ ER X.K G F' H' σ' ρ') ⟨F1, ρ1, h0, Ext.refl _, E1⟩ ?_ ?_ ?_⟩
    · rintro t σ' H' _ ⟨F', ρ', _, e2, E2⟩
      exact sql_rd (E2.atH.rd ((at_ext e2).rd hl))
    · rintro t x σ' H' hx ⟨F', ρ', hj, e2, E2⟩
      obtain ⟨d, hd1, hd2⟩ := hr.get hx
      refine ⟨(t, d, ρ'), ⟨hd1, hj⟩, F', E2.put (r := .val d) (sr_val (Rep.mono e2 _ _ hd2)) hm, ?_, ?_, ?_, ?_⟩
      · exact fun ρ3 F3 H3 σ3 h3 e3 E3 => ⟨F3, ρ3, h3, e2.trans e3, E3⟩
      · exact fun r ρ3 F3 H3 σ3 v h3 e3 E3 r3 => q2 r ρ3 F3 H3 σ3 v h3 ((e1.trans e2).trans e3) E3 r3
      · exact fun ρ3 F3 H3 σ3 h3 e3 E3 => q1 ρ3 F3 H3 σ3 h3 ((e1.trans e2).trans e3) E3
      · exact fun ρ3 F3 H3 σ3 h3 e3 E3 => ⟨F3, ρ3, h3, e2.trans e3, E3⟩
    · rintro σ' H' ⟨F', ρ', hj, e2, E2⟩
      rw [hr.length] at hj
      exact q1 ρ' F' H' σ' (hd ρ' hj) (e1.trans e2) E2
  | tup =>
    refine ps_mono (ps_for hp hc (pi_tup he) (pg_name hN hi hx hf) hb hs) fun D σ H ⟨F, E, q1, q2, q3, q4⟩ => ⟨F, E, fun F1 H1 v e1 E1 r1 => ?_⟩
    obtain ⟨a, vs, rfl, ⟨hl, _⟩, hr⟩ : ∃ a vs, v = V.ref a ∧ SqX X.K F1 a vs ∧ Reps X.K F1 ds vs := RK.tup r1
    refine ⟨a, rfl, ⟨vs, E1.sub.sqT hl⟩, for_tup (g := gName i) (tb := tTurn X.K G ds k i J P) (D := D) (K := X.K) (a := a) (xs := vs) (fun t σ' H' => ∃ F' ρ', J t ρ' ∧ Ext F1 F' ∧ ER X.K G F' H' σ' ρ') ⟨F1, ρ1, h0, Ext.refl _, E1⟩ ?_ ?_ ?_⟩
    · rintro t σ' H' _ ⟨F', ρ', _, e2, E2⟩
      exact E2.sub.sqT (e2.sqT hl)
    · rintro t x σ' H' hx ⟨F', ρ', hj, e2, E2⟩
      obtain ⟨d, hd1, hd2⟩ := hr.get hx
      refine ⟨(t, d, ρ'), ⟨hd1, hj⟩, F', E2.put (r := .val d) (sr_val (Rep.mono e2 _ _ hd2)) hm, ?_, ?_, ?_, ?_⟩
      · exact fun ρ3 F3 H3 σ3 h3 e3 E3 => ⟨F3, ρ3, h3, e2.trans e3, E3⟩
      · exact fun r ρ3 F3 H3 σ3 v h3 e3 E3 r3 => q2 r ρ3 F3 H3 σ3 v h3 ((e1.trans e2).trans e3) E3 r3
      · exact fun ρ3 F3 H3 σ3 h3 e3 E3 => q1 ρ3 F3 H3 σ3 h3 ((e1.trans e2).trans e3) E3
      · exact fun ρ3 F3 H3 σ3 h3 e3 E3 => ⟨F3, ρ3, h3, e2.trans e3, E3⟩
    · rintro σ' H' ⟨F', ρ', hj, e2, E2⟩
      rw [hr.length] at hj
      exact q1 ρ' F' H' σ' (hd ρ' hj) (e1.trans e2) E2
/-- for n in range(m) -/
theorem sd_forR {i : Nat} {m : Int} {pos' p3 p4 : Pos} (J : Nat → Env → Prop) (hN : X.N.Nodup) (hi : X.N[i]? = some n) (hx : Loc X.env.scope n) (hg : Gl X "range") (hmr : X.mg "range" = none) (he : ED X G e ρ ρ1 (.v k (.int m))) (hz : m < 2 ^ 62 ∧ -(2 ^ 62) ≤ m) (hm : G.ms[i]? ≠ some true) (h0 : J 0 ρ1)
    (ht : ∀ (t : Nat) ρ', t < m.toNat → J t ρ' → BD X G sts (ρ'.set i (some (.val (.int (t : Int))))) (turnP (J (t + 1)) P)) (hd : ∀ ρ', J m.toNat ρ' → P (.nx ρ')) (hp : PassesOwn (model X.prog X.w) X.A X.env X.xe) (hc : X.calm = true)
    (hs0 : starEach [e] X.env = [(false, eval e X.env)] := by rfl) (hs : ∀ x, foldedSetIterable (.Call (.Name "range" p3) [e] [] p4) X.env x = pure x := by intro _; rfl) (hf : X.fn n = true ∨ X.env.scope.names.lookup n = some .local := by first | exact .inl rfl | exact .inr rfl | assumption) :
    SD X G (.For (.Name n pos') (.Call (.Name "range" p3) [e] [] p4) sts [] pos) ρ P := by
  have hb : PSs X sts (fun D σ H => ∃ i', (fun (q : Nat × Env) => q.1 < m.toNat ∧ J q.1 q.2) i' ∧ tS X.K G (i'.2.set i (some (.val (.int (i'.1 : Int))))) (turnP (J (i'.1 + 1)) P) D σ H) := pss_any fun q hq => ht q.1 q.2 hq.1 hq.2
  refine ps_mono (ps_for hp hc (pi_range1 hg hmr (ea_one he hs0) hs0) (pg_name hN hi hx hf) hb hs) fun D σ H ⟨F, E, q1, q2, q3, q4⟩ => ⟨F, E, fun F1 H1 v e1 E1 r1 => ?_⟩
  have := of_int r1
  subst this
  refine ⟨m, rfl, hz.2, hz.1, for_range (lo := 0) (n := m.toNat) (g := gName i) (tb := fun D σ H => ∃ i', (fun (q : Nat × Env) => q.1 < m.toNat ∧ J q.1 q.2) i' ∧ tS X.K G (i'.2.set i (some (.val (.int (i'.1 : Int))))) (turnP (J (i'.1 + 1)) P) D σ H) (D := D) (fun t σ' H' => ∃ F' ρ', J t ρ' ∧ Ext F1 F' ∧ ER X.K G F' H' σ' ρ') ⟨F1, ρ1, h0, Ext.refl _, E1⟩ ?_ ?_⟩
  · rintro t σ' H' hx ⟨F', ρ', hj, e2, E2⟩
    refine ⟨(t, ρ'), ⟨hx, hj⟩, F', ?_, ?_, ?_, ?_, ?_⟩
    · have e0 : (0 : Int) + (t : Int) = (t : Int) := Int.zero_add _
      rw [e0]; exact E2.put (r := .val (.int (t : Int))) sr_int hm
    · exact fun ρ3 F3 H3 σ3 h3 e3 E3 => ⟨F3, ρ3, h3, e2.trans e3, E3⟩
    · exact fun r ρ3 F3 H3 σ3 v h3 e3 E3 r3 => q2 r ρ3 F3 H3 σ3 v h3 ((e1.trans e2).trans e3) E3 r3
    · exact fun ρ3 F3 H3 σ3 h3 e3 E3 => q1 ρ3 F3 H3 σ3 h3 ((e1.trans e2).trans e3) E3
    · exact fun ρ3 F3 H3 σ3 h3 e3 E3 => ⟨F3, ρ3, h3, e2.trans e3, E3⟩
  · rintro σ' H' ⟨F', ρ', hj, e2, E2⟩
    exact q1 ρ' F' H' σ' (hd ρ' hj) (e1.trans e2) E2
/-- a word between a statement and what comes behind it -/
theorem bd_cut (M : Env → Prop) (h : SD X G st ρ (fun o => match o with | .nx ρ' => M ρ' | o => P o)) (k : ∀ ρ', M ρ' → BD X G rest ρ' P) : BD X G (st :: rest) ρ P := by
  refine bd_cons (ps_mono h fun D σ H ⟨F, E, q1, q2, q3, q4⟩ => ⟨F, E, fun ρ' F' H' σ' hp e E1 => q1 ρ' F' H' σ' (k ρ' hp) e E1, q2, q3, q4⟩)
theorem sd_imp {P' : Out → Prop} (h : SD X G st ρ P') (i : ∀ o, P' o → P o) : SD X G st ρ P :=
  ps_mono h fun D σ H ⟨F, E, q1, q2, q3, q4⟩ => ⟨F, E, fun ρ' F' H' σ' hp => q1 ρ' F' H' σ' (i _ hp), fun r ρ' F' H' σ' v hp => q2 r ρ' F' H' σ' v (i _ hp), fun ρ' F' H' σ' hp => q3 ρ' F' H' σ' (i _ hp), fun ρ' F' H' σ' hp => q4 ρ' F' H' σ' (i _ hp)⟩
end
end DL
/-! DL3: defs and their calls. -/
namespace DL
open PySem L2
def isOwn : Slot → Bool
  | .own _ => true
  | _ => false
section
variable {X : Cx} {G : Gx} {e a b c : Expr} {ρ ρ' ρ0 ρ1 ρ2 ρ3 : Env} {r s z : Slot} {d x y w : D} {ds es : List D} {K : PySem.W.Frag} {F F' H H' : Hp} {σ : L2.St} {v u : V} {pos p : Pos} {k k1 k2 : Bool} {n : Str} {xs : List Expr}
/-! ### what is handed over -/
inductive ArgS where
  | ex (k : Bool) (d : D)
  | var (i : Nat)
def AsR (K : PySem.W.Frag) (G : Gx) (F : Hp) (σ : L2.St) : List ArgS → List V → Prop
  | [], vs => vs = []
  | .ex k d :: r, vs => ∃ v t, vs = v :: t ∧ RK K G F k d v ∧ AsR K G F σ r t
  | .var i :: r, vs => ∃ v t, vs = v :: t ∧ σ[i]? = some (some v) ∧ AsR K G F σ r t
theorem AsR.mono (e : Ext F F') : ∀ {as : List ArgS} {vs : List V}, AsR K G F σ as vs → AsR K G F' σ as vs
  | [], vs, h => h
  | .ex k d :: r, vs, h => by
    obtain ⟨v, t, h1, h2, h3⟩ := h
    exact ⟨v, t, h1, h2.mono e, h3.mono e⟩
  | .var i :: r, vs, h => by
    obtain ⟨v, t, h1, h2, h3⟩ := h
    exact ⟨v, t, h1, h2, h3.mono e⟩
theorem AsR.len : ∀ {as : List ArgS} {vs : List V}, AsR K G F σ as vs → vs.length = as.length
  | [], vs, h => by rw [show vs = [] from h] <;> rfl
  | .ex k d :: r, vs, h => by
    obtain ⟨v, t, rfl, _, h3⟩ := h
    show t.length + 1 = r.length + 1
    rw [h3.len]
  | .var i :: r, vs, h => by
    obtain ⟨v, t, rfl, _, h3⟩ := h
    show t.length + 1 = r.length + 1
    rw [h3.len]
theorem AsR.ex : ∀ {as : List ArgS} {vs : List V} {j : Nat} {k : Bool} {d : D}, AsR K G F σ as vs → as[j]? = some (.ex k d) → ∃ v, vs[j]? = some v ∧ RK K G F k d v
  | [], vs, j, k, d, h, g => by cases g
  | .ex k' d' :: r, vs, 0, k, d, h, g => by
    obtain ⟨v, t, rfl, h2, h3⟩ := h
    injection g with g; injection g with g1 g2; subst g1; subst g2
    exact ⟨v, rfl, h2⟩
  | .ex k' d' :: r, vs, j + 1, k, d, h, g => by
    obtain ⟨v, t, rfl, h2, h3⟩ := h
    exact h3.ex (j := j) g
  | .var i :: r, vs, 0, k, d, h, g => by cases g
  | .var i :: r, vs, j + 1, k, d, h, g => by
    obtain ⟨v, t, rfl, h2, h3⟩ := h
    exact h3.ex (j := j) g
theorem AsR.var : ∀ {as : List ArgS} {vs : List V} {j i : Nat}, AsR K G F σ as vs → as[j]? = some (.var i) → ∃ v, vs[j]? = some v ∧ σ[i]? = some (some v)
  | [], vs, j, i, h, g => by cases g
  | .ex k' d' :: r, vs, 0, i, h, g => by cases g
  | .ex k' d' :: r, vs, j + 1, i, h, g => by
    obtain ⟨v, t, rfl, h2, h3⟩ := h
    exact h3.var (j := j) g
  | .var i' :: r, vs, 0, i, h, g => by
    obtain ⟨v, t, rfl, h2, h3⟩ := h
    injection g with g; injection g with g1; subst g1
    exact ⟨v, rfl, h2⟩
  | .var i' :: r, vs, j + 1, i, h, g => by
    obtain ⟨v, t, rfl, h2, h3⟩ := h
    exact h3.var (j := j) g
def tAs (K : PySem.W.Frag) (G : Gx) (ρ ρ' : Env) (as : List ArgS) : TA := fun σ H Q => ∃ F, ER K G F H σ ρ ∧ ∀ F' H' vs, Ext F F' → ER K G F' H' σ ρ' → AsR K G F' σ as vs → Q vs H'
abbrev EAs (X : Cx) (G : Gx) (es : List Expr) (ρ ρ' : Env) (as : List ArgS) : Prop := PA X es (tAs X.K G ρ ρ' as)
variable {as : List ArgS} {args outs : List Slot}
theorem as_nil : EAs X G [] ρ ρ [] := pa_mono pa_nil fun σ H Q ⟨F, E, q⟩ => q F H [] (Ext.refl _) E rfl
theorem as_ex (ha : ED X G a ρ ρ1 (.v k d)) (hr : EAs X G xs ρ1 ρ2 as) (hs : starEach (a :: xs) X.env = (false, eval a X.env) :: starEach xs X.env := by rfl) : EAs X G (a :: xs) ρ ρ2 (.ex k d :: as) :=
  pa_mono (pa_cons ha hr hs) fun σ H Q ⟨F, E, q⟩ => ⟨F, E, fun F1 H1 v e1 E1 r1 => ⟨F1, E1, fun F2 H2 vs e2 E2 r2 => q F2 H2 (v :: vs) (e1.trans e2) E2 ⟨v, vs, rfl, RK.mono e2 r1, r2⟩⟩⟩
theorem as_own {i : Nat} (hN : X.N[i]? = some n) (hv : Vis X.env.scope n) (h0 : ρ[i]? = some (some (.own ds))) (hr : EAs X G xs ρ ρ2 as) (hs : starEach (.Name n p :: xs) X.env = (false, eval (.Name n p) X.env) :: starEach xs X.env := by rfl)
    (hd : (n == ("__debug__" : Str)) = false := by decide) (hcd : (n == ("__classdict__" : Str)) = false := by decide) : EAs X G (.Name n p :: xs) ρ ρ2 (.var i :: as) :=
  pa_mono (pa_cons (pe_var hN hv hd hcd) hr hs) fun σ H Q ⟨F, E, q⟩ => by
    obtain ⟨a, vs, h1, _⟩ := E.own i ds h0
    exact ⟨_, h1, F, E, fun F2 H2 ws e2 E2 r2 => q F2 H2 (V.ref a :: ws) e2 E2 ⟨_, ws, rfl, h1, r2⟩⟩
/-- how the caller's side becomes the def's -/
inductive ArgTo (ρ : Env) : ArgS → Slot → Prop where
  | val {d : D} : ArgTo ρ (.ex true d) (.v true d)
  | view {k : Bool} {d : D} : ArgTo ρ (.ex k d) (.v false d)
  | sc {k k' : Bool} {d : D} (h : isSc d = true) : ArgTo ρ (.ex k d) (.v k' d)
  | own {i : Nat} {ds : List D} (h : ρ[i]? = some (some (.own ds))) : ArgTo ρ (.var i) (.own ds)
  | bor {i : Nat} {ds : List D} (h : ρ[i]? = some (some (.own ds))) : ArgTo ρ (.var i) (.v false (.lst ds))
inductive ArgsTo (ρ : Env) : List ArgS → List Slot → Prop where
  | nil : ArgsTo ρ [] []
  | cons {a : ArgS} {s : Slot} {as : List ArgS} {ss : List Slot} (h : ArgTo ρ a s) (t : ArgsTo ρ as ss) : ArgsTo ρ (a :: as) (s :: ss)
theorem ArgsTo.len (h : ArgsTo ρ as args) : as.length = args.length := by
  induction h with
  | nil => rfl
  | cons _ _ ih => simp [ih]
theorem ArgsTo.get (h : ArgsTo ρ as args) : ∀ {j : Nat} {s : Slot}, args[j]? = some s → ∃ a, as[j]? = some a ∧ ArgTo ρ a s := by
  induction h with
  | nil => intro j s g; cases g
  | @cons a s' as ss h t ih =>
    intro j s g
    cases j with
    | zero => injection g with g; subst g; exact ⟨a, rfl, h⟩
    | succ j => exact ih (j := j) g
/-- the names of one's own that are handed over, each at most once -/
def varsOf : List ArgS → List Nat
  | [] => []
  | .var i :: r => i :: varsOf r
  | .ex _ _ :: r => varsOf r
theorem varsOf_mem : ∀ {as : List ArgS} {j i : Nat}, as[j]? = some (.var i) → i ∈ varsOf as
  | [], j, i, g => by cases g
  | .ex k d :: r, 0, i, g => by cases g
  | .ex k d :: r, j + 1, i, g => varsOf_mem (as := r) (j := j) g
  | .var i' :: r, 0, i, g => by injection g with g; injection g with g; subst g; exact List.mem_cons_self ..
  | .var i' :: r, j + 1, i, g => List.mem_cons_of_mem _ (varsOf_mem (as := r) (j := j) g)
theorem varsOf_inj : ∀ {as : List ArgS} {j l i : Nat}, (varsOf as).Nodup → as[j]? = some (.var i) → as[l]? = some (.var i) → j = l
  | [], j, l, i, _, g, _ => by cases g
  | .ex k d :: r, 0, l, i, _, g, _ => by cases g
  | .ex k d :: r, j + 1, 0, i, _, _, g => by cases g
  | .ex k d :: r, j + 1, l + 1, i, nd, g, g' => by rw [varsOf_inj (as := r) (j := j) (l := l) nd g g']
  | .var i' :: r, 0, 0, i, nd, g, g' => rfl
  | .var i' :: r, 0, l + 1, i, nd, g, g' => by
    injection g with g; injection g with g; subst g
    exact absurd (varsOf_mem (as := r) (j := l) g') (List.nodup_cons.mp nd).1
  | .var i' :: r, j + 1, 0, i, nd, g, g' => by
    injection g' with g'; injection g' with g'; subst g'
    exact absurd (varsOf_mem (as := r) (j := j) g) (List.nodup_cons.mp nd).1
  | .var i' :: r, j + 1, l + 1, i, nd, g, g' => by rw [varsOf_inj (as := r) (j := j) (l := l) (List.nodup_cons.mp nd).2 g g']
/-- the frame behind the call -/
def backE : Env → List ArgS → List Slot → Env
  | ρ, .var i :: as, .own ds :: outs => backE (ρ.set i (some (.own ds))) as outs
  | ρ, _ :: as, _ :: outs => backE ρ as outs
  | ρ, _, _ => ρ
theorem backE_len : ∀ (as : List ArgS) (outs : List Slot) (ρ : Env), (backE ρ as outs).length = ρ.length
  | [], outs, ρ => by cases outs <;> rfl
  | a :: as, [], ρ => by cases a <;> rfl
  | .ex k d :: as, s :: outs, ρ => by
    show (backE ρ as outs).length = _
    exact backE_len as outs ρ
  | .var i :: as, .v k d :: outs, ρ => by
    show (backE ρ as outs).length = _
    exact backE_len as outs ρ
  | .var i :: as, .own ds :: outs, ρ => by
    show (backE (ρ.set i (some (.own ds))) as outs).length = _
    rw [backE_len as outs, List.length_set]
theorem backE_out : ∀ (as : List ArgS) (outs : List Slot) (ρ : Env) {j : Nat}, (∀ (l : Nat) ds, as[l]? = some (.var j) → outs[l]? ≠ some (.own ds)) → (backE ρ as outs)[j]? = ρ[j]?
  | [], outs, ρ, j, h => by cases outs <;> rfl
  | a :: as, [], ρ, j, h => by cases a <;> rfl
  | .ex k d :: as, s :: outs, ρ, j, h => by
    show (backE ρ as outs)[j]? = _
    exact backE_out as outs ρ fun l ds g => h (l + 1) ds g
  | .var i :: as, .v k d :: outs, ρ, j, h => by
    show (backE ρ as outs)[j]? = _
    exact backE_out as outs ρ fun l ds g => h (l + 1) ds g
  | .var i :: as, .own ds :: outs, ρ, j, h => by
    show (backE (ρ.set i (some (.own ds))) as outs)[j]? = _
    rw [backE_out as outs _ fun l ds g => h (l + 1) ds g]
    have : i ≠ j := fun q => h 0 ds (by rw [q]; rfl) rfl
    exact getset_ne this
theorem backE_in : ∀ (as : List ArgS) (outs : List Slot) (ρ : Env) {j l : Nat} {ds : List D}, (varsOf as).Nodup → j < ρ.length → as[l]? = some (.var j) → outs[l]? = some (.own ds) → (backE ρ as outs)[j]? = some (some (.own ds))
  | [], outs, ρ, j, l, ds, nd, hj, h, g => by cases h
  | a :: as, [], ρ, j, l, ds, nd, hj, h, g => by cases g
  | .ex k d :: as, s :: outs, ρ, j, 0, ds, nd, hj, h, g => by cases h
  | .ex k d :: as, s :: outs, ρ, j, l + 1, ds, nd, hj, h, g => by
    show (backE ρ as outs)[j]? = _
    exact backE_in as outs ρ (l := l) nd hj h g
  | .var i :: as, .v k d :: outs, ρ, j, 0, ds, nd, hj, h, g => by cases g
  | .var i :: as, .v k d :: outs, ρ, j, l + 1, ds, nd, hj, h, g => by
    show (backE ρ as outs)[j]? = _
    exact backE_in as outs ρ (l := l) (List.nodup_cons.mp nd).2 hj h g
  | .var i :: as, .own es :: outs, ρ, j, 0, ds, nd, hj, h, g => by
    injection h with h; injection h with h; subst h
    injection g with g; injection g with g; subst g
    show (backE (ρ.set i (some (.own es))) as outs)[i]? = _
    rw [backE_out as outs _ fun l ds q => (absurd (varsOf_mem q) (List.nodup_cons.mp nd).1)]
    rw [List.getElem?_set, if_pos rfl, if_pos hj]
  | .var i :: as, .own es :: outs, ρ, j, l + 1, ds, nd, hj, h, g => by
    show (backE (ρ.set i (some (.own es))) as outs)[j]? = _
    exact backE_in as outs _ (l := l) (List.nodup_cons.mp nd).2 (by rw [List.length_set]; exact hj) h g
/-! ### a def's promise -/
def callG (F H : Hp) (vs : List V) (args : List Slot) : Gx := ⟨F, H, vs, args.map isOwn⟩
def spD (K : PySem.W.Frag) (args : List Slot) (r : Slot) (outs : List Slot) : Sp := fun vs H Q _ => vs.length = args.length ∧ ∃ F, ER K (callG F H vs args) F H (vs.map some) (args.map some) ∧
  ∀ F' H' v, Ext F F' → ER K (callG F H vs args) F' H' (vs.map some) (outs.map some) → SR K (callG F H vs args) F' H' (vs.map some) (outs.map some) r v → Q v H'
/-- results that a caller can take -/
inductive ResOk : Slot → Prop where
  | val {d : D} : ResOk (.v true d)
  | own {ds : List D} : ResOk (.own ds)
theorem map_some_get {α : Type} {l : List α} {i : Nat} {x : α} : (l.map some)[i]? = some (some x) ↔ l[i]? = some x := by
  rw [List.getElem?_map]
  cases l[i]? <;> simp
/-- the argument is a list that the def may change -/
def OwnTo (outs args : List Slot) : Prop := outs.length = args.length ∧ ∀ (i : Nat) (s : Slot), args[i]? = some s → (isOwn s = true → ∃ ds : List DL.D, outs[i]? = some (Slot.own ds)) ∧ (isOwn s = false → outs[i]? = some s)
theorem call_env {vs : List V} (E : ER K G F H σ ρ) (ha : AsR K G F σ as vs) (ht : ArgsTo ρ as args) (nd : (varsOf as).Nodup) :
    ER K (callG F H vs args) F H (vs.map some) (args.map some) ∧ (∀ k, Ext (G.at F k) (callG F H vs args).Hv) ∧ (∀ (j : Nat) (a : List DL.D), ρ[j]? = some (some (Slot.own a)) → (∀ (l : Nat) (ds : List DL.D), as[l]? = some (ArgS.var j) → args[l]? ≠ some (Slot.own ds)) → ∀ (q : Addr) (w : HO), σ[j]? = some (some (V.ref q)) → H q = some w → (callG F H vs args).Hv q = some w) := by
  have hl : vs.length = args.length := ha.len.trans ht.len
  have msT {i : Nat} (h : (args.map isOwn)[i]? = some true) : ∃ j ds, args[i]? = some (.own ds) ∧ as[i]? = some (.var j) ∧ ρ[j]? = some (some (.own ds)) := by
    rw [List.getElem?_map] at h
    cases q : args[i]? with
    | none => rw [q] at h; cases h
    | some s =>
      rw [q] at h
      cases s with
      | v k d => cases h
      | own ds =>
        obtain ⟨x, h1, h2⟩ := ht.get q
        cases h2 with
        | own h => exact ⟨_, ds, rfl, h1, h⟩
  have vsT {i j : Nat} (h : as[i]? = some (.var j)) {b : Addr} (g : vs[i]? = some (.ref b)) : σ[j]? = some (some (.ref b)) := by
    obtain ⟨v, h1, h2⟩ := ha.var h
    rw [h1] at g; cases g; exact h2
  -- an address of a list that is handed over is not in what stays
  have hv {b : Addr} {o : HO} (h : H b = some o) (q : ∀ (i j : Nat) (ds : List DL.D), as[i]? = some (ArgS.var j) → args[i]? = some (Slot.own ds) → σ[j]? ≠ some (some (V.ref b))) : (callG F H vs args).Hv b = some o :=
    Gx.h0_hv (G := callG F H vs args) h fun i hi g => by
      obtain ⟨j, ds, h1, h2, _⟩ := msT hi
      exact q i j ds h2 h1 (vsT h2 g)
  have hE : ∀ k, Ext (G.at F k) (callG F H vs args).Hv := fun k b o h => hv (E.atH _ _ h) fun i j ds h1 h2 h3 => by
    obtain ⟨x, g1, g2⟩ := ht.get h2
    rw [h1] at g1; cases g1
    cases g2 with
    | own g2 =>
      obtain ⟨a, vs', q1, q2, q3, q4, q5⟩ := E.own j ds g2
      rw [h3] at q1; cases q1
      cases k with
      | true => rw [show F b = some o from h] at q3; cases q3
      | false =>
        rcases q4 with q4 | q4
        · rw [Gx.hv_h0 h] at q4; cases q4
        · obtain ⟨v, z1, z2⟩ := E.arg j q4
          rw [h3] at z2; cases z2
          exact Gx.hv_ne h q4 z1
  have hO : ∀ (j : Nat) (a : List DL.D), ρ[j]? = some (some (Slot.own a)) → (∀ (l : Nat) (ds : List DL.D), as[l]? = some (ArgS.var j) → args[l]? ≠ some (Slot.own ds)) → ∀ (q : Addr) (w : HO), σ[j]? = some (some (V.ref q)) → H q = some w → (callG F H vs args).Hv q = some w := fun j es hj hn q w hs hq =>
    hv hq fun i l ds h1 h2 h3 => by
      by_cases z : l = j
      · subst z; exact hn i ds h1 h2
      · obtain ⟨x, g1, g2⟩ := ht.get h2
        rw [h1] at g1; cases g1
        cases g2 with
        | own g2 => exact E.inj l j q ds es z g2 hj h3 hs
  refine ⟨⟨Ext.refl _, E.sub, fun b o h => .inl h, fun b o h => Gx.hv_h0 h, fun b o h => ⟨o, h⟩, fun i hi => ?_, fun i k d hi => ?_, fun i ds hi => ?_, fun i j a ds es n h1 h2 s1 s2 => ?_, by simp [hl]⟩, hE, hO⟩
  · obtain ⟨j, ds, h1, h2, h3⟩ := msT hi
    obtain ⟨v, g1, g2⟩ := ha.var h2
    exact ⟨v, g1, map_some_get.mpr g1⟩
  · rw [map_some_get] at hi
    obtain ⟨x, h1, h2⟩ := ht.get hi
    cases h2 with
    | val =>
      obtain ⟨v, g1, g2⟩ := ha.ex h1
      exact ⟨v, map_some_get.mpr g1, g2⟩
    | @view k' _ =>
      obtain ⟨v, g1, g2⟩ := ha.ex h1
      exact ⟨v, map_some_get.mpr g1, g2.view (hE k')⟩
    | sc hs =>
      obtain ⟨v, g1, g2⟩ := ha.ex h1
      exact ⟨v, map_some_get.mpr g1, rk_scal hs g2⟩
    | @bor j ds hj =>
      obtain ⟨v, g1, g2⟩ := ha.var h1
      obtain ⟨a, ws, q1, q2, q3, q4, q5⟩ := E.own j ds hj
      rw [q1] at g2; cases g2
      have hw : (callG F H vs args).Hv a = some (.lst ws) := hO j ds hj (fun l es z1 z2 => by
        have := varsOf_inj nd z1 h1
        subst this
        rw [hi] at z2; cases z2) a _ q1 q2
      refine ⟨_, map_some_get.mpr g1, rep_lst.mpr ⟨a, ws, rfl, .inl hw, Reps.mono (hE true) _ _ q5⟩, fun a' vs' e' h' => ?_⟩
      cases e'
      cases rd_inj (.inl hw) h'
      exact q5
  · rw [map_some_get] at hi
    obtain ⟨x, h1, h2⟩ := ht.get hi
    cases h2 with
    | @own j _ hj =>
      obtain ⟨v, g1, g2⟩ := ha.var h1
      obtain ⟨a, ws, q1, q2, q3, q4, q5⟩ := E.own j ds hj
      rw [q1] at g2; cases g2
      refine ⟨a, ws, map_some_get.mpr g1, q2, q3, .inr ?_, q5⟩
      show (args.map isOwn)[i]? = some true
      rw [List.getElem?_map, hi]; rfl
  · rw [map_some_get] at h1 h2 s1 s2
    obtain ⟨x, g1, g2⟩ := ht.get h1
    obtain ⟨y, g3, g4⟩ := ht.get h2
    cases g2 with
    | @own l _ hl1 =>
      cases g4 with
      | @own m _ hm1 =>
        have q1 := vsT g1 s1
        have q2 := vsT g3 s2
        refine E.inj l m a ds es (fun z => ?_) hl1 hm1 q1 q2
        subst z
        exact n (varsOf_inj nd g1 g3)
/-- what a call must give, from its arguments -/
theorem call_sp {F0 F1 H1 : Hp} {vs : List V} {Q : VK} {Ex : XK} (E1 : ER K G F1 H1 σ ρ1) (e1 : Ext F0 F1) (r1 : AsR K G F1 σ as vs) (ht : ArgsTo ρ1 as args) (nd : (varsOf as).Nodup) (ho : OwnTo outs args) (hres : ResOk r)
    (q : ∀ F' H' v, Ext F0 F' → ER K G F' H' σ (backE ρ1 as outs) → SR K G F' H' σ (backE ρ1 as outs) r v → Q v H') : spD K args r outs vs H1 Q Ex := by
  obtain ⟨Ec, hE, hO⟩ := call_env E1 r1 ht nd
  refine ⟨r1.len.trans ht.len, F1, Ec, fun F2 H2 v e2 E2 r2 => q F2 H2 v (e1.trans e2) ?_ ?_⟩
  · refine ⟨E1.ext.trans e2, E2.sub, fun b o h => ?_, fun b o h => E2.keep b o (hE false b o h), fun b o h => ?_, E1.arg, fun i k d h => ?_, fun i es h => ?_, fun i j b ds es n h1 h2 s1 s2 => ?_, by rw [backE_len]; exact E1.len⟩
    · rcases E2.new b o h with h | h
      · exact E1.new b o h
      · exact .inr (E1.h0 h)
    · obtain ⟨u, hu⟩ := E1.there b o h
      exact E2.there b u hu
    · have hi : ρ1[i]? = some (some (.v k d)) := by
        by_cases z : ∃ (l : Nat) (ds : List DL.D), as[l]? = some (.var i) ∧ outs[l]? = some (.own ds)
        · obtain ⟨l, ds, z1, z2⟩ := z
          have hil : i < ρ1.length := by
            have := (List.getElem?_eq_some_iff.mp h).1
            rw [backE_len] at this; exact this
          rw [backE_in as outs ρ1 nd hil z1 z2] at h
          cases h
        · rw [backE_out as outs ρ1 fun l ds z1 z2 => z ⟨l, ds, z1, z2⟩] at h
          exact h
      obtain ⟨v, g1, g2⟩ := E1.val i k d hi
      exact ⟨v, g1, g2.mono e2⟩
    · by_cases z : ∃ (l : Nat) (ds : List DL.D), as[l]? = some (.var i) ∧ outs[l]? = some (.own ds)
      · obtain ⟨l, ds, z1, z2⟩ := z
        have hil : i < ρ1.length := by
          have := (List.getElem?_eq_some_iff.mp h).1
          rw [backE_len] at this; exact this
        rw [backE_in as outs ρ1 nd hil z1 z2] at h
        injection h with h; injection h with h; injection h with h; subst h
        obtain ⟨a, ws, g1, g2, g3, g4, g5⟩ := E2.own l ds (map_some_get.mpr z2)
        rw [map_some_get] at g1
        obtain ⟨v, k1, k2⟩ := r1.var z1
        rw [g1] at k1; cases k1
        -- the caller's own word about this address
        have hl2 : l < args.length := by rw [← ho.1]; exact (List.getElem?_eq_some_iff.mp z2).1
        obtain ⟨s, hs⟩ : ∃ s, args[l]? = some s := ⟨_, List.getElem?_eq_getElem hl2⟩
        have hso : isOwn s = true := by
          cases hq : isOwn s with
          | true => rfl
          | false =>
            rw [((ho.2 l s hs).2 hq)] at z2
            injection z2 with z2; subst z2; cases hq
        obtain ⟨x, y1, y2⟩ := ht.get hs
        rw [z1] at y1; cases y1
        cases y2 with
        | bor => cases hso
        | own y2 =>
          obtain ⟨a', ws', m1, m2, m3, m4, m5⟩ := E1.own i _ y2
          rw [k2] at m1; cases m1
          exact ⟨a, ws, k2, g2, g3, m4, g5⟩
      · rw [backE_out as outs ρ1 fun l ds z1 z2 => z ⟨l, ds, z1, z2⟩] at h
        obtain ⟨a, ws, m1, m2, m3, m4, m5⟩ := E1.own i es h
        have hw : (callG F1 H1 vs args).Hv a = some (.lst ws) := hO i es h (fun l ds z1 z2 => by
          obtain ⟨us, hu⟩ := (ho.2 l _ z2).1 rfl
          exact z ⟨l, us, z1, hu⟩) a _ m1 m2
        refine ⟨a, ws, m1, E2.keep _ _ hw, ?_, m4, Reps.mono e2 _ _ m5⟩
        cases y : F2 a with
        | none => rfl
        | some o =>
          rcases E2.new a o y with y | y
          · rw [show F1 a = some o from y] at m3; cases m3
          · rw [show H1 a = none from y] at m2; cases m2
    · have back {i : Nat} {es : List DL.D} (h : (backE ρ1 as outs)[i]? = some (some (.own es))) : ∃ ds, ρ1[i]? = some (some (.own ds)) := by
        by_cases z : ∃ (l : Nat) (ds : List DL.D), as[l]? = some (.var i) ∧ outs[l]? = some (.own ds)
        · obtain ⟨l, ds, z1, z2⟩ := z
          have hl2 : l < args.length := by rw [← ho.1]; exact (List.getElem?_eq_some_iff.mp z2).1
          obtain ⟨s, hs⟩ : ∃ s, args[l]? = some s := ⟨_, List.getElem?_eq_getElem hl2⟩
          obtain ⟨x, y1, y2⟩ := ht.get hs
          rw [z1] at y1; cases y1
          cases y2 with
          | bor y2 => exact ⟨_, y2⟩
          | own y2 => exact ⟨_, y2⟩
        · rw [backE_out as outs ρ1 fun l ds z1 z2 => z ⟨l, ds, z1, z2⟩] at h
          exact ⟨es, h⟩
      obtain ⟨d1, h1⟩ := back h1
      obtain ⟨d2, h2⟩ := back h2
      exact E1.inj i j b d1 d2 n h1 h2 s1 s2
  · cases hres with
    | val => exact r2
    | own =>
      obtain ⟨a, ws, g1, g2, g3, g4, g5, g6⟩ := r2
      refine ⟨a, ws, g1, g2, g3, E1.h0 g4, g5, fun i es h hs => ?_⟩
      have : ∃ ds, ρ1[i]? = some (some (.own ds)) := by
        by_cases z : ∃ (l : Nat) (ds : List DL.D), as[l]? = some (.var i) ∧ outs[l]? = some (.own ds)
        · obtain ⟨l, ds, z1, z2⟩ := z
          have hl2 : l < args.length := by rw [← ho.1]; exact (List.getElem?_eq_some_iff.mp z2).1
          obtain ⟨s, hs⟩ : ∃ s, args[l]? = some s := ⟨_, List.getElem?_eq_getElem hl2⟩
          obtain ⟨x, y1, y2⟩ := ht.get hs
          rw [z1] at y1; cases y1
          cases y2 with
          | bor y2 => exact ⟨_, y2⟩
          | own y2 => exact ⟨_, y2⟩
        · rw [backE_out as outs ρ1 fun l ds z1 z2 => z ⟨l, ds, z1, z2⟩] at h
          exact ⟨es, h⟩
      obtain ⟨ds, h⟩ := this
      obtain ⟨a', ws', m1, m2, _⟩ := E1.own i ds h
      rw [hs] at m1; cases m1
      rw [show H1 a = none from g4] at m2; cases m2
/-- a call of a def of the text -/
theorem ed_call {kk : Nat} {f : Addr} {fd : FuncData} {ps : List Str} (Fo : FnOk X.prog X.w X.K X.mg X.base CX0 kk f fd ps (spD X.K args r outs)) (hr : Room kk X.A) (hg : Gl X n) (hm : X.mg n = some (.ref f)) (hk : PySem.W.keepIn X.K (.ref f) = true) (hb : Binds X.K fd ps [])
    (ha : EAs X G (a :: xs) ρ ρ1 as) (ht : ArgsTo ρ1 as args) (nd : (varsOf as).Nodup) (ho : OwnTo outs args) (hres : ResOk r) (hdb : (n == ("__debug__" : Str)) = false := by decide)
    (he : starEach (a :: xs) X.env = (false, eval a X.env) :: starEach xs X.env := by rfl) (hpl : (backTo pos (starEach xs X.env)).any (·.1) = false := by rfl) : ED X G (.Call (.Name n p) (a :: xs) [] pos) ρ (backE ρ1 as outs) r :=
  pe_mono (pe_call (E := fun _ _ _ => False) Fo hr hg hm hk hb .nil (fun _ _ _ _ _ _ _ h => h.elim) ha hdb he hpl) fun σ H Q ⟨F, E, q⟩ => ⟨F, E, fun F1 H1 vs e1 E1 r1 => by
    show spD X.K args r outs (vs ++ []) H1 Q _
    rw [List.append_nil]
    exact call_sp E1 e1 r1 ht nd ho hres q⟩
end
end DL
/-! DL4: the body of a def. -/
namespace DL
open PySem L2 PyProof.Rows
/-! ### the body of a def -/
inductive OwnL : List Slot → List Slot → Prop where
  | nil : OwnL [] []
  | v {k : Bool} {d : D} {os as : List Slot} (h : OwnL os as) : OwnL (.v k d :: os) (.v k d :: as)
  | own {ds es : List D} {os as : List Slot} (h : OwnL os as) : OwnL (.own es :: os) (.own ds :: as)
theorem OwnL.to {os as : List Slot} (h : OwnL os as) : OwnTo os as := by
  induction h with
  | nil => exact ⟨rfl, fun i s h => by cases h⟩
  | @v k d os as h ih =>
    refine ⟨by simp [ih.1], fun i s q => ?_⟩
    cases i with
    | zero => injection q with q; subst q; exact ⟨fun z => (nomatch z), fun _ => rfl⟩
    | succ i => exact ih.2 i s q
  | @own ds es os as h ih =>
    refine ⟨by simp [ih.1], fun i s q => ?_⟩
    cases i with
    | zero => injection q with q; subst q; exact ⟨fun _ => ⟨es, rfl⟩, fun z => (nomatch z)⟩
    | succ i => exact ih.2 i s q
section
variable {P : Program} {w : World} {K : PySem.W.Frag} {mg : Str → Option Value} {base : Heap}
/-- the frame at the start -/
def startE (N : List Str) (args : List Slot) : Env := args.map some ++ List.replicate (N.length - args.length) none
theorem start_get {N : List Str} {vs : List V} {i : Nat} {v : V} (h : vs[i]? = some v) : (L2.start N vs)[i]? = some (some v) := by
  unfold L2.start
  rw [List.getElem?_append_left (by rw [List.length_map]; exact (List.getElem?_eq_some_iff.mp h).1), map_some_get]; exact h
theorem startE_get {N : List Str} {args : List Slot} {i : Nat} {s : Slot} (h : (startE N args)[i]? = some (some s)) : args[i]? = some s := by
  unfold startE at h
  by_cases q : i < (args.map some).length
  · rw [List.getElem?_append_left q, map_some_get] at h; exact h
  · rw [List.getElem?_append_right (by omega), List.getElem?_replicate] at h
    split at h <;> cases h
/-- what a body's end must be: the value, and the lists that were handed in as they are now -/
def EndP (args : List Slot) (r : Slot) (outs : List Slot) : Out → Prop
  | .ret r' ρ' => r' = r ∧ ∀ (i : Nat) (ds : List DL.D), args[i]? = some (Slot.own ds) → ∃ es : List DL.D, outs[i]? = some (Slot.own es) ∧ ρ'[i]? = some (some (Slot.own es))
  | .nx ρ' => r = .val .non ∧ ∀ (i : Nat) (ds : List DL.D), args[i]? = some (Slot.own ds) → ∃ es : List DL.D, outs[i]? = some (Slot.own es) ∧ ρ'[i]? = some (some (Slot.own es))
  | _ => False
theorem end_env {args outs : List Slot} {F H F' H' : Hp} {vs : List V} {σ' : L2.St} {ρ' : Env} (ho : OwnTo outs args) (E0 : ER K (callG F H vs args) F H (vs.map some) (args.map some)) (e : Ext F F') (E : ER K (callG F H vs args) F' H' σ' ρ')
    (h : ∀ (i : Nat) (ds : List DL.D), args[i]? = some (Slot.own ds) → ∃ es : List DL.D, outs[i]? = some (Slot.own es) ∧ ρ'[i]? = some (some (Slot.own es))) :
    ER K (callG F H vs args) F' H' (vs.map some) (outs.map some) ∧ ∀ (i : Nat) (es : List DL.D), outs[i]? = some (Slot.own es) → ∃ v, vs[i]? = some v ∧ σ'[i]? = some (some v) ∧ ρ'[i]? = some (some (.own es)) := by
  have key : ∀ (i : Nat) (es : List DL.D), outs[i]? = some (Slot.own es) → (args.map isOwn)[i]? = some true ∧ ρ'[i]? = some (some (.own es)) := fun i es q => by
    have hl2 : i < args.length := by rw [← ho.1]; exact (List.getElem?_eq_some_iff.mp q).1
    obtain ⟨s, hs⟩ : ∃ s, args[i]? = some s := ⟨_, List.getElem?_eq_getElem hl2⟩
    cases s with
    | v k d => rw [(ho.2 i _ hs).2 rfl] at q; cases q
    | own ds =>
      obtain ⟨es', h1, h2⟩ := h i ds hs
      rw [h1] at q; injection q with q; injection q with q; subst q
      exact ⟨by rw [List.getElem?_map, hs]; rfl, h2⟩
  have key2 : ∀ (i : Nat) (es : List DL.D), outs[i]? = some (Slot.own es) → ∃ v, vs[i]? = some v ∧ σ'[i]? = some (some v) ∧ ρ'[i]? = some (some (.own es)) := fun i es q => by
    obtain ⟨h1, h2⟩ := key i es q
    obtain ⟨v, z1, z2⟩ := E.arg i h1
    exact ⟨v, z1, z2, h2⟩
  refine ⟨⟨E.ext, E.sub, E.new, E.keep, E.there, E0.arg, fun i k d hi => ?_, fun i es hi => ?_, fun i j b ds es n h1 h2 s1 s2 => ?_, ?_⟩, key2⟩
  · rw [map_some_get] at hi
    have hl2 : i < args.length := by rw [← ho.1]; exact (List.getElem?_eq_some_iff.mp hi).1
    obtain ⟨s, hs⟩ : ∃ s, args[i]? = some s := ⟨_, List.getElem?_eq_getElem hl2⟩
    cases s with
    | v k' d' =>
      rw [(ho.2 i _ hs).2 rfl] at hi
      injection hi with hi; injection hi with q1 q2; subst q1; subst q2
      obtain ⟨v, z1, z2⟩ := E0.val i k' d' (map_some_get.mpr hs)
      exact ⟨v, z1, z2.mono e⟩
    | own ds =>
      obtain ⟨es', h1, h2⟩ := h i ds hs
      rw [h1] at hi; cases hi
  · rw [map_some_get] at hi
    obtain ⟨v, z1, z2, z3⟩ := key2 i es hi
    obtain ⟨a, ws, g1, g2, g3, g4, g5⟩ := E.own i es z3
    rw [g1] at z2; cases z2
    exact ⟨a, ws, map_some_get.mpr z1, g2, g3, g4, g5⟩
  · rw [map_some_get] at h1 h2 s1 s2
    obtain ⟨v, z1, z2, z3⟩ := key2 i ds h1
    obtain ⟨v', y1, y2, y3⟩ := key2 j es h2
    rw [z1] at s1; cases s1
    rw [y1] at s2; cases s2
    exact E.inj i j b ds es n z3 y3 z2 y2
  · have := E0.len
    simp only [List.length_map] at this ⊢
    rw [ho.1]; exact this
/-- at the start of a def's body: the promise, as the body's rule wants it -/
theorem start_tS {N ps : List Str} {args outs : List Slot} {r : Slot} {vs : List V} {H : Hp} {Q : VK} {E : XK} (hN : N.take ps.length = ps) (hl : args.length = ps.length) (ho : OwnTo outs args) (h : spD K args r outs vs H Q E) :
    ∃ F, tS K (callG F H vs args) (startE N args) (EndP args r outs) { nx := fun _ H' => Q .non H', rt := Q } (L2.start N vs) H := by
  obtain ⟨hv, F, E0, q⟩ := h
  refine ⟨F, F, ?_, ?_, ?_, ?_, ?_⟩
  · have hN : vs.length ≤ N.length := by
      have h2 : (N.take ps.length).length = ps.length := by rw [hN]
      rw [List.length_take] at h2
      omega
    refine ⟨E0.ext, E0.sub, E0.new, E0.keep, E0.there, fun i hi => ?_, fun i k d hi => ?_, fun i ds hi => ?_, fun i j a ds es n h1 h2 s1 s2 => ?_, ?_⟩
    · obtain ⟨v, h1, h2⟩ := E0.arg i hi
      exact ⟨v, h1, start_get (map_some_get.mp h2)⟩
    · obtain ⟨v, h1, h2⟩ := E0.val i k d (map_some_get.mpr (startE_get hi))
      exact ⟨v, start_get (map_some_get.mp h1), h2⟩
    · obtain ⟨a, ws, h1, h2⟩ := E0.own i ds (map_some_get.mpr (startE_get hi))
      exact ⟨a, ws, start_get (map_some_get.mp h1), h2⟩
    · have g1 := startE_get h1
      have g2 := startE_get h2
      obtain ⟨a1, _, z1, _⟩ := E0.own i ds (map_some_get.mpr g1)
      obtain ⟨a2, _, z2, _⟩ := E0.own j es (map_some_get.mpr g2)
      rw [start_get (map_some_get.mp z1)] at s1; cases s1
      rw [start_get (map_some_get.mp z2)] at s2; cases s2
      exact E0.inj i j a ds es n (map_some_get.mpr g1) (map_some_get.mpr g2) z1 z2
    · simp only [L2.start, startE, List.length_append, List.length_map, List.length_replicate]
      omega
  · rintro ρ' F' H' σ' ⟨rfl, h⟩ e E1
    obtain ⟨E2, _⟩ := end_env ho E0 e E1 h
    exact q F' H' .non e E2 sr_non
  · rintro r' ρ' F' H' σ' v ⟨rfl, h⟩ e E1 r1
    obtain ⟨E2, k2⟩ := end_env ho E0 e E1 h
    refine q F' H' v e E2 ?_
    cases r' with
    | v k d => exact r1
    | own ds =>
      obtain ⟨a, ws, g1, g2, g3, g4, g5, g6⟩ := r1
      refine ⟨a, ws, g1, g2, g3, g4, g5, fun i es hi hs => ?_⟩
      rw [map_some_get] at hi hs
      obtain ⟨u, z1, z2, z3⟩ := k2 i es hi
      rw [z1] at hs; cases hs
      exact g6 i es z3 z2
  · rintro ρ' F' H' σ' h; exact h.elim
  · rintro ρ' F' H' σ' h; exact h.elim
theorem fnD {x qual : Str} {st : Stmt} {f : Addr} {fd : FuncData} {N ps : List Str} {k : Nat} {args outs : List Slot} {r : Slot} (Fu : Fun K x qual st f fd) (S : FnScope N ps (defScope st)) (hl : args.length = ps.length) (ho : OwnTo outs args)
    (hbody : ∀ (cdv : Value) (A : Around) (outer : List PySem.Env) (s : Shared) (H F0 : Hp) (vs : List V) (E : XK), Room k (A.deeper (envOfC qual (defScope st) s.heap.objs.size f cdv)) →
      BD (cxOf CX0 P w K mg base N qual (defScope st) f cdv A outer s H E).nox (callG F0 H vs args) (defBody st) (startE N args) (EndP args r outs)) : FnOk P w K mg base CX0 (k + 1) f fd ps (spD K args r outs) := by
  refine Fu.ok S (fun vs H Q E h => h.1.trans hl) fun cdv A outer s H vs Q E hr h => ?_
  obtain ⟨F, h⟩ := start_tS S.pre hl ho h
  exact ⟨_, hbody cdv A outer s H F vs E hr, h⟩
inductive EndL : List Slot → List Slot → Env → Prop where
  | nil {ρ : Env} : EndL [] [] ρ
  | v {k : Bool} {d : D} {o : Slot} {x : Option Slot} {as os : List Slot} {ρ : Env} (h : EndL as os ρ) : EndL (.v k d :: as) (o :: os) (x :: ρ)
  | own {ds es es' : List D} {as os : List Slot} {ρ : Env} (e : es' = es) (h : EndL as os ρ) : EndL (.own ds :: as) (.own es :: os) (some (.own es') :: ρ)
theorem EndL.to {as os : List Slot} {ρ : Env} (h : EndL as os ρ) : ∀ (i : Nat) (ds : List DL.D), as[i]? = some (Slot.own ds) → ∃ es : List DL.D, os[i]? = some (Slot.own es) ∧ ρ[i]? = some (some (Slot.own es)) := by
  induction h with
  | nil => intro i ds q; cases q
  | v h ih =>
    intro i ds q
    cases i with
    | zero => cases q
    | succ i => exact ih i ds q
  | @own ds es es' as os ρ e h ih =>
    intro i ds q
    cases i with
    | zero => subst e; exact ⟨_, rfl, rfl⟩
    | succ i => exact ih i ds q
theorem ms_ne {o : Option Bool} (h : o = none ∨ o = some false) : o ≠ some true := by
  rcases h with h | h <;> (rw [h]; intro q; cases q)
end
end DL
/-! DL5: what is walked: for over anything, list comprehensions with what changes on the way. -/
namespace DL
open PySem L2
section
variable {X : Cx} {G G' : Gx} {e a b c : Expr} {ρ ρ' ρ0 ρ1 ρ2 ρ3 : Env} {r s z s1 s2 : Slot} {d x y w : D} {ds es : List D} {K : PySem.W.Frag} {F F1 F' H H' : Hp} {σ : L2.St} {v u : V} {pos p : Pos} {k k1 k2 : Bool} {n : Str} {xs : List Expr} {m i j : Nat}
/-! ### what a walk gives -/
inductive Yld where
  | one (s : Slot)
  | two (k1 : Bool) (d1 : D) (k2 : Bool) (d2 : D)
def YRep (K : PySem.W.Frag) (G : Gx) (F : Hp) : Yld → V → Hp → Hp → Prop
  | .one (.v k d), x, H, H' => H' = H ∧ RK K G F k d x
  | .one (.own _), _, _, _ => False
  | .two k1 d1 k2 d2, x, H, H' => ∃ T x1 x2, x = V.ref T ∧ H T = none ∧ H' = upd H T (.tup [x1, x2]) ∧ RK K G F k1 d1 x1 ∧ RK K G F k2 d2 x2
def WkOk (K : PySem.W.Frag) (G : Gx) (F : Hp) (J : It) (m : Nat) (it : Nat → Yld) : Prop :=
  ∃ Gd Y, Walk J m Gd Y ∧ (∀ H, Ext F H → Ext G.Hv H → Gd H) ∧ ∀ t H x H', t < m → Ext F H → Ext G.Hv H → Y t H x H' → YRep K G F (it t) x H H'
def tW (K : PySem.W.Frag) (G : Gx) (ρ ρ1 : Env) (m : Nat) (it : Nat → Yld) : TI := fun σ H R => ∃ F, ER K G F H σ ρ ∧ ∀ F' H' J, Ext F F' → ER K G F' H' σ ρ1 → WkOk K G F' J m it → R J H'
abbrev WD (X : Cx) (G : Gx) (tg iter : Expr) (ρ ρ1 : Env) (m : Nat) (it : Nat → Yld) : Prop := PI X tg iter (tW X.K G ρ ρ1 m it)
theorem pi_mono {tg iter : Expr} {t t' : TI} (h : PI X tg iter t) (i : ∀ σ H R, t' σ H R → t σ H R) : PI X tg iter t' := ⟨fun pins s σ H R I q => h.run pins s σ H R I (i σ H R q)⟩
/-! ### targets -/
def setAll : L2.St → List Nat → List V → L2.St
  | σ, i :: is, v :: vs => setAll (σ.set i (some v)) is vs
  | σ, _, _ => σ
def TgR (K : PySem.W.Frag) (G : Gx) (g : TG) (ix : List Nat) (y : Yld) (f : Env → Env) : Prop :=
  ∀ F1 F H H' σ ρ x Q, Ext F1 F → ER K G F H σ ρ → YRep K G F1 y x H H' → (∀ H'' ws, Ext H' H'' → ER K G F H'' (setAll σ ix ws) (f ρ) → Q (setAll σ ix ws) H'') → g x σ H' Q
theorem tg_name (hm : G.ms[i]? ≠ some true) : TgR K G (gName i) [i] (.one (.v k d)) fun ρ => ρ.set i (some (.v k d)) := fun F1 F H H' σ ρ x Q e E y q => by
  obtain ⟨rfl, y⟩ := y
  exact q H' [x] (Ext.refl _) (E.put (r := .v k d) (RK.mono e y) hm)
/-- names for the items of a tuple -/
def gNames : List Nat → TGs
  | [] => gNil
  | i :: is => gCons (gName i) (gNames is)
def setE : Env → List Nat → Bool → List D → Env
  | ρ, i :: is, k, d :: ds => setE (ρ.set i (some (.v k d))) is k ds
  | ρ, _, _, _ => ρ
theorem gNames_ok : ∀ {ix : List Nat} {ds : List D} {vs : List V} {F H : Hp} {σ : L2.St} {ρ : Env} {Q : L2.St → Hp → Prop}, ix.length = ds.length → (∀ i ∈ ix, G.ms[i]? ≠ some true) → ER K G F H σ ρ → Reps K F ds vs →
    (ER K G F H (setAll σ ix vs) (setE ρ ix true ds) → Q (setAll σ ix vs) H) → gNames ix vs σ H Q
  | [], [], vs, F, H, σ, ρ, Q, hl, hm, E, r, q => by
    rw [r.nil_of]; exact ⟨rfl, q E⟩
  | i :: ix, d :: ds, vs, F, H, σ, ρ, Q, hl, hm, E, r, q => by
    obtain ⟨v, t, rfl, h2, h3⟩ := r.cons_of
    refine ⟨v, t, rfl, ?_⟩
    exact gNames_ok (ix := ix) (ds := ds) (by simpa using hl) (fun i hi => hm i (List.mem_cons_of_mem _ hi)) (E.put (r := .v true d) h2 (hm i (List.mem_cons_self ..))) h3 q
  | [], d :: ds, vs, F, H, σ, ρ, Q, hl, hm, E, r, q => by cases hl
  | i :: ix, [], vs, F, H, σ, ρ, Q, hl, hm, E, r, q => by cases hl
theorem tg_tup {ix : List Nat} (hl : ix.length = ds.length) (hm : ∀ i ∈ ix, G.ms[i]? ≠ some true) : TgR K G (gTup K ix.length (gNames ix)) ix (.one (.v k (.tup ds))) fun ρ => setE ρ ix true ds := fun F1 F H H' σ ρ x Q e E y q => by
  obtain ⟨rfl, y⟩ := y
  obtain ⟨a, vs, rfl, h2, h3⟩ := RK.tup y
  have h3' := Reps.mono e _ _ h3
  refine ⟨a, vs, rfl, E.sub.sqT (e.sqT h2.1), by rw [h3.length, hl], gNames_ok hl hm E h3' fun E' => q H' vs (Ext.refl _) E'⟩
theorem tg_two {i j : Nat} (h1 : G.ms[i]? ≠ some true) (h2 : G.ms[j]? ≠ some true) {d1 d2 : D} : TgR K G (gTup K 2 (gNames [i, j])) [i, j] (.two k1 d1 k2 d2) fun ρ => (ρ.set i (some (.v k1 d1))).set j (some (.v k2 d2)) := fun F1 F H H' σ ρ x Q e E y q => by
  obtain ⟨T, x1, x2, rfl, hT, rfl, r1, r2⟩ := y
  refine ⟨T, [x1, x2], rfl, SqT.of upd_same, rfl, x1, [x2], rfl, x2, [], rfl, rfl, ?_⟩
  have E1 := (E.lay0 (o := .tup [x1, x2]) hT).put (r := .v k1 d1) (RK.mono e r1) h1
  have E2 := E1.put (r := .v k2 d2) (RK.mono e r2) h2
  exact q _ [x1, x2] (Ext.refl _) E2
theorem pgs_nil' : PGs X [] (gNames []) := pgs_nil
theorem pgs_cons' {ex : Expr} {es : List Expr} {i : Nat} {is : List Nat} (h1 : PG X ex (gName i)) (h2 : PGs X es (gNames is)) (hs : (assignEach (ex :: es) X.env).map (·.2) = assign ex X.env :: (assignEach es X.env).map (·.2) := by rfl) : PGs X (ex :: es) (gNames (i :: is)) := pgs_cons h1 h2 hs
/-! ### for over anything -/
variable {st : Stmt} {rest sts els : List Stmt} {P : Out → Prop}
def tTurnW (K : PySem.W.Frag) (G : Gx) (m : Nat) (ft : Nat → Env → Env) (J : Nat → Env → Prop) (P : Out → Prop) : TS := fun D σ H => ∃ q : Nat × Env, (q.1 < m ∧ J q.1 q.2) ∧ tS K G (ft q.1 q.2) (turnP (J (q.1 + 1)) P) D σ H
theorem sd_forW {tg iter : Expr} {g : TG} {ix : List Nat} {it : Nat → Yld} {ft : Nat → Env → Env} (J : Nat → Env → Prop) (hw : WD X G tg iter ρ ρ1 m it) (hg : PG X tg g) (hy : ∀ t, t < m → TgR X.K G g ix (it t) (ft t)) (h0 : J 0 ρ1)
    (ht : ∀ t ρ', t < m → J t ρ' → BD X G sts (ft t ρ') (turnP (J (t + 1)) P)) (hd : ∀ ρ', J m ρ' → P (.nx ρ')) (hp : PassesOwn (model X.prog X.w) X.A X.env X.xe) (hc : X.calm = true) (hs : ∀ x, foldedSetIterable iter X.env x = pure x := by intro _; rfl) : SD X G (.For tg iter sts [] pos) ρ P := by
  have hb : PSs X sts (tTurnW X.K G m ft J P) := pss_any fun q hq => ht q.1 q.2 hq.1 hq.2
  refine ps_mono (ps_for hp hc hw hg hb hs) fun D σ H ⟨F, E, q1, q2, q3, q4⟩ => ⟨F, E, fun F1 H1 Jt e1 E1 wk => ?_⟩
  obtain ⟨Gd, Y, W, hG, hY⟩ := wk
  refine for_it W (g := g) (tb := tTurnW X.K G m ft J P) (D := D) (fun t σ' H' => ∃ F' ρ', J t ρ' ∧ Ext F1 F' ∧ ER X.K G F' H' σ' ρ') ⟨F1, ρ1, h0, Ext.refl _, E1⟩ ?_ ?_ ?_
  · rintro t σ' H' _ ⟨F', ρ', _, e2, E2⟩
    exact hG H' (e2.trans E2.sub) E2.keep
  · rintro t x σ' H' H2 hx ⟨F', ρ', hj, e2, E2⟩ y
    refine hy t hx F1 F' H' H2 σ' ρ' x _ e2 E2 (hY t H' x H2 hx (e2.trans E2.sub) E2.keep y) fun H3 ws _ E3 => ?_
    refine ⟨(t, ρ'), ⟨hx, hj⟩, F', E3, ?_, ?_, ?_, ?_⟩
    · exact fun ρ4 F4 H4 σ4 h4 e4 E4 => ⟨F4, ρ4, h4, e2.trans e4, E4⟩
    · exact fun r ρ4 F4 H4 σ4 v h4 e4 E4 r4 => q2 r ρ4 F4 H4 σ4 v h4 ((e1.trans e2).trans e4) E4 r4
    · exact fun ρ4 F4 H4 σ4 h4 e4 E4 => q1 ρ4 F4 H4 σ4 h4 ((e1.trans e2).trans e4) E4
    · exact fun ρ4 F4 H4 σ4 h4 e4 E4 => ⟨F4, ρ4, h4, e2.trans e4, E4⟩
  · rintro σ' H' ⟨F', ρ', hj, e2, E2⟩
    exact q1 ρ' F' H' σ' (hd ρ' hj) (e1.trans e2) E2
/-! ### walks -/
theorem wk_list {tg : Expr} (h : ED X G e ρ ρ1 (.v k (.lst ds))) {dx : D} : WD X G tg e ρ ρ1 ds.length (fun t => .one (.val (ds.getD t dx))) :=
  pi_mono (pi_list h) fun σ H R ⟨F, E, q⟩ => ⟨F, E, fun F1 H1 v e1 E1 r1 => by
    obtain ⟨a, vs, rfl, hl, hr⟩ : ∃ a vs, v = V.ref a ∧ Rd (G.at F1 k) a (.lst vs) ∧ Reps X.K F1 ds vs := RK.lst r1
    refine ⟨a, rfl, ⟨vs, sql_rd (E1.atH.rd hl)⟩, q F1 H1 _ e1 E1 ⟨_, _, by rw [← hr.length]; exact walk_list (K := X.K) (a := a) (xs := vs), fun H e2 e3 => sql_rd ?_, fun t H x H' ht _ _ y => ?_⟩⟩
    · cases k
      · exact Ext.rd e3 hl
      · exact Ext.rd e2 hl
    · obtain ⟨d, h1, h2⟩ := hr.get y.2
      have : ds.getD t dx = d := by rw [List.getD_eq_getElem?_getD, h1]; rfl
      show YRep X.K G F1 (.one (.val (ds.getD t dx))) x H H'
      rw [this]
      exact ⟨y.1, h2⟩⟩
theorem wk_tup {tg : Expr} (h : ED X G e ρ ρ1 (.v k (.tup ds))) {dx : D} : WD X G tg e ρ ρ1 ds.length (fun t => .one (.val (ds.getD t dx))) :=
  pi_mono (pi_tup h) fun σ H R ⟨F, E, q⟩ => ⟨F, E, fun F1 H1 v e1 E1 r1 => by
    obtain ⟨a, vs, rfl, ⟨hl, _⟩, hr⟩ : ∃ a vs, v = V.ref a ∧ SqX X.K F1 a vs ∧ Reps X.K F1 ds vs := RK.tup r1
    refine ⟨a, rfl, ⟨vs, E1.sub.sqT hl⟩, q F1 H1 _ e1 E1 ⟨_, _, by rw [← hr.length]; exact walk_tup (K := X.K) (a := a) (xs := vs), fun H e2 e3 => ?_, fun t H x H' ht _ _ y => ?_⟩⟩
    · exact Ext.sqT e2 hl
    · obtain ⟨d, h1, h2⟩ := hr.get y.2
      have : ds.getD t dx = d := by rw [List.getD_eq_getElem?_getD, h1]; rfl
      show YRep X.K G F1 (.one (.val (ds.getD t dx))) x H H'
      rw [this]
      exact ⟨y.1, h2⟩⟩
theorem wk_range {tg : Expr} {h : Int} {p3 p4 : Pos} (hg : Gl X "range") (hm : X.mg "range" = none) (ha : ED X G a ρ ρ1 (.v k (.int h))) (hz : -(2 ^ 62) ≤ h ∧ h < 2 ^ 62) (hs : starEach [a] X.env = [(false, eval a X.env)] := by rfl) :
    WD X G tg (.Call (.Name "range" p3) [a] [] p4) ρ ρ1 h.toNat (fun t => .one (.val (.int (t : Int)))) :=
  pi_mono (pi_range1 hg hm (ea_one ha hs) hs) fun σ H R ⟨F, E, q⟩ => ⟨F, E, fun F1 H1 v e1 E1 r1 => by
    have := of_int r1
    subst this
    refine ⟨h, rfl, hz.1, hz.2, q F1 H1 _ e1 E1 ⟨_, _, walk_range, fun _ _ _ => trivial, fun t H x H' ht _ _ y => ⟨y.1, ?_⟩⟩⟩
    rw [rk_int, y.2]
    show V.int ((0 : Int) + (t : Int)) = _
    rw [Int.zero_add]⟩
theorem wk_str {tg : Expr} {z : Str} (h : ED X G e ρ ρ1 (.v k (.str z))) : WD X G tg e ρ ρ1 z.cps.size (fun t => .one (.val (.str ⟨#[z.cps.getD t 0]⟩))) :=
  pi_mono (pi_str h) fun σ H R ⟨F, E, q⟩ => ⟨F, E, fun F1 H1 v e1 E1 r1 => by
    have := of_str r1
    subst this
    refine ⟨z, rfl, q F1 H1 _ e1 E1 ⟨_, _, walk_str, fun _ _ _ => trivial, fun t H x H' ht _ _ y => ?_⟩⟩
    obtain ⟨y1, c, y2, y3⟩ := y
    refine ⟨y1, ?_⟩
    rw [rk_str, y3]
    have : z.cps.getD t 0 = c := by rw [Array.getD_eq_getD_getElem?, y2]; rfl
    rw [this]⟩
end
end DL
/-! DL6: list comprehensions. -/
namespace DL
open PySem L2 PyProof.Rows
section
variable {X : Cx} {G G' : Gx} {e a b c : Expr} {ρ ρ' ρ0 ρ1 ρ2 ρ3 : Env} {r s z s1 s2 : Slot} {d x y w : D} {ds es : List D} {K : PySem.W.Frag} {F F1 F' H H' : Hp} {σ : L2.St} {v u : V} {pos p : Pos} {k k1 k2 : Bool} {n : Str} {xs : List Expr} {m i j : Nat}
def maskE (ρ : Env) : List Bool := ρ.map fun o => match o with | some (.own _) => true | _ => false
theorem maskE_own : (maskE ρ)[i]? = some true → ∃ ds, ρ[i]? = some (some (.own ds)) := fun h => by
  unfold maskE at h
  rw [List.getElem?_map] at h
  cases q : ρ[i]? with
  | none => rw [q] at h; cases h
  | some o =>
    rw [q] at h
    match o, h with
    | some (.own ds), _ => exact ⟨ds, rfl⟩
    | some (.v k d), h => cases h
    | none, h => cases h
theorem own_maskE (h : ρ[i]? = some (some (.own ds))) : (maskE ρ)[i]? = some true := by
  unfold maskE; rw [List.getElem?_map, h]; rfl
/-- the same frame, seen from where it stands -/
def reG (F H : Hp) (σ : L2.St) (ρ : Env) : Gx := ⟨F, H, σ.map (·.getD .non), maskE ρ⟩
theorem reG_vs (h : σ[i]? = some (some v)) : (reG F H σ ρ).vs[i]? = some v := by
  show (σ.map (·.getD .non))[i]? = _
  rw [List.getElem?_map, h]; rfl
theorem reG_hv (E : ER K G F H σ ρ) {b : Addr} {o : HO} (h : H b = some o) (n : ∀ (i : Nat) (es : List DL.D), ρ[i]? = some (some (Slot.own es)) → σ[i]? ≠ some (some (V.ref b))) : (reG F H σ ρ).Hv b = some o :=
  Gx.h0_hv (G := reG F H σ ρ) h fun i hi hv => by
    obtain ⟨ds, hd⟩ := maskE_own hi
    obtain ⟨a, vs, h1, _⟩ := E.own i ds hd
    rw [reG_vs h1] at hv; cases hv
    exact n i ds hd h1
theorem reG_ext (E : ER K G F H σ ρ) : Ext G.Hv (reG F H σ ρ).Hv := fun b o h => reG_hv E (E.keep _ _ h) fun i es hi hs => by
  obtain ⟨a, vs, h1, h2, h3, h4, h5⟩ := E.own i es hi
  rw [h1] at hs; cases hs
  rcases h4 with h4 | h4
  · rw [Gx.hv_h0 h] at h4; cases h4
  · obtain ⟨v, z1, z2⟩ := E.arg i h4
    rw [h1] at z2; cases z2
    exact Gx.hv_ne h h4 z1
theorem ER.rebase (E : ER K G F H σ ρ) : ER K (reG F H σ ρ) F H σ ρ where
  ext := Ext.refl _
  sub := E.sub
  new := fun b o h => .inl h
  keep := fun b o h => Gx.hv_h0 h
  there := fun b o h => ⟨o, h⟩
  arg := fun i hi => by
    obtain ⟨ds, hd⟩ := maskE_own hi
    obtain ⟨a, vs, h1, _⟩ := E.own i ds hd
    exact ⟨_, reG_vs h1, h1⟩
  val := fun i k d hi => by
    obtain ⟨v, h1, h2⟩ := E.val i k d hi
    refine ⟨v, h1, ?_⟩
    cases k
    · exact h2.view (reG_ext E)
    · exact h2
  own := fun i ds hi => by
    obtain ⟨a, vs, h1, h2, h3, h4, h5⟩ := E.own i ds hi
    exact ⟨a, vs, h1, h2, h3, .inr (own_maskE hi), h5⟩
  inj := E.inj
  len := E.len
def keepV : Option Slot → Option Slot
  | some (.v k d) => some (.v k d)
  | _ => none
def backV : Option Slot → Option Slot → Option Slot
  | _, some (.own es) => some (.own es)
  | _, some (.v true d) => some (.v true d)
  | a, some (.v false _) => keepV a
  | _, none => none
def mg1 : Bool → Option Slot → Option Slot → Option Slot
  | true, a, _ => keepV a
  | false, a, b => backV a b
/-- the frame behind a turn: what the turn did to the lists of one's own; the names of the comprehension as they were -/
def mergeE : Nat → Env → Env → List Nat → Env
  | j, a :: ρ, b :: ρ3, vs => mg1 (vs.contains j) a b :: mergeE (j + 1) ρ ρ3 vs
  | _, _, _, _ => []
theorem mergeE_len : ∀ {ρ ρ3 : Env} {j : Nat} {vs : List Nat}, ρ3.length = ρ.length → (mergeE j ρ ρ3 vs).length = ρ.length
  | [], [], j, vs, h => rfl
  | a :: ρ, b :: ρ3, j, vs, h => by
    show (mergeE (j + 1) ρ ρ3 vs).length + 1 = ρ.length + 1
    rw [mergeE_len (by simpa using h)]
  | [], b :: ρ3, j, vs, h => by cases h
  | a :: ρ, [], j, vs, h => by cases h
theorem mergeE_get : ∀ {ρ ρ3 : Env} {j i : Nat} {vs : List Nat} {o : Option Slot}, (mergeE j ρ ρ3 vs)[i]? = some o → ∃ a b, ρ[i]? = some a ∧ ρ3[i]? = some b ∧ o = mg1 (vs.contains (j + i)) a b
  | [], ρ3, j, i, vs, o, h => by cases ρ3 <;> cases h
  | a :: ρ, [], j, i, vs, o, h => by cases h
  | a :: ρ, b :: ρ3, j, 0, vs, o, h => by
    injection h with h
    exact ⟨a, b, rfl, rfl, h.symm⟩
  | a :: ρ, b :: ρ3, j, i + 1, vs, o, h => by
    obtain ⟨a', b', h1, h2, h3⟩ := mergeE_get (ρ := ρ) (ρ3 := ρ3) (j := j + 1) (i := i) h
    exact ⟨a', b', h1, h2, by rw [h3, show j + 1 + i = j + (i + 1) by omega]⟩
def wipeE (ρ : Env) : List Nat → Env
  | [] => ρ
  | v :: vs => (wipeE ρ vs).set v none
theorem wipeE_len : ∀ {vs : List Nat}, (wipeE ρ vs).length = ρ.length
  | [] => rfl
  | v :: vs => by show ((wipeE ρ vs).set v none).length = _; rw [List.length_set, wipeE_len]
theorem wipeE_get : ∀ {vs : List Nat} {s : Slot}, (wipeE ρ vs)[i]? = some (some s) → ρ[i]? = some (some s) ∧ i ∉ vs
  | [], s, h => ⟨h, by simp⟩
  | v :: vs, s, h => by
    rcases getset_or (show ((wipeE ρ vs).set v none)[i]? = some (some s) from h) with ⟨_, h⟩ | ⟨ne, h⟩
    · cases h
    · obtain ⟨h1, h2⟩ := wipeE_get (vs := vs) h
      exact ⟨h1, by simp only [List.mem_cons, not_or]; exact ⟨fun q => ne q.symm, h2⟩⟩
theorem wipe_eq : ∀ {vs : List Nat}, i ∉ vs → (wipe σ vs)[i]? = σ[i]?
  | [], h => rfl
  | v :: vs, h => by
    simp only [List.mem_cons, not_or] at h
    show ((wipe σ vs).set v none)[i]? = _
    rw [getset_ne (fun q => h.1 q.symm), wipe_eq h.2]
theorem ER.wiped (E : ER K G F H σ ρ) {vs : List Nat} (hm : ∀ i ∈ vs, G.ms[i]? ≠ some true) : ER K G F H (wipe σ vs) (wipeE ρ vs) where
  ext := E.ext
  sub := E.sub
  new := E.new
  keep := E.keep
  there := E.there
  arg := fun i hi => by
    obtain ⟨v, h1, h2⟩ := E.arg i hi
    exact ⟨v, h1, by rw [wipe_eq fun q => hm i q hi]; exact h2⟩
  val := fun i k d hi => by
    obtain ⟨h1, h2⟩ := wipeE_get hi
    obtain ⟨v, g1, g2⟩ := E.val i k d h1
    exact ⟨v, by rw [wipe_eq h2]; exact g1, g2⟩
  own := fun i ds hi => by
    obtain ⟨h1, h2⟩ := wipeE_get hi
    obtain ⟨a, ws, g1, g2⟩ := E.own i ds h1
    exact ⟨a, ws, by rw [wipe_eq h2]; exact g1, g2⟩
  inj := fun i j a ds es ne h1 h2 s1 s2 => by
    obtain ⟨h1, n1⟩ := wipeE_get h1
    obtain ⟨h2, n2⟩ := wipeE_get h2
    rw [wipe_eq n1] at s1; rw [wipe_eq n2] at s2
    exact E.inj i j a ds es ne h1 h2 s1 s2
  len := by rw [wipe_length, wipeE_len]; exact E.len
theorem setAll_get : ∀ {ix : List Nat} {ws : List V} {σ : L2.St}, j ∉ ix → (setAll σ ix ws)[j]? = σ[j]?
  | [], ws, σ, h => by cases ws <;> rfl
  | i :: ix, [], σ, h => rfl
  | i :: ix, w :: ws, σ, h => by
    simp only [List.mem_cons, not_or] at h
    show (setAll (σ.set i (some w)) ix ws)[j]? = _
    rw [setAll_get h.2, getset_ne (fun q => h.1 q.symm)]
theorem setAll_len : ∀ {ix : List Nat} {ws : List V} {σ : L2.St}, (setAll σ ix ws).length = σ.length
  | [], ws, σ => by cases ws <;> rfl
  | i :: ix, [], σ => rfl
  | i :: ix, w :: ws, σ => by
    show (setAll (σ.set i (some w)) ix ws).length = _
    rw [setAll_len, List.length_set]
theorem wipe_in : ∀ {vs : List Nat}, i ∈ vs → i < σ.length → (wipe σ vs)[i]? = some none
  | [], h, _ => by cases h
  | v :: vs, h, hl => by
    show ((wipe σ vs).set v none)[i]? = _
    by_cases q : v = i
    · subst q; rw [List.getElem?_set, if_pos rfl, if_pos (by rw [wipe_length]; exact hl)]
    · rw [getset_ne q]
      rcases List.mem_cons.mp h with h | h
      · exact absurd h.symm q
      · exact wipe_in h hl
theorem wipe_setAll {ix vs : List Nat} {ws : List V} (h : ∀ i ∈ ix, i ∈ vs) : wipe (setAll (wipe σ vs) ix ws) vs = wipe σ vs := by
  apply List.ext_getElem?
  intro i
  by_cases hi : i ∈ vs
  · by_cases hl : i < σ.length
    · rw [wipe_in hi (by rw [setAll_len, wipe_length]; exact hl), wipe_in hi hl]
    · rw [List.getElem?_eq_none (by rw [wipe_length, setAll_len, wipe_length]; omega), List.getElem?_eq_none (by rw [wipe_length]; omega)]
  · rw [wipe_eq hi, setAll_get (fun q => hi (h i q))]
/-- a target does not make lists of one's own -/
def FtOk (ix : List Nat) (ft : Env → Env) : Prop := ∀ ρ (j : Nat), ((ft ρ).length = ρ.length) ∧ ∀ es, (ft ρ)[j]? = some (some (.own es)) → j ∉ ix ∧ ρ[j]? = some (some (.own es))
theorem ft_name : FtOk [i] fun ρ => ρ.set i (some (.v k d)) := fun ρ j => ⟨List.length_set, fun es h => by
  rcases getset_or h with ⟨_, h⟩ | ⟨ne, h⟩
  · cases h
  · exact ⟨by simpa using fun q => ne q.symm, h⟩⟩
theorem ft_two {d1 d2 : D} : FtOk [i, j] fun ρ => (ρ.set i (some (.v k1 d1))).set j (some (.v k2 d2)) := fun ρ l => ⟨by rw [List.length_set, List.length_set], fun es h => by
  rcases getset_or h with ⟨_, h⟩ | ⟨ne, h⟩
  · cases h
  · rcases getset_or h with ⟨_, h⟩ | ⟨ne2, h⟩
    · cases h
    · exact ⟨by simp only [List.mem_cons, List.not_mem_nil, or_false, not_or]; exact ⟨fun q => ne2 q.symm, fun q => ne q.symm⟩, h⟩⟩
theorem setE_ft : ∀ {ix : List Nat} {ds : List D}, ix.length = ds.length → FtOk ix fun ρ => setE ρ ix k ds
  | [], ds, hl => fun ρ j => ⟨by cases ds <;> rfl, fun es h => by cases ds <;> exact ⟨by simp, h⟩⟩
  | i :: ix, d :: ds, hl => fun ρ j => by
    obtain ⟨h1, h2⟩ := setE_ft (ix := ix) (ds := ds) (by simpa using hl) (ρ.set i (some (.v k d))) j
    refine ⟨by rw [List.length_set] at h1; exact h1, fun es h => ?_⟩
    obtain ⟨n1, h⟩ := h2 es h
    rcases getset_or h with ⟨_, h⟩ | ⟨ne, h⟩
    · cases h
    · exact ⟨by simp only [List.mem_cons, not_or]; exact ⟨fun q => ne q.symm, n1⟩, h⟩
  | i :: ix, [], hl => by cases hl
theorem ER.other {p : Addr} {o : HO} (E : ER K G F H σ ρ) (hF : F p = none) (h0 : G.H0 p = none) (ne : ∀ (i : Nat) (es : List DL.D), ρ[i]? = some (some (Slot.own es)) → σ[i]? ≠ some (some (V.ref p))) : ER K G F (upd H p o) σ ρ where
  ext := E.ext
  sub := E.sub.updR hF
  new := E.new
  keep := E.keep.updR (by
    cases q : G.Hv p with
    | none => rfl
    | some u => rw [Gx.hv_h0 q] at h0; cases h0)
  there := fun b u q => by
    obtain ⟨w, hw⟩ := E.there b u q
    by_cases hb : b = p
    · subst hb; exact ⟨_, upd_same⟩
    · exact ⟨w, by rw [upd_ne hb]; exact hw⟩
  arg := E.arg
  val := E.val
  own := fun i es hi => by
    obtain ⟨a', vs', h1, h2, h3, h4, h5⟩ := E.own i es hi
    have na : a' ≠ p := fun q => ne i es hi (by rw [h1, q])
    exact ⟨a', vs', h1, by rw [upd_ne na]; exact h2, h3, h4, h5⟩
  inj := E.inj
  len := E.len
/-- back from a turn -/
theorem ER.unturn {vs : List Nat} {σi : L2.St} {ρi : Env} {H0 : Hp} (E : ER K G F H0 σ ρ) (E1 : ER K G F H σi ρi) (E2 : ER K (reG F H σi ρi) F' H' σi ρ3) (e : Ext F F') (hm : ∀ i ∈ vs, G.ms[i]? ≠ some true)
    (hσ : ∀ i, i ∉ vs → σi[i]? = σ[i]?) (hl : ρi.length = ρ.length) (ho : ∀ (j : Nat) (es : List DL.D), ρi[j]? = some (some (Slot.own es)) → j ∉ vs ∧ ρ[j]? = some (some (Slot.own es))) : ER K G F' H' σ (mergeE 0 ρ ρ3 vs) := by
  have l3 : ρ3.length = ρ.length := by
    have h1 := E1.len; have h2 := E2.len
    omega
  have get {i : Nat} {s : Slot} (h : (mergeE 0 ρ ρ3 vs)[i]? = some (some s)) : (i ∉ vs ∧ ρ3[i]? = some (some s) ∧ ((∃ es, s = .own es) ∨ ∃ d, s = .v true d)) ∨ (∃ k d, s = .v k d ∧ ρ[i]? = some (some (.v k d))) := by
    obtain ⟨a, b, h1, h2, h3⟩ := mergeE_get h
    rw [Nat.zero_add] at h3
    cases hc : vs.contains i with
    | true =>
      rw [hc] at h3
      match a, h3, h1 with
      | some (.v k d), h3, h1 =>
        injection h3 with h3; exact .inr ⟨k, d, h3, h1⟩
    | false =>
      rw [hc] at h3
      have hn : i ∉ vs := fun q => by
        have := List.contains_iff_mem.mpr q
        rw [hc] at this; cases this
      match b, h3, h2 with
      | some (.own es), h3, h2 =>
        injection h3 with h3; subst h3
        exact .inl ⟨hn, h2, .inl ⟨es, rfl⟩⟩
      | some (.v true d), h3, h2 =>
        injection h3 with h3; subst h3
        exact .inl ⟨hn, h2, .inr ⟨d, rfl⟩⟩
      | some (.v false d), h3, h2 =>
        match a, h3, h1 with
        | some (.v k d), h3, h1 =>
          injection h3 with h3; exact .inr ⟨k, d, h3, h1⟩
  have own {i : Nat} {es : List DL.D} (h : (mergeE 0 ρ ρ3 vs)[i]? = some (some (.own es))) : i ∉ vs ∧ ρ3[i]? = some (some (.own es)) := by
    rcases get h with ⟨h1, h2, _⟩ | ⟨k, d, h1, _⟩
    · exact ⟨h1, h2⟩
    · cases h1
  refine ⟨E.ext.trans e, E2.sub, fun b o h => ?_, fun b o h => E2.keep _ _ (reG_ext E1 _ _ h), fun b o h => ?_, E.arg, fun i k d hi => ?_, fun i es hi => ?_, fun i j b ds es ne h1 h2 s1 s2 => ?_, by rw [mergeE_len l3]; exact E.len⟩
  · rcases E2.new b o h with h | h
    · exact E.new b o h
    · exact .inr (E1.h0 h)
  · obtain ⟨u, hu⟩ := E1.there b o h
    exact E2.there b u hu
  · rcases get hi with ⟨h1, h2, h3⟩ | ⟨k', d', h1, h2⟩
    · rcases h3 with ⟨es, h3⟩ | ⟨d', h3⟩
      · cases h3
      · injection h3 with q1 q2; subst q1; subst q2
        obtain ⟨v, g1, g2⟩ := E2.val i true d h2
        exact ⟨v, by rw [← hσ i h1]; exact g1, g2⟩
    · injection h1 with q1 q2; subst q1; subst q2
      obtain ⟨v, g1, g2⟩ := E.val i k d h2
      exact ⟨v, g1, g2.mono e⟩
  · obtain ⟨h1, h2⟩ := own hi
    obtain ⟨a, ws, g1, g2, g3, g4, g5⟩ := E2.own i es h2
    refine ⟨a, ws, by rw [← hσ i h1]; exact g1, g2, g3, ?_, g5⟩
    rcases g4 with g4 | g4
    · exact .inl (E1.h0 g4)
    · obtain ⟨ds, hd⟩ := maskE_own g4
      obtain ⟨a', ws', k1, k2, k3, k4, k5⟩ := E1.own i ds hd
      rw [g1] at k1; cases k1
      exact k4
  · obtain ⟨n1, h1⟩ := own h1
    obtain ⟨n2, h2⟩ := own h2
    rw [← hσ i n1] at s1; rw [← hσ j n2] at s2
    exact E2.inj i j b ds es ne h1 h2 s1 s2
end
end DL
/-! DL7: the rules for list comprehensions. -/
namespace DL
open PySem L2 PyProof.Rows
section
variable {X : Cx} {G G' : Gx} {e a b c : Expr} {ρ ρ' ρ0 ρ1 ρ2 ρ3 : Env} {r s z s1 s2 : Slot} {d x y w : D} {ds es : List D} {K : PySem.W.Frag} {F F1 F' H H' : Hp} {σ : L2.St} {v u : V} {pos p : Pos} {k k1 k2 : Bool} {n : Str} {xs : List Expr} {m i j : Nat}
/-- what a turn of a comprehension must do: from the frame ρi to ρ3, with the item x; with a test, or left out -/
abbrev ElD (X : Cx) (scope : Scope) (elt : Expr) (ρi ρ3 : Env) (x : D) : Prop := ∀ (s : Shared) (H : Hp) (C : Addr) (cl : List (Str × Addr)) (fp : List Addr) (F1 H1 : Hp) (ws : List V), ED (X.blk s H scope (compEnvC scope cl C X.env) fp) ⟨F1, H1, ws, maskE ρi⟩ elt ρi ρ3 (.val x)
abbrev TsD (X : Cx) (scope : Scope) (c : Expr) (ρi ρ3 : Env) (b : Bool) : Prop := ∀ (s : Shared) (H : Hp) (C : Addr) (cl : List (Str × Addr)) (fp : List Addr) (F1 H1 : Hp) (ws : List V), ET (X.blk s H scope (compEnvC scope cl C X.env) fp) ⟨F1, H1, ws, maskE ρi⟩ c ρi ρ3 b
structure Tq where
  F1 : Hp
  H1 : Hp
  ws : List V
  ρi : Env
  ρ3 : Env
  x : D
def mkTq (F1 H1 : Hp) (σ : L2.St) (ρi ρ3 : Env) (x : D) : Tq := ⟨F1, H1, σ.map (·.getD .non), ρi, ρ3, x⟩
def tElt (K : PySem.W.Frag) (p : Env → Env → D → Prop) : TE := fun σ H Q => ∃ q : Tq, p q.ρi q.ρ3 q.x ∧ tD K ⟨q.F1, q.H1, q.ws, maskE q.ρi⟩ q.ρi q.ρ3 (.val q.x) σ H Q
structure Tb where
  F1 : Hp
  H1 : Hp
  ws : List V
  ρi : Env
  ρ3 : Env
  b : Bool
def tTst (K : PySem.W.Frag) (p : Env → Env → Bool → Prop) : TT := fun σ H Q => ∃ q : Tb, p q.ρi q.ρ3 q.b ∧ tDT K ⟨q.F1, q.H1, q.ws, maskE q.ρi⟩ q.ρi q.ρ3 q.b σ H Q
/-- a comprehension: as a value, or given to a name at once -/
structure CD (X : Cx) (G : Gx) (e : Expr) (ρ ρ' : Env) (acc : List D) : Prop where
  ed : ED X G e ρ ρ' (.own acc)
  set : ∀ {i : Nat} {y : Str} {py spos : Pos}, X.N[i]? = some y → X.env.scope.names.lookup y = some .local → swapsWith e (some (.Name y py)) spos.line X.env = pure true → PS X (.Assign [.Name y py] e spos) (tAsg (tD X.K G ρ ρ' (.own acc)) (gName i))
theorem CD.by {acc : List D} {t : TE} (h1 : PE X e t) (h2 : ∀ {i : Nat} {y : Str} {py spos : Pos}, X.N[i]? = some y → X.env.scope.names.lookup y = some .local → swapsWith e (some (.Name y py)) spos.line X.env = pure true → PS X (.Assign [.Name y py] e spos) (tAsg t (gName i)))
    (h : ∀ σ H Q, tD X.K G ρ ρ' (.own acc) σ H Q → t σ H Q) : CD X G e ρ ρ' acc :=
  ⟨pe_mono h1 h, fun a b c => ps_mono (h2 a b c) fun D σ H q => h σ H _ q⟩
theorem ed_of {acc : List D} (h : CD X G e ρ ρ' acc) : ED X G e ρ ρ' (.own acc) := h.ed
/-- x = [..] -/
theorem sd_setC {acc : List D} {i : Nat} {y : Str} {py spos : Pos} {P : Out → Prop} (hi : X.N[i]? = some y) (hl : X.env.scope.names.lookup y = some .local) (h : CD X G e ρ ρ' acc) (hm : G.ms[i]? ≠ some true) (q : P (.nx (ρ'.set i (some (.own acc)))))
    (hs : swapsWith e (some (.Name y py)) spos.line X.env = pure true := by rfl) : SD X G (.Assign [.Name y py] e spos) ρ P :=
  ps_mono (h.set hi hl hs) fun D σ H ⟨F, E, q1, _⟩ => ⟨F, E, fun F1 H1 v e1 E1 r1 => q1 _ F1 H1 _ q e1 (E1.put r1 hm)⟩
/-- what a comprehension's rule asks for, from the data: p tells what the elements give -/
theorem lc_tD {g : TG} {ix vs : List Nat} {it : Nat → Yld} {ft : Nat → Env → Env} {acc : List D} {Q : VK} (p : Env → Env → D → Prop) (J : Nat → Env → List D → Prop)
    (hy : ∀ t, t < m → TgR X.K G g ix (it t) (ft t) ∧ FtOk ix (ft t)) (hix : ∀ i ∈ ix, i ∈ vs) (hm : ∀ i ∈ vs, G.ms[i]? ≠ some true) (hz : m ≤ sizeLine)
    (h0 : J 0 ρ1 []) (hlen : ∀ t ρ' acc, J t ρ' acc → acc.length ≤ t) (ht : ∀ t ρ' acc, t < m → J t ρ' acc → ∃ ρ3 x, p (ft t (wipeE ρ' vs)) ρ3 x ∧ J (t + 1) (mergeE 0 ρ' ρ3 vs) (acc ++ [x])) (hd : ∀ ρ' acc', J m ρ' acc' → ρ' = ρ2 ∧ acc' = acc)
    (h : tD X.K G ρ ρ2 (.own acc) σ H Q) : tLc (tW X.K G ρ ρ1 m it) g tYes (tElt X.K p) vs σ H Q := by
  obtain ⟨F, E, q⟩ := h
  refine ⟨F, E, fun F1 H1 Jt e1 E1 wk => ?_⟩
  obtain ⟨Gd, Y, W, hG, hY⟩ := wk
  intro Dl hD
  refine lc_it W (g := g) (tt := tYes) (te := tElt X.K p) (vs := vs) (σ := σ) (D := Dl) (Qd := fun H => Q (.ref Dl) H) (fun t H' => ∃ F' ρ' acc avs, J t ρ' acc ∧ Ext F1 F' ∧ ER X.K G F' H' σ ρ' ∧ H' Dl = some (.lst avs) ∧ Reps X.K F' acc avs ∧ F' Dl = none ∧ G.H0 Dl = none ∧ ∀ (i : Nat) (es : List DL.D), ρ'[i]? = some (some (Slot.own es)) → σ[i]? ≠ some (some (V.ref Dl)))
    ⟨F1, ρ1, [], [], h0, Ext.refl _, E1.lay0 hD, upd_same, .nil, E1.sub.free hD, E1.h0 hD, fun i es hi hs => ?_⟩ ?_ ?_ ?_
  · obtain ⟨a, ws, g1, g2, _⟩ := E1.own i es hi
    rw [g1] at hs; cases hs
    rw [g2] at hD; cases hD
  · rintro t H' _ ⟨F', ρ', acc, avs, _, e2, E2, _⟩
    exact hG H' (e2.trans E2.sub) E2.keep
  · rintro t x H' H2 hx ⟨F', ρ', acc, avs, hj, e2, E2, l1, l2, l3, l4, l5⟩ y
    have yr := hY t H' x H2 hx (e2.trans E2.sub) E2.keep y
    have e5 : Ext H' H2 := by
      revert yr
      cases it t with
      | one s =>
        cases s with
        | v k d => rintro ⟨rfl, _⟩; exact Ext.refl _
        | own _ => intro h; exact h.elim
      | two => rintro ⟨T, x1, x2, _, hT, rfl, _⟩; exact Ext.lay hT
    obtain ⟨hy1, hy2⟩ := hy t hx
    refine hy1 F1 F' H' H2 _ (wipeE ρ' vs) x _ e2 (E2.wiped hm) yr fun H3 ws e3 E3 => ⟨wipe_setAll hix, ?_⟩
    unfold tYes; dsimp only; rw [if_pos rfl]
    obtain ⟨ρ3, x, hx1, hx2⟩ := ht t ρ' acc hx hj
    have hl := (hy2 (wipeE ρ' vs) 0).1
    rw [wipeE_len] at hl
    have hoI : ∀ (j : Nat) (es : List DL.D), (ft t (wipeE ρ' vs))[j]? = some (some (Slot.own es)) → j ∉ vs ∧ ρ'[j]? = some (some (Slot.own es)) := fun j es h => by
      obtain ⟨_, h2⟩ := (hy2 (wipeE ρ' vs) j).2 es h
      obtain ⟨h3, h4⟩ := wipeE_get h2
      exact ⟨h4, h3⟩
    have hσ : ∀ i, i ∉ vs → (setAll (wipe σ vs) ix ws)[i]? = σ[i]? := fun i hi => by
      rw [setAll_get (fun q => hi (hix i q)), wipe_eq hi]
    have hDl3 : H3 Dl = some (.lst avs) := e3 _ _ (e5 _ _ l1)
    refine ⟨mkTq F' H3 (setAll (wipe σ vs) ix ws) (ft t (wipeE ρ' vs)) ρ3 x, hx1, F', E3.rebase, fun F4 H4 y4 e4 E4 r4 => ?_⟩
    have hkeep : H4 Dl = some (.lst avs) := E4.keep _ _ (reG_hv E3 hDl3 fun i es hi hs => by
      obtain ⟨n1, h1⟩ := hoI i es hi
      rw [hσ i n1] at hs
      exact l5 i es h1 hs)
    have hF4 : F4 Dl = none := by
      cases q : F4 Dl with
      | none => rfl
      | some o =>
        rcases E4.new _ _ q with q | q
        · rw [show F' Dl = some o from q] at l3; cases l3
        · rw [show H3 Dl = none from q] at hDl3; cases hDl3
    have E5 := E2.unturn E3 E4 e4 hm hσ hl hoI
    have n5 : ∀ (i : Nat) (es : List DL.D), (mergeE 0 ρ' ρ3 vs)[i]? = some (some (Slot.own es)) → σ[i]? ≠ some (some (V.ref Dl)) := fun i es hi hs => by
      obtain ⟨a', ws', g1, g2, g3, g4, g5⟩ := E5.own i es hi
      rw [hs] at g1; cases g1
      -- the list at Dl is not one of the frame's: its slot was one of the frame before
      obtain ⟨a0, b0, z1, z2, z3⟩ := mergeE_get hi
      rw [Nat.zero_add] at z3
      cases hcn : vs.contains i with
      | true =>
        rw [hcn] at z3
        match a0, z3 with
        | some (.v _ _), z3 => cases z3
        | some (.own _), z3 => cases z3
        | none, z3 => cases z3
      | false =>
        rw [hcn] at z3
        have hn : i ∉ vs := fun q => by
          have := List.contains_iff_mem.mpr q
          rw [hcn] at this; cases this
        match b0, z3, z2 with
        | some (.own es'), z3, z2 =>
          obtain ⟨b', wb, k1, k2, k3, k4, k5⟩ := E4.own i es' z2
          rw [hσ i hn, hs] at k1; cases k1
          rcases k4 with k4 | k4
          · rw [show H3 Dl = none from k4] at hDl3; cases hDl3
          · obtain ⟨ds', hd'⟩ := maskE_own k4
            obtain ⟨n1, h1⟩ := hoI i ds' hd'
            exact l5 i ds' h1 hs
        | some (.v true _), z3, _ => cases z3
        | some (.v false _), z3, _ =>
          match a0, z3 with
          | some (.v _ _), z3 => cases z3
          | some (.own _), z3 => cases z3
          | none, z3 => cases z3
    refine ⟨avs, hkeep, ?_, F4, _, acc ++ [x], avs ++ [y4], hx2, e2.trans e4, E5.other hF4 l4 n5, upd_same, (Reps.mono e4 _ _ l2).append (.one r4), hF4, l4, n5⟩
    rw [l2.length]
    have := hlen _ _ _ hj
    omega
  · rintro H' ⟨F', ρ', acc', avs, hj, e2, E2, l1, l2, l3, l4, l5⟩
    obtain ⟨rfl, rfl⟩ := hd ρ' acc' hj
    exact q F' H' _ (e1.trans e2) E2 ⟨Dl, avs, rfl, l1, l3, l4, l2, l5⟩
/-- [elt for tg in iter] -/
theorem cd_lc {elt tg iter : Expr} {scope : Scope} {own : List (Str × Nat)} {g : TG} {ix vs : List Nat} {it : Nat → Yld} {ft : Nat → Env → Env} {acc : List D} (J : Nat → Env → List D → Prop) (ok : BlkOk X.N X.env.scope scope own) (hvs : own.map (·.2) = vs) (hc : X.calm = true) (hN : X.N.Nodup)
    (hw : WD X G tg iter ρ ρ1 m it) (hg : ∀ (s : Shared) (H : Hp) (C : Addr) (cl : List (Str × Addr)) (fp : List Addr), PG (X.blk s H scope (compEnvC scope cl C X.env) fp) tg g) (hy : ∀ t, t < m → TgR X.K G g ix (it t) (ft t) ∧ FtOk ix (ft t)) (hix : ∀ i ∈ ix, i ∈ vs) (hm : ∀ i ∈ vs, G.ms[i]? ≠ some true) (hz : m ≤ sizeLine)
    (h0 : J 0 ρ1 []) (hlen : ∀ t ρ' acc, J t ρ' acc → acc.length ≤ t) (ht : ∀ t ρ' acc, t < m → J t ρ' acc → ∃ ρ3 x, ElD X scope elt (ft t (wipeE ρ' vs)) ρ3 x ∧ J (t + 1) (mergeE 0 ρ' ρ3 vs) (acc ++ [x])) (hd : ∀ ρ' acc', J m ρ' acc' → ρ' = ρ2 ∧ acc' = acc)
    (hs : ∀ x, foldedSetIterable iter X.env x = pure x := by intro _; rfl) : CD X G (.ListComp elt [⟨tg, iter, [], 0⟩] scope pos) ρ ρ2 acc := by
  subst hvs
  let p : Env → Env → DL.D → Prop := fun ρi ρ3 x => ElD X scope elt ρi ρ3 x
  have he : ∀ (s : Shared) (H : Hp) (C : Addr) (cl : List (Str × Addr)) (fp : List Addr), PE (X.blk s H scope (compEnvC scope cl C X.env) fp) elt (tElt X.K p) := fun s H C cl fp => pe_any (p := fun q : Tq => p q.ρi q.ρ3 q.x) fun q hq => hq s H C cl fp q.F1 q.H1 q.ws
  exact CD.by (pe_lc hc hN hw ok hg (fun _ _ _ _ _ => pts_nil) he hs) (fun a b c => ps_setLc hc hN a b c hw ok hg (fun _ _ _ _ _ => pts_nil) he hs) fun σ H Q h => lc_tD p J hy hix hm hz h0 hlen ht hd h
/-- [elt for tg in iter if c] -/
theorem cd_lcI {c : Expr} {elt tg iter : Expr} {scope : Scope} {own : List (Str × Nat)} {g : TG} {ix vs : List Nat} {it : Nat → Yld} {ft : Nat → Env → Env} {acc : List D} (J : Nat → Env → List D → Prop) (ok : BlkOk X.N X.env.scope scope own) (hvs : own.map (·.2) = vs) (hc : X.calm = true) (hN : X.N.Nodup)
    (hw : WD X G tg iter ρ ρ1 m it) (hg : ∀ (s : Shared) (H : Hp) (C : Addr) (cl : List (Str × Addr)) (fp : List Addr), PG (X.blk s H scope (compEnvC scope cl C X.env) fp) tg g) (hy : ∀ t, t < m → TgR X.K G g ix (it t) (ft t) ∧ FtOk ix (ft t)) (hix : ∀ i ∈ ix, i ∈ vs) (hm : ∀ i ∈ vs, G.ms[i]? ≠ some true) (hz : m ≤ sizeLine)
    (h0 : J 0 ρ1 []) (hlen : ∀ t ρ' acc, J t ρ' acc → acc.length ≤ t) (ht : ∀ t ρ' acc, t < m → J t ρ' acc → ∃ b, TsD X scope c (ft t (wipeE ρ' vs)) (ft t (wipeE ρ' vs)) b ∧ (b = true → ∃ ρ3 x, ElD X scope elt (ft t (wipeE ρ' vs)) ρ3 x ∧ J (t + 1) (mergeE 0 ρ' ρ3 vs) (acc ++ [x])) ∧ (b = false → J (t + 1) (mergeE 0 ρ' (ft t (wipeE ρ' vs)) vs) acc)) (hd : ∀ ρ' acc', J m ρ' acc' → ρ' = ρ2 ∧ acc' = acc)
    (hs : ∀ x, foldedSetIterable iter X.env x = pure x := by intro _; rfl) : CD X G (.ListComp elt [⟨tg, iter, [c], 0⟩] scope pos) ρ ρ2 acc := by
  subst hvs
  let p : Env → Env → DL.D → Prop := fun ρi ρ3 x => ElD X scope elt ρi ρ3 x
  have he : ∀ (s : Shared) (H : Hp) (C : Addr) (cl : List (Str × Addr)) (fp : List Addr), PE (X.blk s H scope (compEnvC scope cl C X.env) fp) elt (tElt X.K p) := fun s H C cl fp => pe_any (p := fun q : Tq => p q.ρi q.ρ3 q.x) fun q hq => hq s H C cl fp q.F1 q.H1 q.ws
  let pt : Env → Env → Bool → Prop := fun ρi ρ3 b => TsD X scope c ρi ρ3 b
  have hcc : ∀ (s : Shared) (H : Hp) (C : Addr) (cl : List (Str × Addr)) (fp : List Addr), PT (X.blk s H scope (compEnvC scope cl C X.env) fp) c (tTst X.K pt) := fun s H C cl fp => pt_any (p := fun q : Tb => pt q.ρi q.ρ3 q.b) fun q hq => hq s H C cl fp q.F1 q.H1 q.ws
  refine CD.by (pe_lc hc hN hw ok hg (fun s H C cl fp => pts_one (hcc s H C cl fp)) he hs) (fun a b c => ps_setLc hc hN a b c hw ok hg (fun s H C cl fp => pts_one (hcc s H C cl fp)) he hs) fun σ H Q ⟨F, E, q⟩ => ⟨F, E, fun F1 H1 Jt e1 E1 wk => ?_⟩
  obtain ⟨Gd, Y, W, hG, hY⟩ := wk
  intro Dl hD
  refine lc_it W (g := g) (tt := tTst X.K pt) (te := tElt X.K p) (vs := own.map (·.2)) (σ := σ) (D := Dl) (Qd := fun H => Q (.ref Dl) H) (fun t H' => ∃ F' ρ' acc avs, J t ρ' acc ∧ Ext F1 F' ∧ ER X.K G F' H' σ ρ' ∧ H' Dl = some (.lst avs) ∧ Reps X.K F' acc avs ∧ F' Dl = none ∧ G.H0 Dl = none ∧ ∀ (i : Nat) (es : List DL.D), ρ'[i]? = some (some (Slot.own es)) → σ[i]? ≠ some (some (V.ref Dl)))
    ⟨F1, ρ1, [], [], h0, Ext.refl _, E1.lay0 hD, upd_same, .nil, E1.sub.free hD, E1.h0 hD, fun i es hi hs => ?_⟩ ?_ ?_ ?_
  · obtain ⟨a, ws, g1, g2, _⟩ := E1.own i es hi
    rw [g1] at hs; cases hs
    rw [g2] at hD; cases hD
  · rintro t H' _ ⟨F', ρ', acc, avs, _, e2, E2, _⟩
    exact hG H' (e2.trans E2.sub) E2.keep
  · rintro t x H' H2 hx ⟨F', ρ', acc, avs, hj, e2, E2, l1, l2, l3, l4, l5⟩ y
    have yr := hY t H' x H2 hx (e2.trans E2.sub) E2.keep y
    have e5 : Ext H' H2 := by
      revert yr
      cases it t with
      | one s =>
        cases s with
        | v k d => rintro ⟨rfl, _⟩; exact Ext.refl _
        | own _ => intro h; exact h.elim
      | two => rintro ⟨T, x1, x2, _, hT, rfl, _⟩; exact Ext.lay hT
    obtain ⟨hy1, hy2⟩ := hy t hx
    refine hy1 F1 F' H' H2 _ (wipeE ρ' (own.map (·.2))) x _ e2 (E2.wiped hm) yr fun H3 ws e3 E3 => ⟨wipe_setAll hix, ?_⟩
    obtain ⟨b, hb1, hb2, hb3⟩ := ht t ρ' acc hx hj
    have hl := (hy2 (wipeE ρ' (own.map (·.2))) 0).1
    rw [wipeE_len] at hl
    have hoI : ∀ (j : Nat) (es : List DL.D), (ft t (wipeE ρ' (own.map (·.2))))[j]? = some (some (Slot.own es)) → j ∉ own.map (·.2) ∧ ρ'[j]? = some (some (Slot.own es)) := fun j es h => by
      obtain ⟨_, h2⟩ := (hy2 (wipeE ρ' (own.map (·.2))) j).2 es h
      obtain ⟨h3, h4⟩ := wipeE_get h2
      exact ⟨h4, h3⟩
    have hσ : ∀ i, i ∉ own.map (·.2) → (setAll (wipe σ (own.map (·.2))) ix ws)[i]? = σ[i]? := fun i hi => by
      rw [setAll_get (fun q => hi (hix i q)), wipe_eq hi]
    have hDl3 : H3 Dl = some (.lst avs) := e3 _ _ (e5 _ _ l1)
    have later : ∀ (F4 H4 : Hp) (ρ4 : Env), Ext F' F4 → ER X.K (reG F' H3 (setAll (wipe σ (own.map (·.2))) ix ws) (ft t (wipeE ρ' (own.map (·.2))))) F4 H4 (setAll (wipe σ (own.map (·.2))) ix ws) ρ4 →
        H4 Dl = some (.lst avs) ∧ F4 Dl = none ∧ ER X.K G F4 H4 σ (mergeE 0 ρ' ρ4 (own.map (·.2))) ∧ ∀ (i : Nat) (es : List DL.D), (mergeE 0 ρ' ρ4 (own.map (·.2)))[i]? = some (some (Slot.own es)) → σ[i]? ≠ some (some (V.ref Dl)) := fun F4 H4 ρ3 e4 E4 => by
      have hkeep : H4 Dl = some (.lst avs) := E4.keep _ _ (reG_hv E3 hDl3 fun i es hi hs => by
        obtain ⟨n1, h1⟩ := hoI i es hi
        rw [hσ i n1] at hs
        exact l5 i es h1 hs)
      have hF4 : F4 Dl = none := by
        cases q : F4 Dl with
        | none => rfl
        | some o =>
          rcases E4.new _ _ q with q | q
          · rw [show F' Dl = some o from q] at l3; cases l3
          · rw [show H3 Dl = none from q] at hDl3; cases hDl3
      have E5 := E2.unturn E3 E4 e4 hm hσ hl hoI
      have n5 : ∀ (i : Nat) (es : List DL.D), (mergeE 0 ρ' ρ3 (own.map (·.2)))[i]? = some (some (Slot.own es)) → σ[i]? ≠ some (some (V.ref Dl)) := fun i es hi hs => by
        obtain ⟨a', ws', g1, g2, g3, g4, g5⟩ := E5.own i es hi
        rw [hs] at g1; cases g1
        -- the list at Dl is not one of the frame's: its slot was one of the frame before
        obtain ⟨a0, b0, z1, z2, z3⟩ := mergeE_get hi
        rw [Nat.zero_add] at z3
        cases hcn : (own.map (·.2)).contains i with
        | true =>
          rw [hcn] at z3
          match a0, z3 with
          | some (.v _ _), z3 => cases z3
          | some (.own _), z3 => cases z3
          | none, z3 => cases z3
        | false =>
          rw [hcn] at z3
          have hn : i ∉ own.map (·.2) := fun q => by
            have := List.contains_iff_mem.mpr q
            rw [hcn] at this; cases this
          match b0, z3, z2 with
          | some (.own es'), z3, z2 =>
            obtain ⟨b', wb, k1, k2, k3, k4, k5⟩ := E4.own i es' z2
            rw [hσ i hn, hs] at k1; cases k1
            rcases k4 with k4 | k4
            · rw [show H3 Dl = none from k4] at hDl3; cases hDl3
            · obtain ⟨ds', hd'⟩ := maskE_own k4
              obtain ⟨n1, h1⟩ := hoI i ds' hd'
              exact l5 i ds' h1 hs
          | some (.v true _), z3, _ => cases z3
          | some (.v false _), z3, _ =>
            match a0, z3 with
            | some (.v _ _), z3 => cases z3
            | some (.own _), z3 => cases z3
            | none, z3 => cases z3
      exact ⟨hkeep, hF4, E5, n5⟩
    refine ⟨⟨F', H3, (setAll (wipe σ (own.map fun p : Str × Nat => p.2)) ix ws).map (fun o : Option V => o.getD .non), ft t (wipeE ρ' (own.map fun p : Str × Nat => p.2)), ft t (wipeE ρ' (own.map fun p : Str × Nat => p.2)), b⟩, hb1, F', E3.rebase, fun F4 H4 e4 E4 => ?_⟩
    dsimp only
    cases b with
    | true =>
      obtain ⟨ρ3, x, hx1, hx2⟩ := hb2 rfl
      refine ite2 (fun _ => ?_) (fun q => absurd rfl q)
      refine ⟨mkTq F' H3 (setAll (wipe σ (own.map fun p : Str × Nat => p.2)) ix ws) (ft t (wipeE ρ' (own.map fun p : Str × Nat => p.2))) ρ3 x, hx1, F4, E4, fun F5 H5 y5 e5' E5 r5 => ?_⟩
      obtain ⟨k1, k2, k3, k4⟩ := later F5 H5 ρ3 (e4.trans e5') E5
      refine ⟨avs, k1, ?_, F5, _, acc ++ [x], avs ++ [y5], hx2, e2.trans (e4.trans e5'), k3.other k2 l4 k4, upd_same, (Reps.mono (e4.trans e5') _ _ l2).append (.one r5), k2, l4, k4⟩
      rw [l2.length]
      have := hlen _ _ _ hj
      omega
    | false =>
      refine ite2 (fun q => nomatch q) (fun _ => ?_)
      obtain ⟨k1, k2, k3, k4⟩ := later F4 H4 _ e4 E4
      exact ⟨F4, _, acc, avs, hb3 rfl, e2.trans e4, k3, k1, Reps.mono e4 _ _ l2, k2, l4, k4⟩
  · rintro H' ⟨F', ρ', acc', avs, hj, e2, E2, l1, l2, l3, l4, l5⟩
    obtain ⟨rfl, rfl⟩ := hd ρ' acc' hj
    exact q F' H' _ (e1.trans e2) E2 ⟨Dl, avs, rfl, l1, l3, l4, l2, l5⟩
end
end DL
/-! DL8: built-ins, lists of one's own. -/
namespace DL
open PySem L2 PyProof.Rows
section
variable {X : Cx} {G G' : Gx} {e a b c : Expr} {ρ ρ' ρ0 ρ1 ρ2 ρ3 : Env} {r s z s1 s2 : Slot} {d x y w : D} {ds es : List D} {K : PySem.W.Frag} {F F1 F' H H' : Hp} {σ : L2.St} {v u : V} {pos p p2 apos cpos : Pos} {k k1 k2 : Bool} {n : Str} {xs : List Expr} {m i j : Nat} {P : Out → Prop}
/-- x[i] = e, for a list of the def's own -/
theorem sd_setO {jj : Int} {q : Nat} (hN : X.N[i]? = some n) (hv : Vis X.env.scope n) (he : ED X G e ρ ρ1 s) (hd : ToV s d) (hb : ED X G b ρ1 ρ1 (.v k (.int jj))) (h1 : ρ1[i]? = some (some (.own ds))) (hj : ixN ds.length jj = some q) (hP : P (.nx (ρ1.set i (some (.own (ds.set q d))))))
    (hdb : (n == ("__debug__" : Str)) = false := by decide) (hcd : (n == ("__classdict__" : Str)) = false := by decide) (hs : swapsWithSole [Expr.Subscript (Expr.Name n p) b p2] e pos.line X.env = pure false := by rfl) (hw : swappedStores [Expr.Subscript (Expr.Name n p) b p2] e X.env = pure none := by rfl)
    (ha : ∀ v, assign (.Subscript (.Name n p) b p2) X.env v = (do let ov ← holding [v] (eval (.Name n p) X.env); let iv ← holding [v, ov] (eval b X.env); standAt p2; holding [v, ov, iv] (setItem ov iv v); release [v, ov, iv] []) := by intro _; rfl) : SD X G (.Assign [.Subscript (.Name n p) b p2] e pos) ρ P :=
  ps_mono (ps_asg (ed_toV he hd) (pg_sub (pe_var hN hv hdb hcd) hb set_list ha) hs hw) fun Dx σ H ⟨F, E, q1, _⟩ => ⟨F, E, fun F1 H1 v e1 E1 r1 => by
    obtain ⟨a, vs, g1, g2, g3, g4, g5⟩ := E1.own i ds h1
    refine ⟨_, g1, F1, E1, fun F2 H2 w e2 E2 r2 => ?_⟩
    obtain ⟨a', vs', k1, k2, k3, k4, k5⟩ := E2.own i ds h1
    rw [g1] at k1; cases k1
    refine ⟨a, vs', _, q, rfl, of_int r2, k2, by rw [k5.length]; exact hj, q1 _ F2 _ σ hP (e1.trans e2) (E2.write h1 g1 (k5.set q (Rep.mono e2 _ _ r1)))⟩⟩
/-- int(x) of an int -/
theorem ed_intOf {jj : Int} (hg : Gl X "int") (hm : X.mg "int" = none) (ha : ED X G a ρ ρ1 (.v k (.int jj))) (he : starEach [a] X.env = (false, eval a X.env) :: starEach [] X.env := by rfl) (hpl : (backTo pos (starEach [] X.env)).any (·.1) = false := by rfl) : ED X G (.Call (.Name "int" p) [a] [] pos) ρ ρ1 (.val (.int jj)) :=
  pe_mono (pe_callTy call_int1 hg hm boot_int (ea_one ha he) (by decide) (by decide) he hpl) fun σ H Q ⟨F, E, q⟩ => ⟨F, E, fun F1 H1 v e1 E1 r1 => .inl ⟨jj, by rw [of_int r1], q F1 H1 _ e1 E1 sr_int⟩⟩
/-- x.append(e), a list of the def's own -/
theorem ed_append (hN : X.N[i]? = some n) (hv : Vis X.env.scope n) (h0 : ρ[i]? = some (some (.own es))) (he : ED X G e ρ ρ1 s) (hd : ToV s d) (h1 : ρ1[i]? = some (some (.own ds))) (hz : ds.length < sizeLine)
    (hdb : (n == ("__debug__" : Str)) = false := by decide) (hcd : (n == ("__classdict__" : Str)) = false := by decide) (hbase : attributeBase (.Name n p) "append" X.env (eval (.Name n p) X.env) = eval (.Name n p) X.env := by rfl)
    (hst : starEach [e] X.env = (false, eval e X.env) :: starEach [] X.env := by rfl) (hpl : (backTo cpos (starEach [] X.env)).any (·.1) = false := by rfl) (hline : (apos.endLine == cpos.line) = true := by rfl)
    (hfew : ((backTo cpos (starEach [e] X.env)).all (fun x => !x.1) && (backToKw cpos (keywordEach [] X.env)).all (fun x => x.1.isSome) && decide ([e].length + ([] : List Keyword).length + (if ([] : List Keyword).isEmpty then 0 else 1) < 30)) = true := by rfl) : ED X G (.Call (.Attribute (.Name n p) "append" apos) [e] [] cpos) ρ (ρ1.set i (some (.own (ds ++ [d])))) (.val .non) :=
  pe_mono (pe_bm PySem.F.plainAttrs_list PySem.F.slot_list_append PySem.F.type_list_append mt_append (pe_var hN hv hdb hcd) (ea_one (ed_toV he hd) hst) hbase hfew hline hst hpl) fun σ H Q ⟨F, E, q⟩ => by
    obtain ⟨a, vs, g1, g2, g3, g4, g5⟩ := E.own i es h0
    refine ⟨_, g1, .inl ⟨rfl, vs, SqL.of g2⟩, F, E, fun F2 H2 w e2 E2 r2 => ?_⟩
    obtain ⟨a', vs', k1, k2, k3, k4, k5⟩ := E2.own i ds h1
    rw [g1] at k1; cases k1
    exact ⟨a, vs', w, rfl, rfl, k2, by rw [k5.length]; exact hz, q F2 _ _ e2 (E2.write h1 g1 (k5.append (.one r2))) sr_non⟩
end
end DL
/-! DL9: chains, the text's own constants, isinstance, in, all, any, sum, list, tuple, slices. -/
namespace DL
open PySem L2 PyProof.Rows
section
variable {X : Cx} {G G' : Gx} {e a b c : Expr} {ρ ρ' ρ0 ρ1 ρ2 ρ3 : Env} {r s z s1 s2 : Slot} {d x y w : D} {ds es : List D} {K : PySem.W.Frag} {F F1 F' H H' : Hp} {σ : L2.St} {v u : V} {pos p p2 apos cpos : Pos} {k k1 k2 k3 : Bool} {n : Str} {xs : List Expr} {m i j : Nat} {P : Out → Prop}
theorem opr_false {f : Value → Value → Sem Value} : OpR X f (fun _ _ _ _ => False) := fun _ _ _ _ _ _ _ _ _ _ _ _ h => h.elim
/-- a op b op' c -/
theorem et_chain {op op' : CmpOp} {l : Bool} (ha : ED X G a ρ ρ1 (.v k1 x)) (hb : ED X G b ρ1 ρ2 (.v k2 y)) (h1 : CmpD op x y k) (hc : k = true → ED X G c ρ2 ρ2 (.v k3 w)) (h2 : k = true → CmpD op' y w l) (hm : lastMarks [op, op'] [b, c] = false := by with_unfolding_all rfl) : ET X G (.Compare a [op, op'] [b, c] pos) ρ ρ2 (k && l) := by
  obtain ⟨r, ho, hr⟩ := vcmp h1
  cases k with
  | true =>
    obtain ⟨r', ho', hr'⟩ := vcmp (h2 rfl)
    refine pt_mono (pt_chain ho ho' ha hb (hc rfl) hm) fun σ H Q ⟨F, E, q⟩ => ⟨F, E, fun F1 H1 v e1 E1 r1 => ⟨F1, E1, fun F2 H2 u e2 E2 r2 => ?_⟩⟩
    refine hr _ _ _ _ _ σ F2 H2 v u _ E2 (RK.mono e2 r1) r2 fun F3 H3 w1 e3 E3 s3 => ⟨true, of_bl s3, ?_⟩
    refine iteT ?_
    refine ⟨F3, E3, fun F4 H4 w2 e4 E4 r4 => hr' _ _ _ _ _ σ F4 H4 u w2 _ E4 (RK.mono (e3.trans e4) r2) r4 fun F5 H5 w3 e5 E5 s5 => ⟨l, of_bl s5, ?_⟩⟩
    exact q F5 H5 ((((e1.trans e2).trans e3).trans e4).trans e5) E5
  | false =>
    refine pt_mono (pt_chain (r' := fun _ _ _ _ => False) ho opr_false ha hb (pe_false (e := c)) hm) fun σ H Q ⟨F, E, q⟩ => ⟨F, E, fun F1 H1 v e1 E1 r1 => ⟨F1, E1, fun F2 H2 u e2 E2 r2 => ?_⟩⟩
    refine hr _ _ _ _ _ σ F2 H2 v u _ E2 (RK.mono e2 r1) r2 fun F3 H3 w1 e3 E3 s3 => ⟨false, of_bl s3, ?_⟩
    refine iteF ⟨false, rfl, q F3 H3 ((e1.trans e2).trans e3) E3⟩
/-! ### constants of the text -/
theorem ed_gI {i : Int} (hg : Gl X n) (hm : ∃ u, X.mg n = some u ∧ RelV (.int i) u) (hd : (n == ("__debug__" : Str)) = false := by decide) : ED X G (.Name n pos) ρ ρ (.val (.int i)) := by
  obtain ⟨u, h1, h2⟩ := hm
  exact ed_glob hg h1 h2 (fun _ => rep_int.mpr rfl) hd
theorem ed_gS {i : Str} (hg : Gl X n) (hm : ∃ u, X.mg n = some u ∧ RelV (.str i) u) (hd : (n == ("__debug__" : Str)) = false := by decide) : ED X G (.Name n pos) ρ ρ (.val (.str i)) := by
  obtain ⟨u, h1, h2⟩ := hm
  exact ed_glob hg h1 h2 (fun _ => rep_str.mpr rfl) hd
/-! ### isinstance -/
def tyD : D → String
  | .non => "NoneType" | .bl _ => "bool" | .int _ => "int" | .str _ => "str" | .lst _ => "list" | .tup _ => "tuple" | .dk _ _ => "dict" | .ty _ => "type" | .ins _ _ _ => "object"
/-- data of the built-in kinds -/
def plainD : D → Bool
  | .ty _ => false
  | .ins _ _ _ => false
  | _ => true
theorem tyx_of (h : plainD d = true) (r : Rep K F d v) (e : Ext F H) : TyX K H v (.type (tyD d)) := by
  cases d with
  | non => rw [rep_non] at r; subst r; exact .base .non
  | bl b => rw [rep_bl] at r; subst r; exact .base (.bl b)
  | int b => rw [rep_int] at r; subst r; exact .base (.int b)
  | str b => rw [rep_str] at r; subst r; exact .base (.str b)
  | lst ds =>
    obtain ⟨a, vs, rfl, h2, _⟩ := Rep.lstH e r
    rcases h2 with h2 | ⟨o, h2⟩
    · exact .base (.lst h2)
    · exact .base (.frz h2)
  | tup ds =>
    obtain ⟨a, vs, rfl, h2, _⟩ := Rep.tupH e r
    rcases h2 with (h2 | ⟨o, h2⟩) | ⟨o, its, n, h2, h3, _⟩
    · exact .base (.tup h2)
    · exact .fTuple h2
    · exact .kTuple h2 h3
  | dk ks ds =>
    simp only [Rep] at r
    obtain ⟨a, kvs, rfl, h2, _⟩ := r
    exact .base (.dK (e _ _ h2))
  | ty n => cases h
  | ins C ns ds => cases h
def isiT (t T : String) : Bool := t == T || (t == "bool" && T == "int")
/-- isinstance(x, T) -/
def isiD (d : D) (T : String) : Bool := isiT (tyD d) T
theorem kitB_all : ∀ t ∈ ["NoneType", "bool", "int", "str", "list", "tuple", "dict"], ∀ T ∈ ["int", "str", "bool", "list", "tuple", "dict"], kitB t T = some (isiT t T) := by decide +kernel
theorem kitB_is (h : plainD d = true) {T : String} (hT : T ∈ ["int", "str", "bool", "list", "tuple", "dict"]) : kitB (tyD d) T = some (isiD d T) :=
  kitB_all (tyD d) (by cases d <;> first | (cases h; done) | simp [tyD]) T hT
theorem ed_isi {T : String} {nT : Str} {p2 : Pos} (hg : Gl X "isinstance") (hm : X.mg "isinstance" = none) (ha : ED X G a ρ ρ1 (.v k d)) (hp : plainD d = true) (hgT : Gl X nT) (hmT : X.mg nT = none) (hvT : bootBuiltins nT = some (.type T)) (hT : T ∈ ["int", "str", "bool", "list", "tuple", "dict"])
    (hn : nT ≠ "__name__" := by decide) (hdT : (nT == ("__debug__" : Str)) = false := by decide) (he : starEach [a, .Name nT p2] X.env = (false, eval a X.env) :: starEach [.Name nT p2] X.env := by rfl) (he2 : starEach [.Name nT p2] X.env = (false, eval (.Name nT p2) X.env) :: starEach [] X.env := by rfl)
    (hpl : (backTo pos (starEach [.Name nT p2] X.env)).any (·.1) = false := by rfl) : ED X G (.Call (.Name "isinstance" p) [a, .Name nT p2] [] pos) ρ ρ1 (.val (.bl (isiD d T))) :=
  pe_mono (pe_callB call_isi hg hm boot_isinstance (pa_cons ha (pa_cons (pe_bltn (v := .ty T) hgT hmT hvT rfl hn hdT) pa_nil he2) he) (by decide) (by decide) he hpl) fun σ H Q ⟨F, E, q⟩ => ⟨F, E, fun F1 H1 v e1 E1 r1 =>
    ⟨v, .ty T, .type (tyD d), .type T, _, rfl, .ty T, tyx_of hp (RK.at r1) E1.atH, kit_ty (kitB_is hp hT), q F1 H1 _ e1 E1 sr_bl⟩⟩
theorem kitAny2 {K : PySem.W.Frag} {t c1 c2 : Value} {b1 b2 : Bool} (h1 : PySem.W.kitOne K t c1 = some b1) (h2 : PySem.W.kitOne K t c2 = some b2) : PySem.W.kitAny K t [c1, c2] = some (b1 || b2) := by
  refine kitAny_cons h1 (fun hb => ?_) (fun hb => by rw [hb]; rfl)
  rw [hb, Bool.false_or]
  exact kitAny_cons h2 (fun hb => by rw [hb]; exact kitAny_nil) (fun hb => hb)
/-- isinstance(x, (T1, T2)) -/
theorem ed_isi2 {T1 T2 : String} {n1 n2 : Str} {p1 p2 pt : Pos} {tk : Nat} (hg : Gl X "isinstance") (hm : X.mg "isinstance" = none) (ha : ED X G a ρ ρ1 (.v k d)) (hp : plainD d = true) (hg1 : Gl X n1) (hm1 : X.mg n1 = none) (hv1 : bootBuiltins n1 = some (.type T1)) (hT1 : T1 ∈ ["int", "str", "bool", "list", "tuple", "dict"])
    (hg2 : Gl X n2) (hm2 : X.mg n2 = none) (hv2 : bootBuiltins n2 = some (.type T2)) (hT2 : T2 ∈ ["int", "str", "bool", "list", "tuple", "dict"]) (hn1 : n1 ≠ "__name__" := by decide) (hd1 : (n1 == ("__debug__" : Str)) = false := by decide) (hn2 : n2 ≠ "__name__" := by decide) (hd2 : (n2 == ("__debug__" : Str)) = false := by decide)
    (he : starEach [a, .Tuple [.Name n1 p1, .Name n2 p2] tk pt] X.env = (false, eval a X.env) :: starEach [.Tuple [.Name n1 p1, .Name n2 p2] tk pt] X.env := by rfl) (he1 : starEach [.Tuple [.Name n1 p1, .Name n2 p2] tk pt] X.env = (false, eval (.Tuple [.Name n1 p1, .Name n2 p2] tk pt) X.env) :: starEach [] X.env := by rfl)
    (he2 : starEach [.Name n1 p1, .Name n2 p2] X.env = (false, eval (.Name n1 p1) X.env) :: starEach [.Name n2 p2] X.env := by rfl) (he3 : starEach [.Name n2 p2] X.env = (false, eval (.Name n2 p2) X.env) :: starEach [] X.env := by rfl)
    (hpl : (backTo pos (starEach [.Tuple [.Name n1 p1, .Name n2 p2] tk pt] X.env)).any (·.1) = false := by rfl) : ED X G (.Call (.Name "isinstance" p) [a, .Tuple [.Name n1 p1, .Name n2 p2] tk pt] [] pos) ρ ρ1 (.val (.bl (isiD d T1 || isiD d T2))) :=
  pe_mono (pe_callB call_isiT hg hm boot_isinstance (pa_cons ha (pa_cons (pe_tup (pa_cons (pe_bltn (v := .ty T1) hg1 hm1 hv1 rfl hn1 hd1) (pa_cons (pe_bltn (v := .ty T2) hg2 hm2 hv2 rfl hn2 hd2) pa_nil he3) he2)) pa_nil he1) he) (by decide) (by decide) he hpl)
    fun σ H Q ⟨F, E, q⟩ => ⟨F, E, fun F1 H1 v e1 E1 r1 => ⟨by show 2 ≤ sizeLine; decide, fun tp hp1 =>
    ⟨v, tp, [.ty T1, .ty T2], .type (tyD d), [.type T1, .type T2], _, rfl, upd_same, .cons (.ty T1) (.cons (.ty T2) .nil), tyx_of hp (RK.at r1) (E1.atH.updR (E1.atH.free hp1)), kitAny2 (kit_ty (kitB_is hp hT1)) (kit_ty (kitB_is hp hT2)), q F1 _ _ e1 (E1.lay0 hp1) sr_bl⟩⟩⟩
/-! ### in -/
theorem cmp_sign {c : Nat} {t : Str} (ha : ED X G a ρ ρ1 (.v k1 (.str ⟨#[c]⟩))) (hb : ED X G b ρ1 ρ2 (.v k2 (.str t))) (hm : behindInMarks .In b = false := by rfl) : ED X G (.Compare a [.In] [b] pos) ρ ρ2 (.val (.bl (decide (c ∈ t.cps.toList)))) :=
  ed_bin (fun h1 h2 => pe_cmpR op_in_sign h1 h2 hm) ha hb fun σ F H v u Q E hv hu q => by
    rw [rk_str] at hv hu
    exact ⟨c, t, hv, hu, q F H _ (Ext.refl _) E sr_bl⟩
theorem et_sign {c : Nat} {t : Str} (ha : ED X G a ρ ρ1 (.v k1 (.str ⟨#[c]⟩))) (hb : ED X G b ρ1 ρ2 (.v k2 (.str t))) (hm : behindInMarks .In b = false := by rfl) : ET X G (.Compare a [.In] [b] pos) ρ ρ2 (decide (c ∈ t.cps.toList)) :=
  et_bin (fun h1 h2 => pt_cmpR op_in_sign h1 h2 hm) ha hb fun σ F H v u Q E hv hu q => by
    rw [rk_str] at hv hu
    exact ⟨c, t, hv, hu, q F H _ (Ext.refl _) E sr_bl⟩
theorem cmp_nsign {c : Nat} {t : Str} (ha : ED X G a ρ ρ1 (.v k1 (.str ⟨#[c]⟩))) (hb : ED X G b ρ1 ρ2 (.v k2 (.str t))) (hm : behindInMarks .NotIn b = false := by rfl) : ED X G (.Compare a [.NotIn] [b] pos) ρ ρ2 (.val (.bl (!decide (c ∈ t.cps.toList)))) :=
  ed_bin (fun h1 h2 => pe_cmpR op_notIn_sign h1 h2 hm) ha hb fun σ F H v u Q E hv hu q => by
    rw [rk_str] at hv hu
    exact ⟨c, t, hv, hu, q F H _ (Ext.refl _) E sr_bl⟩
theorem et_nsign {c : Nat} {t : Str} (ha : ED X G a ρ ρ1 (.v k1 (.str ⟨#[c]⟩))) (hb : ED X G b ρ1 ρ2 (.v k2 (.str t))) (hm : behindInMarks .NotIn b = false := by rfl) : ET X G (.Compare a [.NotIn] [b] pos) ρ ρ2 (!decide (c ∈ t.cps.toList)) :=
  et_bin (fun h1 h2 => pt_cmpR op_notIn_sign h1 h2 hm) ha hb fun σ F H v u Q E hv hu q => by
    rw [rk_str] at hv hu
    exact ⟨c, t, hv, hu, q F H _ (Ext.refl _) E sr_bl⟩
def flatD : D → Bool
  | .non => true | .bl _ => true | .int _ => true | .str _ => true
  | _ => false
/-- == of two flat data, as Python has it -/
def eqF : D → D → Bool
  | .non, .non => true
  | .bl a, .bl b => a == b
  | .bl a, .int b => (if a then 1 else 0) == b
  | .int a, .bl b => a == (if b then 1 else 0)
  | .int a, .int b => a == b
  | .str a, .str b => a == b
  | _, _ => false
theorem flat_of (h : flatD d = true) (r : Rep K F d v) : flatV v = true := by
  cases d <;> first | (cases h; done) | (simp only [Rep] at r; subst r; rfl)
theorem eqF_of (h : flatD d = true) (g : flatD x = true) (r : Rep K F d v) (t : Rep K F' x u) : eqV v u = eqF d x := by
  cases d <;> first | (cases h; done) | (cases x <;> first | (cases g; done) | (simp only [Rep] at r t; subst r; subst t; rfl))
def inD (x : D) (ds : List D) : Bool := ds.any fun y => eqF y x
theorem inV_of (hx : flatD x = true) (t : Rep K F' x u) : ∀ {ds : List D} {vs : List V}, ds.all flatD = true → Reps K F ds vs → vs.all flatV = true ∧ inV u vs = inD x ds
  | [], vs, h, r => by rw [r.nil_of]; exact ⟨rfl, rfl⟩
  | d :: ds, vs, h, r => by
    obtain ⟨v, ws, rfl, h2, h3⟩ := r.cons_of
    simp only [List.all_cons, Bool.and_eq_true] at h
    obtain ⟨i1, i2⟩ := inV_of hx t h.2 h3
    refine ⟨by simp only [List.all_cons, Bool.and_eq_true]; exact ⟨flat_of h.1 h2, i1⟩, ?_⟩
    show (eqV v u || inV u ws) = (eqF d x || inD x ds)
    rw [eqF_of h.1 hx h2 t, i2]
/-- a list or a tuple, to be read -/
inductive SeqS : Slot → List D → Prop where
  | lst {k : Bool} {ds : List D} : SeqS (.v k (.lst ds)) ds
  | tup {k : Bool} {ds : List D} : SeqS (.v k (.tup ds)) ds
theorem vin {neg : Bool} (hs : SeqS s ds) (hx : flatD x = true) (hd : ds.all flatD = true) : ∃ k d, s = .v k d ∧ ∀ K G ρ k1, VR K G ρ (rIn K neg) k1 x k d (.val (.bl (if neg then !inD x ds else inD x ds))) := by
  cases hs with
  | @lst k _ =>
    refine ⟨k, _, rfl, fun K G ρ k1 σ F H v u Q E hv hu q => ?_⟩
    obtain ⟨a, vs, rfl, h2, h3⟩ := Rep.lstH E.atH (RK.at hu)
    obtain ⟨i1, i2⟩ := inV_of hx (RK.at hv) hd h3
    exact ⟨a, vs, rfl, .inl (sql_rd h2), flat_of hx (RK.at hv), i1, by rw [i2]; exact q F H _ (Ext.refl _) E sr_bl⟩
  | @tup k _ =>
    refine ⟨k, _, rfl, fun K G ρ k1 σ F H v u Q E hv hu q => ?_⟩
    obtain ⟨a, vs, rfl, h2, h3⟩ := Rep.tupH E.atH (RK.at hu)
    obtain ⟨i1, i2⟩ := inV_of hx (RK.at hv) hd h3
    exact ⟨a, vs, rfl, .inr h2, flat_of hx (RK.at hv), i1, by rw [i2]; exact q F H _ (Ext.refl _) E sr_bl⟩
theorem cmp_in (ha : ED X G a ρ ρ1 (.v k1 x)) (hb : ED X G b ρ1 ρ2 s) (hs : SeqS s ds) (hx : flatD x = true) (hd : ds.all flatD = true) (hm : behindInMarks .In b = false := by rfl) : ED X G (.Compare a [.In] [b] pos) ρ ρ2 (.val (.bl (inD x ds))) := by
  obtain ⟨k, d, rfl, h⟩ := vin (neg := false) hs hx hd
  exact ed_bin (fun h1 h2 => pe_cmpR op_in_seq h1 h2 hm) ha hb (h _ _ _ _)
theorem et_in (ha : ED X G a ρ ρ1 (.v k1 x)) (hb : ED X G b ρ1 ρ2 s) (hs : SeqS s ds) (hx : flatD x = true) (hd : ds.all flatD = true) (hm : behindInMarks .In b = false := by rfl) : ET X G (.Compare a [.In] [b] pos) ρ ρ2 (inD x ds) := by
  obtain ⟨k, d, rfl, h⟩ := vin (neg := false) hs hx hd
  exact et_bin (fun h1 h2 => pt_cmpR op_in_seq h1 h2 hm) ha hb (h _ _ _ _)
theorem cmp_nin (ha : ED X G a ρ ρ1 (.v k1 x)) (hb : ED X G b ρ1 ρ2 s) (hs : SeqS s ds) (hx : flatD x = true) (hd : ds.all flatD = true) (hm : behindInMarks .NotIn b = false := by rfl) : ED X G (.Compare a [.NotIn] [b] pos) ρ ρ2 (.val (.bl (!inD x ds))) := by
  obtain ⟨k, d, rfl, h⟩ := vin (neg := true) hs hx hd
  exact ed_bin (fun h1 h2 => pe_cmpR op_notIn_seq h1 h2 hm) ha hb (h _ _ _ _)
theorem et_nin (ha : ED X G a ρ ρ1 (.v k1 x)) (hb : ED X G b ρ1 ρ2 s) (hs : SeqS s ds) (hx : flatD x = true) (hd : ds.all flatD = true) (hm : behindInMarks .NotIn b = false := by rfl) : ET X G (.Compare a [.NotIn] [b] pos) ρ ρ2 (!inD x ds) := by
  obtain ⟨k, d, rfl, h⟩ := vin (neg := true) hs hx hd
  exact et_bin (fun h1 h2 => pt_cmpR op_notIn_seq h1 h2 hm) ha hb (h _ _ _ _)
/-! ### is None -/
def isNon : D → Bool
  | .non => true
  | _ => false
theorem vnon (d : D) : ∀ K G ρ k1 k2, VR K G ρ rIsN k1 d k2 .non (.val (.bl (isNon d))) := fun K G ρ k1 k2 σ F H v u Q E hv hu q => by
  rw [rk_non] at hu
  refine ⟨hu, ?_⟩
  have e : decide (v = V.non) = isNon d := by
    have hv := RK.at hv
    cases d with
    | non => rw [rep_non] at hv; subst hv; rfl
    | bl _ => rw [rep_bl] at hv; subst hv; rfl
    | int _ => rw [rep_int] at hv; subst hv; rfl
    | str _ => rw [rep_str] at hv; subst hv; rfl
    | ty _ => rw [rep_ty] at hv; subst hv; rfl
    | lst _ => simp only [Rep] at hv; obtain ⟨a, vs, rfl, _⟩ := hv; rfl
    | tup _ => simp only [Rep] at hv; obtain ⟨a, vs, rfl, _⟩ := hv; rfl
    | dk _ _ => simp only [Rep] at hv; obtain ⟨a, vs, rfl, _⟩ := hv; rfl
    | ins _ _ _ => simp only [Rep] at hv; obtain ⟨a, dx, vs, rfl, _⟩ := hv; rfl
  rw [e]; exact q F H _ (Ext.refl _) E sr_bl
theorem vnotn (d : D) : ∀ K G ρ k1 k2, VR K G ρ rNotN k1 d k2 .non (.val (.bl (!isNon d))) := fun K G ρ k1 k2 σ F H v u Q E hv hu q => by
  rw [rk_non] at hu
  refine ⟨hu, ?_⟩
  have e : decide (v = V.non) = isNon d := by
    have hv := RK.at hv
    cases d with
    | non => rw [rep_non] at hv; subst hv; rfl
    | bl _ => rw [rep_bl] at hv; subst hv; rfl
    | int _ => rw [rep_int] at hv; subst hv; rfl
    | str _ => rw [rep_str] at hv; subst hv; rfl
    | ty _ => rw [rep_ty] at hv; subst hv; rfl
    | lst _ => simp only [Rep] at hv; obtain ⟨a, vs, rfl, _⟩ := hv; rfl
    | tup _ => simp only [Rep] at hv; obtain ⟨a, vs, rfl, _⟩ := hv; rfl
    | dk _ _ => simp only [Rep] at hv; obtain ⟨a, vs, rfl, _⟩ := hv; rfl
    | ins _ _ _ => simp only [Rep] at hv; obtain ⟨a, dx, vs, rfl, _⟩ := hv; rfl
  rw [e]; exact q F H _ (Ext.refl _) E sr_bl
theorem et_isN {p2 : Pos} {jn : Nat} (ha : ED X G a ρ ρ1 (.v k1 d)) : ET X G (.Compare a [.Is] [.Constant .none jn p2] pos) ρ ρ1 (isNon d) := et_bin (fun h1 h2 => pt_cmpR op_isN1 h1 h2 (nomark _)) ha ed_non (vnon d _ _ _ _ _)
theorem et_notN {p2 : Pos} {jn : Nat} (ha : ED X G a ρ ρ1 (.v k1 d)) : ET X G (.Compare a [.IsNot] [.Constant .none jn p2] pos) ρ ρ1 (!isNon d) := et_bin (fun h1 h2 => pt_cmpR op_notN1 h1 h2 (nomark _)) ha ed_non (vnotn d _ _ _ _ _)
theorem cmp_isN {p2 : Pos} {jn : Nat} (ha : ED X G a ρ ρ1 (.v k1 d)) : ED X G (.Compare a [.Is] [.Constant .none jn p2] pos) ρ ρ1 (.val (.bl (isNon d))) := ed_bin (fun h1 h2 => pe_cmpR op_isN1 h1 h2 (nomark _)) ha ed_non (vnon d _ _ _ _ _)
theorem cmp_notN {p2 : Pos} {jn : Nat} (ha : ED X G a ρ ρ1 (.v k1 d)) : ED X G (.Compare a [.IsNot] [.Constant .none jn p2] pos) ρ ρ1 (.val (.bl (!isNon d))) := ed_bin (fun h1 h2 => pe_cmpR op_notN1 h1 h2 (nomark _)) ha ed_non (vnotn d _ _ _ _ _)
end
end DL
/-! DL10: all, any, sum, list, tuple, slices, lists of one's own. -/
namespace DL
open PySem L2 PyProof.Rows
section
variable {X : Cx} {G G' : Gx} {e a b c o : Expr} {ρ ρ' ρ0 ρ1 ρ2 ρ3 : Env} {r s z s1 s2 : Slot} {d x y w : D} {ds es : List D} {K : PySem.W.Frag} {F F1 F' H H' : Hp} {σ : L2.St} {v u : V} {pos p p2 apos cpos : Pos} {k k1 k2 k3 : Bool} {n : Str} {xs : List Expr} {m i j : Nat} {P : Out → Prop}
/-- a list that can be read: somebody's, or new -/
inductive LstS : Slot → List D → Prop where
  | v {k : Bool} {ds : List D} : LstS (.v k (.lst ds)) ds
  | own {ds : List D} : LstS (.own ds) ds
theorem lst_rd (h : LstS s ds) (E : ER K G F H σ ρ) (r : SR K G F H σ ρ s v) : ∃ (_ : Bool) (a : Addr) (vs : List V), v = V.ref a ∧ Rd H a (.lst vs) ∧ Reps K F ds vs := by
  cases h with
  | @v k ds =>
    obtain ⟨a, vs, h1, h2, h3⟩ := RK.lst r
    exact ⟨true, a, vs, h1, E.atH.rd h2, h3⟩
  | own =>
    obtain ⟨a, vs, h1, h2, h3, h4, h5, h6⟩ := r
    exact ⟨true, a, vs, h1, .inl h2, h5⟩
theorem ed_call1B {id : String} {rc : List V → Hp → VK → Prop} (hc : CallR X (.builtin id) rc) (hg : Gl X n) (hm : X.mg n = none) (hv : bootBuiltins n = some (.builtin id)) (ha : ED X G a ρ ρ1 s)
    (hr : ∀ σ F H v Q, ER X.K G F H σ ρ1 → SR X.K G F H σ ρ1 s v → (∀ F' H' w, Ext F F' → ER X.K G F' H' σ ρ1 → SR X.K G F' H' σ ρ1 z w → Q w H') → rc [v] H Q) (hn : n ≠ "__name__" := by decide) (hdb : (n == ("__debug__" : Str)) = false := by decide)
    (he : starEach [a] X.env = (false, eval a X.env) :: starEach [] X.env := by rfl) (hpl : (backTo pos (starEach [] X.env)).any (·.1) = false := by rfl) : ED X G (.Call (.Name n p) [a] [] pos) ρ ρ1 z :=
  pe_mono (pe_callB hc hg hm hv (ea_one ha he) hn hdb he hpl) fun σ H Q ⟨F, E, q⟩ => ⟨F, E, fun F1 H1 v e1 E1 r1 => hr σ F1 H1 v Q E1 r1 fun F2 H2 w e2 E2 s2 => q F2 H2 w (e1.trans e2) E2 s2⟩
theorem ed_call1T {id : String} {rc : List V → Hp → VK → Prop} (hc : CallR X (.type id) rc) (hg : Gl X n) (hm : X.mg n = none) (hv : bootBuiltins n = some (.type id)) (ha : ED X G a ρ ρ1 s)
    (hr : ∀ σ F H v Q, ER X.K G F H σ ρ1 → SR X.K G F H σ ρ1 s v → (∀ F' H' w, Ext F F' → ER X.K G F' H' σ ρ1 → SR X.K G F' H' σ ρ1 z w → Q w H') → rc [v] H Q) (hn : n ≠ "__name__" := by decide) (hdb : (n == ("__debug__" : Str)) = false := by decide)
    (he : starEach [a] X.env = (false, eval a X.env) :: starEach [] X.env := by rfl) (hpl : (backTo pos (starEach [] X.env)).any (·.1) = false := by rfl) : ED X G (.Call (.Name n p) [a] [] pos) ρ ρ1 z :=
  pe_mono (pe_callTy hc hg hm hv (ea_one ha he) hn hdb he hpl) fun σ H Q ⟨F, E, q⟩ => ⟨F, E, fun F1 H1 v e1 E1 r1 => hr σ F1 H1 v Q E1 r1 fun F2 H2 w e2 E2 s2 => q F2 H2 w (e1.trans e2) E2 s2⟩
theorem ed_all {bs : List Bool} (hc : X.calm = true) (hg : Gl X "all") (hm : X.mg "all" = none) (ha : ED X G a ρ ρ1 s) (hs : LstS s ds) (hd : ds = bs.map D.bl) (he : starEach [a] X.env = (false, eval a X.env) :: starEach [] X.env := by rfl) (hpl : (backTo pos (starEach [] X.env)).any (·.1) = false := by rfl) : ED X G (.Call (.Name "all" p) [a] [] pos) ρ ρ1 (.val (.bl (bs.all id))) :=
  ed_call1B (cr_all hc) hg hm boot_all ha (fun σ F H v Q E r1 q => by
    obtain ⟨k, a, vs, rfl, h2, h3⟩ := lst_rd hs E r1
    rw [hd] at h3
    rw [h3.bls] at h2
    exact ⟨a, bs, rfl, sql_rd h2, q F H _ (Ext.refl _) E sr_bl⟩) (by decide) (by decide) he hpl
theorem ed_any {bs : List Bool} (hc : X.calm = true) (hg : Gl X "any") (hm : X.mg "any" = none) (ha : ED X G a ρ ρ1 s) (hs : LstS s ds) (hd : ds = bs.map D.bl) (he : starEach [a] X.env = (false, eval a X.env) :: starEach [] X.env := by rfl) (hpl : (backTo pos (starEach [] X.env)).any (·.1) = false := by rfl) : ED X G (.Call (.Name "any" p) [a] [] pos) ρ ρ1 (.val (.bl (bs.any id))) :=
  ed_call1B (cr_any hc) hg hm boot_any ha (fun σ F H v Q E r1 q => by
    obtain ⟨k, a, vs, rfl, h2, h3⟩ := lst_rd hs E r1
    rw [hd] at h3
    rw [h3.bls] at h2
    exact ⟨a, bs, rfl, sql_rd h2, q F H _ (Ext.refl _) E sr_bl⟩) (by decide) (by decide) he hpl
theorem ed_sum {ns : List Int} (hc : X.calm = true) (hg : Gl X "sum") (hm : X.mg "sum" = none) (ha : ED X G a ρ ρ1 s) (hs : LstS s ds) (hd : ds = ns.map D.int) (he : starEach [a] X.env = (false, eval a X.env) :: starEach [] X.env := by rfl) (hpl : (backTo pos (starEach [] X.env)).any (·.1) = false := by rfl) : ED X G (.Call (.Name "sum" p) [a] [] pos) ρ ρ1 (.val (.int ns.sum)) :=
  ed_call1B (cr_sum hc) hg hm boot_sum ha (fun σ F H v Q E r1 q => by
    obtain ⟨k, a, vs, rfl, h2, h3⟩ := lst_rd hs E r1
    rw [hd] at h3
    rw [h3.ints] at h2
    exact ⟨a, ns, rfl, sql_rd h2, q F H _ (Ext.refl _) E sr_int⟩) (by decide) (by decide) he hpl
/-- what may be put into a new list -/
theorem reps_val {vs : List V} (h : Reps K (G.at F k) ds vs) (hk : k = true ∨ ds.all isSc = true) : Reps K F ds vs := by
  rcases hk with rfl | hk
  · exact h
  · have : ∀ {ds : List DL.D} {vs : List V}, ds.all isSc = true → Reps K (G.at F k) ds vs → Reps K F ds vs := by
      intro ds
      induction ds with
      | nil => intro vs _ h; rw [h.nil_of]; exact .nil
      | cons d ds ih =>
        intro vs hk h
        obtain ⟨v, ws, rfl, h2, h3⟩ := h.cons_of
        simp only [List.all_cons, Bool.and_eq_true] at hk
        exact .cons (rep_sc hk.1 h2) (ih hk.2 h3)
    exact this hk h
inductive SeqK : Slot → Bool → List D → Prop where
  | lst {k : Bool} {ds : List D} : SeqK (.v k (.lst ds)) k ds
  | tup {k : Bool} {ds : List D} : SeqK (.v k (.tup ds)) k ds
  | own {ds : List D} : SeqK (.own ds) true ds
/-- list(x) -/
theorem ed_list (hg : Gl X "list") (hm : X.mg "list" = none) (ha : ED X G a ρ ρ1 s) (hs : SeqK s k ds) (he : starEach [a] X.env = (false, eval a X.env) :: starEach [] X.env := by rfl) (hpl : (backTo pos (starEach [] X.env)).any (·.1) = false := by rfl) : ED X G (.Call (.Name "list" p) [a] [] pos) ρ ρ1 (.own ds) :=
  ed_call1T call_list_of hg hm boot_list ha (fun σ F H v Q E r1 q => by
    cases hs with
    | lst =>
      obtain ⟨a, vs, rfl, h2, h3⟩ := RK.lst r1
      exact ⟨a, vs, rfl, .inl (sql_rd (E.atH.rd h2)), fun l hl => q F _ _ (Ext.refl _) (E.lay0 hl) (E.newL hl h3)⟩
    | tup =>
      obtain ⟨a, vs, rfl, h2, h3⟩ := RK.tup r1
      exact ⟨a, vs, rfl, .inr (E.sub.sqT h2.1), fun l hl => q F _ _ (Ext.refl _) (E.lay0 hl) (E.newL hl h3)⟩
    | own =>
      obtain ⟨a, vs, rfl, h2, h3, h4, h5, h6⟩ := r1
      exact ⟨a, vs, rfl, .inl (sql_rd (.inl h2)), fun l hl => q F _ _ (Ext.refl _) (E.lay0 hl) (E.newL hl h5)⟩) (by decide) (by decide) he hpl
/-- tuple(x) of a list -/
theorem call_tuple_ofX : CallR X (.type "tuple") (fun xs H Q => ∃ p ys, xs = [.ref p] ∧ SqL X.K H p ys ∧ ∀ l o, H l = none → o.dict = none → Q (.ref l) (upd H l (.frz o (.tup ys)))) := by
  intro pins s σ H xs us Q I r h
  obtain ⟨p, ys, rfl, hq, q⟩ := h
  obtain ⟨u, rfl, rx⟩ := vals1 r
  cases rx
  obtain ⟨its, r', pl, hz⟩ := I.list hq
  have hlen := r'.length
  refine call_tuple_list pl.isList (fun h' kp => ?_) (by simp only [List.size_toArray] <;> omega)
  have I1 : Inv X pins σ H { s with heap := h' } := I.kept (t' := s.toks) kp
  have hnew : (h'.push { cls := .type "tuple", data := .seq its.toArray }).get? h'.objs.size = some { cls := .type "tuple", data := .seq its.toArray } := Heap.get?_push_size _ rfl
  exact ⟨.ref h'.objs.size, upd H h'.objs.size (.frz { cls := .type "tuple", data := .seq its.toArray } (.tup ys)), I1.laid (t' := s.toks) (fun b o e => Heap.get?_push_of_some _ e) (Nat.le_refl _) (show ObjOk X.prog X.w _ _ _ (.frz _ (.tup ys)) from ⟨hnew, hz, its, r', IsTup.new _ _⟩), rfl, q _ _ (I1.hok.fresh (Nat.le_refl _)) rfl⟩
theorem ed_tupleL (hg : Gl X "tuple") (hm : X.mg "tuple" = none) (ha : ED X G a ρ ρ1 s) (hs : LstS s ds) (he : starEach [a] X.env = (false, eval a X.env) :: starEach [] X.env := by rfl) (hpl : (backTo pos (starEach [] X.env)).any (·.1) = false := by rfl) : ED X G (.Call (.Name "tuple" p) [a] [] pos) ρ ρ1 (.val (.tup ds)) :=
  ed_call1T call_tuple_ofX hg hm boot_tuple ha (fun σ F H v Q E r1 q => by
    have mk {a : Addr} {vs : List V} (h2 : Rd H a (.lst vs)) (h5 : Reps X.K F ds vs) : ∀ l o, H l = none → o.dict = none → Q (.ref l) (upd H l (.frz o (.tup vs))) := fun l o hl ho => q (upd F l (.frz o (.tup vs))) (upd H l (.frz o (.tup vs))) _ (Ext.lay (E.sub.free hl)) (E.lay hl) (sr_val (rep_tup.mpr ⟨l, vs, rfl, SqX.new ho, Reps.mono (Ext.lay (E.sub.free hl)) _ _ h5⟩))
    cases hs with
    | @v k _ =>
      obtain ⟨a, vs, rfl, h2, h3⟩ := RK.lst r1
      exact ⟨a, vs, rfl, sql_rd (E.atH.rd h2), mk (E.atH.rd h2) h3⟩
    | own =>
      obtain ⟨a, vs, rfl, h2, h3, h4, h5, h6⟩ := r1
      exact ⟨a, vs, rfl, sql_rd (.inl h2), mk (.inl h2) h5⟩) (by decide) (by decide) he hpl
/-! ### slices -/
def tDO (K : PySem.W.Frag) (G : Gx) (ρ ρ' : Env) (o : Option Int) : TO := fun σ H Q => ∃ F, ER K G F H σ ρ ∧ ∀ F' H', Ext F F' → ER K G F' H' σ ρ' → Q o H'
abbrev EO (X : Cx) (G : Gx) (e : Option Expr) (ρ ρ' : Env) (o : Option Int) : Prop := PO X e (tDO X.K G ρ ρ' o)
theorem po_mono {e : Option Expr} {t t' : TO} (h : PO X e t) (i : ∀ σ H Q, t' σ H Q → t σ H Q) : PO X e t' := ⟨fun pins s σ H Q I q => h.run pins s σ H Q I (i σ H Q q)⟩
theorem eo_none : EO X G none ρ ρ none := po_mono po_none fun σ H Q ⟨F, E, q⟩ => q F H (Ext.refl _) E
theorem eo_some {i : Int} (h : ED X G e ρ ρ1 (.v k (.int i))) : EO X G (some e) ρ ρ1 (some i) := po_mono (po_some h) fun σ H Q ⟨F, E, q⟩ => ⟨F, E, fun F1 H1 v e1 E1 r1 => ⟨i, of_int r1, q F1 H1 e1 E1⟩⟩
def cutD (xs : List D) (lo hi : Option Int) : List D := (xs.drop (HT.sIx xs.length 0 lo)).take (HT.sIx xs.length xs.length hi - HT.sIx xs.length 0 lo)
theorem reps_cut {vs : List V} {lo hi : Option Int} (h : Reps K F ds vs) : Reps K F (cutD ds lo hi) (cutV vs lo hi) := by
  unfold cutD cutV
  rw [h.length]
  exact (h.drop _).take _
variable {lo hi : Option Expr} {l1 l2 : Option Int}
/-- x[lo:hi] of a list, the bounds leave the frame as it is -/
theorem ed_slL (ha : ED X G a ρ ρ1 s) (hs : SeqK s k ds) (hl : EO X G lo ρ1 ρ1 l1) (hh : EO X G hi ρ1 ρ1 l2) (hL : (∃ k, s = .v k (.lst ds))) : ED X G (.Subscript a (.Slice lo hi none p2) pos) ρ ρ1 (.own (cutD ds l1 l2)) :=
  pe_mono (pe_slice sl_list ha hl hh) fun σ H Q ⟨F, E, q⟩ => ⟨F, E, fun F1 H1 v e1 E1 r1 => ⟨F1, E1, fun F2 H2 e2 E2 => ⟨F2, E2, fun F3 H3 e3 E3 => by
    obtain ⟨k', rfl⟩ := hL
    have hkk : k' = k := by cases hs; rfl
    subst hkk
    obtain ⟨a, vs, rfl, h2, h3⟩ := RK.lst (RK.mono (e2.trans e3) r1)
    exact ⟨a, vs, rfl, sql_rd (E3.atH.rd h2), fun l hl => q F3 _ _ ((e1.trans e2).trans e3) (E3.lay0 hl) (E3.newL hl (reps_cut h3))⟩⟩⟩⟩
theorem ed_slS {t : Str} (ha : ED X G a ρ ρ1 (.v k (.str t))) (hl : EO X G lo ρ1 ρ2 l1) (hh : EO X G hi ρ2 ρ3 l2) (hz : t.length ≤ sizeLine) : ED X G (.Subscript a (.Slice lo hi none p2) pos) ρ ρ3 (.val (.str (cutS t l1 l2))) :=
  pe_mono (pe_slice sl_str ha hl hh) fun σ H Q ⟨F, E, q⟩ => ⟨F, E, fun F1 H1 v e1 E1 r1 => ⟨F1, E1, fun F2 H2 e2 E2 => ⟨F2, E2, fun F3 H3 e3 E3 => by
    have := of_str r1
    subst this
    exact ⟨t, rfl, hz, q F3 _ _ ((e1.trans e2).trans e3) E3 sr_str⟩⟩⟩⟩
/-- x.extend(y), y also frozen -/
def rExtendR : V → List V → Hp → VK → Prop := fun x vs H Q => ∃ l b xs zs, x = .ref l ∧ vs = [.ref b] ∧ H l = some (.lst xs) ∧ Rd H b (.lst zs) ∧ xs.length + zs.length ≤ sizeLine ∧ Q .non (upd H l (.lst (xs ++ zs)))
theorem mt_extendR {X : Cx} : MtM X "list.extend" rExtendR := by
  intro pins s σ H x vs v us Q I rx rv h
  obtain ⟨l, b, xs, zs, rfl, rfl, hH, hB, hz, q⟩ := h
  cases rx
  obtain ⟨u, rfl, ru⟩ := rv.one
  cases ru
  obtain ⟨z, its, n, r, hl, e⟩ := I.lstM hH
  obtain ⟨z2, its2, n2, r2, e2⟩ := (show ObjOk X.prog X.w H s.heap b (.lst zs) from hB.ok I.hok)
  have hl2 := r2.length
  have size2 : its.toArray.size + its2.toArray.size ≤ sizeLine := by rw [List.size_toArray, List.size_toArray]; omega
  have few : ¬ (!its.toArray.isEmpty && Builtin.List.listTooLong (its.toArray.size + its2.toArray.size)) = true := by
    rw [notLongL size2, Bool.and_false]; exact Bool.false_ne_true
  refine call_meets F.slot_list_extend ⟨_, e, rfl⟩ F.entry_list_extend (F.args_list_extend_2 _ _) (AutoSeq1.list_extend_list_list_0 l its.toArray n b its2.toArray n2 few (by rw [List.size_toArray]; omega) (by omega)) ⟨e, e2, .non, _, I.lset (its' := its ++ its2) hH e (by simp) (r.append r2) ?_, rfl, q⟩
  rw [List.length_append]; omega
/-! ### lists of one's own, by methods -/
theorem ed_extend (hN : X.N[i]? = some n) (hv : Vis X.env.scope n) (h0 : ρ[i]? = some (some (.own es))) (he : ED X G e ρ ρ1 s) (hd : ToV s (.lst ds)) {zs : List D} (h1 : ρ1[i]? = some (some (.own zs))) (hz : zs.length + ds.length ≤ sizeLine)
    (hdb : (n == ("__debug__" : Str)) = false := by decide) (hcd : (n == ("__classdict__" : Str)) = false := by decide) (hbase : attributeBase (.Name n p) "extend" X.env (eval (.Name n p) X.env) = eval (.Name n p) X.env := by rfl)
    (hst : starEach [e] X.env = (false, eval e X.env) :: starEach [] X.env := by rfl) (hpl : (backTo cpos (starEach [] X.env)).any (·.1) = false := by rfl) (hline : (apos.endLine == cpos.line) = true := by rfl)
    (hfew : ((backTo cpos (starEach [e] X.env)).all (fun x => !x.1) && (backToKw cpos (keywordEach [] X.env)).all (fun x => x.1.isSome) && decide ([e].length + ([] : List Keyword).length + (if ([] : List Keyword).isEmpty then 0 else 1) < 30)) = true := by rfl) : ED X G (.Call (.Attribute (.Name n p) "extend" apos) [e] [] cpos) ρ (ρ1.set i (some (.own (zs ++ ds)))) (.val .non) :=
  pe_mono (pe_bm PySem.F.plainAttrs_list PySem.F.slot_list_extend PySem.F.type_list_extend mt_extendR (pe_var hN hv hdb hcd) (ea_one (ed_toV he hd) hst) hbase hfew hline hst hpl) fun σ H Q ⟨F, E, q⟩ => by
    obtain ⟨a, vs, g1, g2, g3, g4, g5⟩ := E.own i es h0
    refine ⟨_, g1, .inl ⟨rfl, vs, SqL.of g2⟩, F, E, fun F2 H2 w e2 E2 r2 => ?_⟩
    obtain ⟨a', vs', k1, k2, k3, k4, k5⟩ := E2.own i zs h1
    rw [g1] at k1; cases k1
    obtain ⟨b, ws, rfl, m2, m3⟩ := Rep.lstH E2.sub r2
    exact ⟨a, b, vs', ws, rfl, rfl, k2, m2, by rw [k5.length, m3.length]; exact hz, q F2 _ _ e2 (E2.write h1 g1 (k5.append m3)) sr_non⟩
/-- x.pop(e) -/
theorem ed_popAt {jj : Int} {q : Nat} (hN : X.N[i]? = some n) (hv : Vis X.env.scope n) (h0 : ρ[i]? = some (some (.own es))) (he : ED X G e ρ ρ1 (.v k (.int jj))) (h1 : ρ1[i]? = some (some (.own ds))) (hj : jj = (q : Int)) (hq : ds[q]? = some d) (hz : jj < 2 ^ 63)
    (hdb : (n == ("__debug__" : Str)) = false := by decide) (hcd : (n == ("__classdict__" : Str)) = false := by decide) (hbase : attributeBase (.Name n p) "pop" X.env (eval (.Name n p) X.env) = eval (.Name n p) X.env := by rfl)
    (hst : starEach [e] X.env = (false, eval e X.env) :: starEach [] X.env := by rfl) (hpl : (backTo cpos (starEach [] X.env)).any (·.1) = false := by rfl) (hline : (apos.endLine == cpos.line) = true := by rfl)
    (hfew : ((backTo cpos (starEach [e] X.env)).all (fun x => !x.1) && (backToKw cpos (keywordEach [] X.env)).all (fun x => x.1.isSome) && decide ([e].length + ([] : List Keyword).length + (if ([] : List Keyword).isEmpty then 0 else 1) < 30)) = true := by rfl) : ED X G (.Call (.Attribute (.Name n p) "pop" apos) [e] [] cpos) ρ (ρ1.set i (some (.own (ds.eraseIdx q)))) (.val d) :=
  pe_mono (pe_bm PySem.F.plainAttrs_list PySem.F.slot_list_pop PySem.F.type_list_pop mt_popAt (pe_var hN hv hdb hcd) (ea_one he hst) hbase hfew hline hst hpl) fun σ H Q ⟨F, E, qq⟩ => by
    obtain ⟨a, vs, g1, g2, g3, g4, g5⟩ := E.own i es h0
    refine ⟨_, g1, .inl ⟨rfl, vs, SqL.of g2⟩, F, E, fun F2 H2 w e2 E2 r2 => ?_⟩
    obtain ⟨a', vs', k1, k2, k3, k4, k5⟩ := E2.own i ds h1
    rw [g1] at k1; cases k1
    obtain ⟨y, m1, m2⟩ := k5.getD hq
    have hl : q < vs'.length := (List.getElem?_eq_some_iff.mp m1).1
    have hb : vs'.length ≤ vs'.length := Nat.le_refl _
    refine ⟨a, vs', jj, q, y, rfl, by rw [of_int r2], k2, by omega, hz, ?_, m1, qq F2 _ _ e2 (E2.write h1 g1 (k5.eraseIdx q)) (sr_val m2)⟩
    obtain ⟨j2, z1, z2, _⟩ := atI_get (atI_nat m1)
    rw [hj]
    have : j2 = q := by
      have z3 := z1
      unfold seqIndex? at z3
      split at z3 <;> simp at z3 <;> omega
    rw [← this]; rw [this] at z1 ⊢; exact z1
/-- x.reverse() -/
theorem ed_reverse (hN : X.N[i]? = some n) (hv : Vis X.env.scope n) (h0 : ρ[i]? = some (some (.own ds)))
    (hdb : (n == ("__debug__" : Str)) = false := by decide) (hcd : (n == ("__classdict__" : Str)) = false := by decide) (hbase : attributeBase (.Name n p) "reverse" X.env (eval (.Name n p) X.env) = eval (.Name n p) X.env := by rfl) (hline : (apos.endLine == cpos.line) = true := by rfl) :
    ED X G (.Call (.Attribute (.Name n p) "reverse" apos) [] [] cpos) ρ (ρ.set i (some (.own ds.reverse))) (.val .non) :=
  pe_mono (pe_bm0 PySem.F.plainAttrs_list PySem.F.slot_list_reverse PySem.F.type_list_reverse mt_reverse (pe_var hN hv hdb hcd) hbase hline) fun σ H Q ⟨F, E, q⟩ => by
    obtain ⟨a, vs, g1, g2, g3, g4, g5⟩ := E.own i ds h0
    exact ⟨_, g1, .inl ⟨rfl, vs, SqL.of g2⟩, a, vs, rfl, rfl, g2, q F _ _ (Ext.refl _) (E.write h0 g1 g5.reverse) sr_non⟩
/-! ### texts -/
theorem ed_strOf {jj : Int} (hg : Gl X "str") (hm : X.mg "str" = none) (ha : ED X G a ρ ρ1 (.v k (.int jj))) (hz : jj.natAbs.log2 < 1920) (he : starEach [a] X.env = (false, eval a X.env) :: starEach [] X.env := by rfl) (hpl : (backTo pos (starEach [] X.env)).any (·.1) = false := by rfl) : ED X G (.Call (.Name "str" p) [a] [] pos) ρ ρ1 (.val (.str (Str.ofString (toString jj)))) :=
  ed_call1T call_str_int hg hm boot_str ha (fun σ F H v Q E r1 q => ⟨jj, by rw [of_int r1], hz, q F H _ (Ext.refl _) E sr_str⟩) (by decide) (by decide) he hpl
/-- t.join(x) -/
theorem ed_join {t : Str} {ss : List Str} (ho : ED X G o ρ ρ1 (.v k (.str t))) (he : ED X G e ρ1 ρ2 s) (hs : LstS s ds) (hd : ds = ss.map D.str) (hz : (ss.map (·.length)).sum + ss.length * t.length ≤ 16777216)
    (hbase : attributeBase o "join" X.env (eval o X.env) = eval o X.env := by rfl)
    (hst : starEach [e] X.env = (false, eval e X.env) :: starEach [] X.env := by rfl) (hpl : (backTo cpos (starEach [] X.env)).any (·.1) = false := by rfl) (hline : (apos.endLine == cpos.line) = true := by rfl)
    (hfew : ((backTo cpos (starEach [e] X.env)).all (fun x => !x.1) && (backToKw cpos (keywordEach [] X.env)).all (fun x => x.1.isSome) && decide ([e].length + ([] : List Keyword).length + (if ([] : List Keyword).isEmpty then 0 else 1) < 30)) = true := by rfl) : ED X G (.Call (.Attribute o "join" apos) [e] [] cpos) ρ ρ2 (.val (.str (Txt.join t ss))) :=
  pe_mono (pe_bm PySem.F.plainAttrs_str PySem.F.slot_str_join PySem.F.type_str_join mt_join ho (ea_one he hst) hbase hfew hline hst hpl) fun σ H Q ⟨F, E, q⟩ => ⟨F, E, fun F1 H1 v e1 E1 r1 => by
    have := of_str r1
    subst this
    refine ⟨rfl, F1, E1, fun F2 H2 w e2 E2 r2 => ?_⟩
    obtain ⟨k, a, vs, rfl, h2, h3⟩ := lst_rd hs E2 r2
    rw [hd] at h3
    rw [h3.strs] at h2
    exact ⟨t, a, ss, rfl, rfl, .inl (sql_rd h2), hz, q F2 _ _ (e1.trans e2) E2 sr_str⟩⟩
end
end DL
/-! DL11: zip and enumerate over lists and tuples in any mix. -/
namespace DL
open PySem L2 PyProof.Rows
/-- a list or a tuple that is walked -/
inductive Src where
  | l (a : Addr) | t (a : Addr)
def Src.ad : Src → Addr
  | .l a => a
  | .t a => a
def Src.Sq (K : PySem.W.Frag) (H : Hp) : Src → List V → Prop
  | .l a, xs => SqL K H a xs
  | .t a, xs => SqT K H a xs
def Src.It (h : Heap) (it : Addr) (i : Nat) : Src → Prop
  | .l a => h.IsListIter it a i
  | .t a => h.IsTupleIter it a i
def Src.Has (h : Heap) (items : Array Value) : Src → Prop
  | .l a => h.IsList a items
  | .t a => h.IsTuple a items
def Src.ob : Src → Obj
  | .l a => { cls := .type "list_iterator", data := .fields #[.ref a, .int 0 0] }
  | .t a => { cls := .type "tuple_iterator", data := .fields #[.ref a, .int 0 0] }
theorem Src.draws {prog : Program} {w : World} {A : Around} (hh : A.handled = none) (S : Src) (it : Addr) (hne : S.ad ≠ it) (items : Array Value) : Draws prog w A it [it, S.ad] items.size (fun i v => items[i]? = some v) (fun i h => S.It h it i ∧ S.Has h items) := by
  cases S with
  | l a => exact Draws.list hh it a hne items
  | t a => exact Draws.tuple hh it a hne items
theorem Src.begins (S : Src) (items : Array Value) : Begins (.ref S.ad) S.ob fun h => S.Has h items := by
  cases S with
  | l a => exact begins_list a items
  | t a => exact begins_tuple a items
section
variable {X : Cx} {pins : List (Addr × Obj)} {σ : L2.St} {H : Hp} {s : Shared} {S : Src} {xs ys : List V} {h h' : Heap} {it : Addr} {i : Nat}
theorem Src.inv (I : Inv X pins σ H s) (q : S.Sq X.K H xs) : ∃ its : List Value, Vals xs its ∧ S.Has s.heap its.toArray := by
  cases S with
  | l a =>
    obtain ⟨its, rv, p, _⟩ := I.list q
    exact ⟨its, rv, p.isList⟩
  | t a =>
    obtain ⟨its, rv, p, _⟩ := I.tuple q
    exact ⟨its, rv, p⟩
theorem Src.inj (I : Inv X pins σ H s) (q : S.Sq X.K H xs) (q' : S.Sq X.K H ys) : xs = ys := by
  cases S with
  | l a => exact I.list_inj q q'
  | t a => exact I.tuple_inj q q'
theorem Src.It.ob_ (st : S.It h it i) : ∃ o, h.get? it = some o ∧ ∀ v, o.data ≠ .cell v := by
  cases S with
  | l a => obtain ⟨o, ho, _, hd⟩ := st; exact ⟨o, ho, fun v q => by rw [hd] at q; cases q⟩
  | t a => obtain ⟨o, ho, _, hd⟩ := st; exact ⟨o, ho, fun v q => by rw [hd] at q; cases q⟩
theorem Src.It.keep (st : S.It h it i) (k : ∀ o, h.get? it = some o → h'.get? it = some o) : S.It h' it i := by
  cases S with
  | l a => exact st.at k
  | t a => exact st.at k
theorem Src.It.start (e : h.get? it = some S.ob) : S.It h it 0 := by
  cases S with
  | l a => exact ⟨_, e, rfl, rfl⟩
  | t a => exact ⟨_, e, rfl, rfl⟩
end
/-! ### zip -/
def ItS2 (K : PySem.W.Frag) (S1 S2 : Src) : It :=
  ⟨fun i H => ∃ (xs ys : List V) (x y : V), S1.Sq K H xs ∧ S2.Sq K H ys ∧ xs[i]? = some x ∧ ys[i]? = some y,
    fun i H v H' => ∃ T x y, v = .ref T ∧ H T = none ∧ H' = upd H T (.tup [x, y]) ∧ (∀ xs, S1.Sq K H xs → xs[i]? = some x) ∧ ∀ ys, S2.Sq K H ys → ys[i]? = some y,
    fun i H => ∃ xs ys : List V, S1.Sq K H xs ∧ S2.Sq K H ys ∧ i = min xs.length ys.length⟩
theorem turn_zipS {P : Program} {w : World} {K : PySem.W.Frag} {elts : List Expr} {kk : Nat} {tpos : Pos} {S1 S2 : Src} {z TI TO i1 i2 : Addr} (D : ZipSep2 z TI TO i1 i2 [i1, S1.ad] [i2, S2.ad]) (n1 : S1.ad ≠ i1) (n2 : S2.ad ≠ i2) :
    Turn P w K (.Tuple elts kk tpos) (ItS2 K S1 S2) [z, TI, TO, i1, i2] z (fun i h => IsZip h z TI TO .none ∧ IsTupOf2 h TI (.ref i1) (.ref i2) ∧ (∃ x y, IsTupOf2 h TO x y) ∧ S1.It h i1 i ∧ S2.It h i2 i) where
  mem := by simp
  obj := fun i h st c hc => by
    obtain ⟨hz, hTI, ⟨x, y, hTO⟩, h1, h2⟩ := st
    have e' : c = z ∨ c = TI ∨ c = TO ∨ c = i1 ∨ c = i2 := by simpa using hc
    rcases e' with q | q | q | q | q
    · rw [q]; exact ⟨_, hz, fun v q => nomatch q⟩
    · rw [q]; exact ⟨_, hTI, fun v q => nomatch q⟩
    · rw [q]; exact ⟨_, hTO, fun v q => nomatch q⟩
    · rw [q]; exact h1.ob_
    · rw [q]; exact h2.ob_
  keep := fun i h h' st k => by
    obtain ⟨hz, hTI, ⟨x, y, hTO⟩, h1, h2⟩ := st
    exact ⟨k z (by simp) _ hz, k TI (by simp) _ hTI, ⟨x, y, k TO (by simp) _ hTO⟩, h1.keep fun o q => k i1 (by simp) o q, h2.keep fun o q => k i2 (by simp) o q⟩
  item := by
    intro X hP hw hK hc i pins s σ H E I hf st hg
    subst hP hw hK
    obtain ⟨hz, hTI, ⟨x0, y0, hTO⟩, h1, h2⟩ := st
    obtain ⟨xs, ys, x, y, hqx, hqy, hx, hy⟩ := hg
    obtain ⟨its, rv, p⟩ := Src.inv I hqx
    obtain ⟨its2, rv2, p2⟩ := Src.inv I hqy
    obtain ⟨u, hu, ru⟩ := rv.get hx
    obtain ⟨u2, hu2, ru2⟩ := rv2.get hy
    have hzl : z < s.heap.objs.size := Heap.lt_size hz
    have hh : X.A.in1.handled = none := I.ok.hd hc
    have lt1 : i < its.toArray.size := by
      have := (List.getElem?_eq_some_iff.mp hu).1
      simpa using this
    have lt2 : i < its2.toArray.size := by
      have := (List.getElem?_eq_some_iff.mp hu2).1
      simpa using this
    refine wpAny_pyNext_zipD2_item D (S1.draws hh i1 n1 its.toArray) (S2.draws hh i2 n2 its2.toArray) hz hTI hTO ⟨h1, p⟩ ⟨h2, p2⟩ lt1 lt2 fun x1 x2 h' tk y1 y2 z' TO' h1' h2' hT hsz hk => ?_
    have e1 : x1 = u := by
      have : its.toArray[i]? = some u := by simpa using hu
      rw [this] at y1; exact (Option.some.inj y1).symm
    have e2 : x2 = u2 := by
      have : its2.toArray[i]? = some u2 := by simpa using hu2
      rw [this] at y2; exact (Option.some.inj y2).symm
    subst e1
    subst e2
    refine ⟨_, rfl, wpAny_letOwnedTupleGo_zip (s := { s with heap := h', toks := tk }) z' fun h'' z'' sb => ?_⟩
    have hT2 : h''.get? s.heap.objs.size = some { cls := .type "tuple", data := .seq #[x1, x2] } := (sb.2 _ (Nat.ne_of_gt hzl)).trans hT
    have new : ObjOk X.prog X.w (upd H s.heap.objs.size (.tup [x, y])) h'' s.heap.objs.size (.tup [x, y]) :=
      ⟨by show 2 ≤ sizeLine; decide, [x1, x2], .cons ru (.cons ru2 .nil), ⟨_, hT2, rfl, _, rfl⟩⟩
    have I1 : Inv X pins σ (upd H s.heap.objs.size (.tup [x, y])) { s with heap := h'', toks := tk } :=
      I.turnedNew (t' := tk) (ch := [z, TI, TO, i1, i2]) (fun c o hb q => (sb.2 c (fun q' => hb (by simp [q']))).trans (hk c o (fun q' => hb (by simp [q'])) (fun q' => hb (by simp [q'])) (fun q' => hb (by simp [q'])) (fun q' => hb (by simp [q'])) q)) hf (Nat.le_refl _) new
    refine ⟨.ref s.heap.objs.size, _, I1, rfl, ⟨_, x, y, rfl, I.hok.fresh (Nat.le_refl _), rfl, fun l hl => by rw [Src.inj I hl hqx]; exact hx, fun l hl => by rw [Src.inj I hl hqy]; exact hy⟩, ⟨z'', ?_, ⟨x1, x2, ?_⟩, ?_, ?_⟩, fun c hcm => ?_⟩
    · exact (sb.2 _ D.TIz).trans (hk _ _ D.TIz D.TITO D.TIi1 D.TIi2 hTI)
    · exact (sb.2 _ D.TOz).trans TO'
    · exact h1'.1.keep fun o q => (sb.2 _ (fun q' => D.zi1 q'.symm)).trans q
    · exact h2'.1.keep fun o q => (sb.2 _ (fun q' => D.zi2 q'.symm)).trans q
    · have hlt : c < s.heap.objs.size := by
        have e' : c = z ∨ c = TI ∨ c = TO ∨ c = i1 ∨ c = i2 := by simpa using hcm
        rcases e' with q | q | q | q | q
        · rw [q]; exact hzl
        · rw [q]; exact Heap.lt_size hTI
        · rw [q]; exact Heap.lt_size hTO
        · rw [q]; obtain ⟨_, e1, _⟩ := h1.ob_; exact Heap.lt_size e1
        · rw [q]; obtain ⟨_, e2, _⟩ := h2.ob_; exact Heap.lt_size e2
      rw [upd_ne (Nat.ne_of_lt hlt)]
      exact (hf c hcm).1
  done := by
    intro X hP hw hK hc i pins s σ H E I hf st hg
    subst hP hw hK
    obtain ⟨hz, hTI, ⟨x0, y0, hTO⟩, h1, h2⟩ := st
    obtain ⟨xs, ys, hqx, hqy, hend⟩ := hg
    obtain ⟨its, rv, p⟩ := Src.inv I hqx
    obtain ⟨its2, rv2, p2⟩ := Src.inv I hqy
    have l1 := rv.length
    have l2 := rv2.length
    have hh : X.A.in1.handled = none := I.ok.hd hc
    exact wpAny_pyNext_zipD2_end D (S1.draws hh i1 n1 its.toArray) (S2.draws hh i2 n2 its2.toArray) hz hTI hTO ⟨h1, p⟩ ⟨h2, p2⟩ (by simp; omega) (by simp; omega) (by simp; omega) fun h' tk hk => ⟨rfl, I.turnedL (t' := tk) (ch := [z, TI, TO, i1, i2]) (fun c o hb q =>
      hk c o (fun q' => hb (by simp [q'])) (fun q' => hb (by simp [q'])) (fun q' => hb (by simp [q'])) (fun q' => hb (by simp [q'])) q) hf⟩
  self := fun A i s Q E st h => wpAny_pyIter_zip st.1 h
def iZipS (K : PySem.W.Frag) (ta : TA) : TI := fun σ H R => ta σ H fun vs H1 => ∃ S1 S2 xs ys, vs = [V.ref S1.ad, V.ref S2.ad] ∧ S1.Sq K H1 xs ∧ S2.Sq K H1 ys ∧ R (ItS2 K S1 S2) H1
theorem Src.lt {S : Src} {h : Heap} {items : Array Value} (q : S.Has h items) : S.ad < h.objs.size := by
  cases S with
  | l a => obtain ⟨o, ho, _⟩ := q; exact Heap.lt_size ho
  | t a => obtain ⟨o, ho, _⟩ := q; exact Heap.lt_size ho
theorem pi_zipS {X : Cx} {e e2 : Expr} {ta : TA} {p pos tpos : Pos} {elts : List Expr} {kk : Nat} (hg : Gl X "zip") (hm : X.mg "zip" = none) (ha : PA X [e, e2] ta)
    (hs : starEach [e, e2] X.env = (false, eval e X.env) :: starEach [e2] X.env := by rfl) (hpl : (backTo pos (starEach [e2] X.env)).any (·.1) = false := by rfl) :
    PI X (.Tuple elts kk tpos) (.Call (.Name "zip" p) [e, e2] [] pos) (iZipS X.K ta) := by
  refine ⟨fun pins s σ H R I h => ?_⟩
  refine Call_ (ld_blt I hg hm PyProof.Rows.boot_zip (PyProof.Rows.callWith_type1 (thn (ha.run pos pins s σ H _ I h) fun us s1 ⟨vs, H1, I1, r1, q1⟩ => ?_) hs hpl))
  obtain ⟨S1, S2, xs, ys, ex, hqx, hqy, q⟩ := q1
  subst ex
  cases r1 with
  | cons r rr =>
    cases rr with
    | cons r' rr =>
      cases rr
      cases r
      cases r'
      obtain ⟨its, rv, p1⟩ := Src.inv I1 hqx
      obtain ⟨its2, rv2, p2⟩ := Src.inv I1 hqy
      have fresh5 : ∀ c, c ∈ [s1.heap.objs.size + 4, s1.heap.objs.size + 2, s1.heap.objs.size + 3, s1.heap.objs.size, s1.heap.objs.size + 1] → FpOk X pins H1 c := fun c hcm => by
        have e' : c = s1.heap.objs.size + 4 ∨ c = s1.heap.objs.size + 2 ∨ c = s1.heap.objs.size + 3 ∨ c = s1.heap.objs.size ∨ c = s1.heap.objs.size + 1 := by simpa using hcm
        have hle : s1.heap.objs.size ≤ c := by omega
        exact I1.fpOk hle (I1.hok.fresh hle)
      refine zip_begins2 (S1.begins its.toArray) (S2.begins its2.toArray) p1 p2 fun h' hz hTI hTO h1 h2 hsz hk => wpAny_pyIter_zip hz ?_
      have I2 : Inv X pins σ H1 { s1 with heap := h' } := I1.kept (t' := s1.toks) hk
      have lt1 := Src.lt p1
      have lt2 := Src.lt p2
      have hS : ZipSep2 (s1.heap.objs.size + 4) (s1.heap.objs.size + 2) (s1.heap.objs.size + 3) s1.heap.objs.size (s1.heap.objs.size + 1) [s1.heap.objs.size, S1.ad] [s1.heap.objs.size + 1, S2.ad] := zip_sep2 (by simpa using lt1) (by simpa using lt2)
      exact ⟨s1.heap.objs.size + 4, [s1.heap.objs.size + 4, s1.heap.objs.size + 2, s1.heap.objs.size + 3, s1.heap.objs.size, s1.heap.objs.size + 1], _, _, H1, rfl, I2, turn_zipS hS (Nat.ne_of_lt lt1) (Nat.ne_of_lt (Nat.lt_succ_of_lt lt2)), ⟨hz, hTI, ⟨_, _, hTO⟩, Src.It.start h1, Src.It.start h2⟩, fresh5, q⟩
theorem walk_zipS {K : PySem.W.Frag} {S1 S2 : Src} {xs ys : List V} {n : Nat} (hn : n = min xs.length ys.length) : Walk (ItS2 K S1 S2) n (fun H => S1.Sq K H xs ∧ S2.Sq K H ys) (YPair (fun i => xs[i]?) (fun i => ys[i]?)) :=
  ⟨fun i _ hi q => ⟨xs, ys, xs[i]'(by omega), ys[i]'(by omega), q.1, q.2, by simp [show i < xs.length by omega], by simp [show i < ys.length by omega]⟩, fun _ q => ⟨xs, ys, q.1, q.2, hn⟩,
    fun i H x H' _ q y => by
      obtain ⟨T, a, b, h1, h2, h3, h4, h5⟩ := y
      exact ⟨T, a, b, h1, h2, h3, h4 xs q.1, h5 ys q.2⟩⟩
/-! ### at the level of data -/
section
variable {X : Cx} {G G' : Gx} {e a b c o : Expr} {ρ ρ' ρ0 ρ1 ρ2 ρ3 : DL.Env} {r s z s1 s2 : Slot} {d x y w : D} {ds es : List D} {K : PySem.W.Frag} {F F1 F' H H' : Hp} {σ : L2.St} {v u : V} {pos p p2 apos cpos tpos : Pos} {k k1 k2 k3 : Bool} {n : Str} {xs : List Expr} {m i j kk : Nat} {P : Out → Prop} {elts : List Expr}
/-- a list or a tuple, or one's own list -/
theorem seq_src (hs : SeqS s ds) (E : ER K G F H σ ρ) (r : SR K G F H σ ρ s v) : ∃ k S vs, s = .v k (match S with | Src.l _ => .lst ds | Src.t _ => .tup ds) ∧ v = V.ref S.ad ∧ Reps K F ds vs ∧ ∀ H', Ext F H' → Ext G.Hv H' → S.Sq K H' vs := by
  cases hs with
  | @lst k ds =>
    obtain ⟨a, vs, rfl, h2, h3⟩ : ∃ a vs, v = V.ref a ∧ Rd (G.at F k) a (.lst vs) ∧ Reps K F ds vs := RK.lst r
    refine ⟨k, .l a, vs, rfl, rfl, h3, fun H' e1 e2 => sql_rd ?_⟩
    cases k
    · exact Ext.rd e2 h2
    · exact Ext.rd e1 h2
  | @tup k ds =>
    obtain ⟨a, vs, rfl, ⟨h2, _⟩, h3⟩ : ∃ a vs, v = V.ref a ∧ SqX K F a vs ∧ Reps K F ds vs := RK.tup r
    exact ⟨k, .t a, vs, rfl, rfl, h3, fun H' e1 e2 => Ext.sqT e1 h2⟩
def tD2 (K : PySem.W.Frag) (G : Gx) (ρ ρ' : DL.Env) (r1 r2 : Slot) : TA := fun σ H Q => ∃ F, ER K G F H σ ρ ∧ ∀ F' H' v u, Ext F F' → ER K G F' H' σ ρ' → SR K G F' H' σ ρ' r1 v → SR K G F' H' σ ρ' r2 u → Q [v, u] H'
theorem ea_two {x1 y1 : D} (ha : ED X G a ρ ρ1 (.v k1 x1)) (hb : ED X G b ρ1 ρ2 (.v k2 y1)) (hs : starEach [a, b] X.env = (false, eval a X.env) :: starEach [b] X.env := by rfl) (hs2 : starEach [b] X.env = (false, eval b X.env) :: starEach [] X.env := by rfl) : PA X [a, b] (tD2 X.K G ρ ρ2 (.v k1 x1) (.v k2 y1)) :=
  pa_mono (pa_cons ha (pa_cons hb pa_nil hs2) hs) fun σ H Q ⟨F, E, q⟩ => ⟨F, E, fun F1 H1 v e1 E1 r1 => ⟨F1, E1, fun F2 H2 u e2 E2 r2 => q F2 H2 v u (e1.trans e2) E2 (RK.mono e2 r1) r2⟩⟩
theorem wk_zip {x1 y1 : D} (hg : Gl X "zip") (hm : X.mg "zip" = none) (ha : ED X G a ρ ρ1 (.v k1 x1)) (hb : ED X G b ρ1 ρ2 (.v k2 y1)) (h1 : SeqS (.v k1 x1) ds) (h2 : SeqS (.v k2 y1) es) (hn : m = min ds.length es.length) {dx : D}
    (hs : starEach [a, b] X.env = (false, eval a X.env) :: starEach [b] X.env := by rfl) (hs2 : starEach [b] X.env = (false, eval b X.env) :: starEach [] X.env := by rfl) (hpl : (backTo pos (starEach [b] X.env)).any (·.1) = false := by rfl) :
    WD X G (.Tuple elts kk tpos) (.Call (.Name "zip" p) [a, b] [] pos) ρ ρ2 m (fun t => .two true (ds.getD t dx) true (es.getD t dx)) :=
  pi_mono (pi_zipS hg hm (ea_two ha hb hs hs2) hs hpl) fun σ H R ⟨F, E, q⟩ => ⟨F, E, fun F1 H1 v u e1 E1 r1 r2 => by
    obtain ⟨k1', S1, vs, q1, rfl, hr1, hq1⟩ := seq_src h1 E1 r1
    obtain ⟨k2', S2, ws, q2, rfl, hr2, hq2⟩ := seq_src h2 E1 r2
    have z1 : k1' = k1 := by injection q1 with q1 _; exact q1.symm
    have z2 : k2' = k2 := by injection q2 with q2 _; exact q2.symm
    subst z1
    subst z2
    refine ⟨S1, S2, vs, ws, rfl, hq1 _ E1.sub E1.keep, hq2 _ E1.sub E1.keep, q F1 H1 _ e1 E1 ⟨_, _, walk_zipS (xs := vs) (ys := ws) (n := m) (by rw [hr1.length, hr2.length]; exact hn), fun H e2 e3 => ⟨hq1 H e2 e3, hq2 H e2 e3⟩, fun t H x H' ht e2 e3 y => ?_⟩⟩
    obtain ⟨T, a, b, g1, g2, g3, g4, g5⟩ := y
    obtain ⟨d1, m1, m2⟩ := hr1.get g4
    obtain ⟨d2, m3, m4⟩ := hr2.get g5
    refine ⟨T, a, b, g1, g2, g3, ?_, ?_⟩
    · have : ds.getD t dx = d1 := by rw [List.getD_eq_getElem?_getD, m1]; rfl
      rw [this]; exact m2
    · have : es.getD t dx = d2 := by rw [List.getD_eq_getElem?_getD, m3]; rfl
      rw [this]; exact m4⟩
end
end DL
/-! DL12: enumerate. -/
namespace DL
open PySem L2 PyProof.Rows
def ItE (K : PySem.W.Frag) (S : Src) (k0 : Int) : It :=
  ⟨fun i H => ∃ (xs : List V) (x : V), S.Sq K H xs ∧ xs[i]? = some x, fun i H v H' => ∃ T x, v = .ref T ∧ H T = none ∧ H' = upd H T (.tup [.int (k0 + (i : Nat)), x]) ∧ ∀ xs, S.Sq K H xs → xs[i]? = some x, fun i H => ∃ xs : List V, S.Sq K H xs ∧ xs.length = i⟩
theorem turn_enumS {P : Program} {w : World} {K : PySem.W.Frag} {elts : List Expr} {kk : Nat} {tpos : Pos} {S : Src} {k0 : Int} (e it : Addr) (hne : e ≠ it) (he : e ≠ S.ad) (hit : S.ad ≠ it) :
    Turn P w K (.Tuple elts kk tpos) (ItE K S k0) [e, it] e (fun i h => (∃ old, IsEnum h e it (k0 + ((i : Nat) : Int)) old) ∧ S.It h it i) where
  mem := by simp
  obj := fun i h st b hb => by
    obtain ⟨⟨old, he⟩, hi⟩ := st
    have e' : b = e ∨ b = it := by simpa using hb
    rcases e' with z | z
    · rw [z]; exact ⟨_, he, fun v q => nomatch q⟩
    · rw [z]; exact hi.ob_
  keep := fun i h h' st k => let ⟨⟨old, he⟩, hi⟩ := st; ⟨⟨old, k e (by simp) _ he⟩, hi.keep fun o q => k it (by simp) o q⟩
  item := by
    intro X hP hw hK hc i pins s σ H E I hf st hg
    subst hP hw hK
    obtain ⟨⟨old, hen⟩, hi⟩ := st
    obtain ⟨xs, x, hq, hx⟩ := hg
    obtain ⟨its, rv, p⟩ := Src.inv I hq
    obtain ⟨u, hu, ru⟩ := rv.get hx
    have hel : e < s.heap.objs.size := Heap.lt_size hen
    have hil : it < s.heap.objs.size := by obtain ⟨_, q, _⟩ := hi.ob_; exact Heap.lt_size q
    have hh : X.A.in1.handled = none := I.ok.hd hc
    have lt1 : i < its.toArray.size := by
      have := (List.getElem?_eq_some_iff.mp hu).1
      simpa using this
    refine wpAny_pyNext_enum_itemC (S.draws hh it hit its.toArray) hen ⟨hi, p⟩ lt1 hne (by simp [hne, he]) fun x1 h' tk y1 ho hs' hT hsz hk => ?_
    have e1 : x1 = u := by
      have : its.toArray[i]? = some u := by simpa using hu
      rw [this] at y1; exact (Option.some.inj y1).symm
    subst e1
    refine ⟨_, rfl, wpAny_letOwnedTupleGo_enum (s := { s with heap := h', toks := tk + 1 }) ho fun h'' he' sb => ?_⟩
    have hT2 : h''.get? s.heap.objs.size = some { cls := .type "tuple", data := .seq #[.int (k0 + (i : Nat)) tk, x1] } := (sb.2 _ (Nat.ne_of_gt hel)).trans hT
    have new : ObjOk X.prog X.w (upd H s.heap.objs.size (.tup [.int (k0 + (i : Nat)), x])) h'' s.heap.objs.size (.tup [.int (k0 + (i : Nat)), x]) :=
      ⟨by show 2 ≤ sizeLine; decide, [.int (k0 + (i : Nat)) tk, x1], .cons ⟨_, rfl⟩ (.cons ru .nil), ⟨_, hT2, rfl, _, rfl⟩⟩
    have I1 : Inv X pins σ (upd H s.heap.objs.size (.tup [.int (k0 + (i : Nat)), x])) { s with heap := h'', toks := tk + 1 } :=
      I.turnedNew (t' := tk + 1) (ch := [e, it]) (fun b ob hb q => (sb.2 b (fun z => hb (by simp [z]))).trans (hk b ob (fun z => hb (by simp [z])) (fun z => hb (by simp [z])) q)) hf (Nat.le_refl _) new
    refine ⟨.ref s.heap.objs.size, _, I1, rfl, ⟨_, x, rfl, I.hok.fresh (Nat.le_refl _), rfl, fun ys hy => by rw [Src.inj I hy hq]; exact hx⟩, ⟨⟨x1, ?_⟩, hs'.1.keep fun o q => (sb.2 it (Ne.symm hne)).trans q⟩, fun b hb => ?_⟩
    · have e1 : k0 + ((i + 1 : Nat) : Int) = k0 + (i : Int) + 1 := by omega
      rw [e1]; exact he'
    · have hb' : b < s.heap.objs.size := by
        have e' : b = e ∨ b = it := by simpa using hb
        rcases e' with z | z
        · rw [z]; exact hel
        · rw [z]; exact hil
      rw [upd_ne (Nat.ne_of_lt hb')]
      exact (hf b hb).1
  done := by
    intro X hP hw hK hc i pins s σ H E I hf st hg
    subst hP hw hK
    obtain ⟨⟨old, hen⟩, hi⟩ := st
    obtain ⟨xs, hq, hx⟩ := hg
    obtain ⟨its, rv, p⟩ := Src.inv I hq
    obtain ⟨f0, f1, f2, f3, f4, f5⟩ := hf it (by simp)
    have hl := rv.length
    have hh : X.A.in1.handled = none := I.ok.hd hc
    have e0 : i = its.toArray.size := by simp; omega
    subst e0
    exact wpAny_pyNext_enum_endD (S.draws hh it hit its.toArray) hen ⟨hi, p⟩ fun h' eb => ⟨rfl, I.turnedL (t' := s.toks) (ch := [e, it]) (fun b o hb q => eb b o (fun z => hb (by simp [z])) q) hf⟩
  self := fun A i s Q E st h => let ⟨⟨_, he⟩, _⟩ := st; wpAny_pyIter_enum he h
def iEnumS (K : PySem.W.Frag) (k0 : Int) (ta : TA) : TI := fun σ H R => ta σ H fun vs H1 => ∃ S xs, vs = [V.ref S.ad] ∧ S.Sq K H1 xs ∧ R (ItE K S k0) H1
theorem enum_end {X : Cx} {pins : List (Addr × Obj)} {σ : L2.St} {H1 : Hp} {s1 : Shared} {S : Src} {its : List Value} {k0 : Int} {elts : List Expr} {kk : Nat} {tpos : Pos} {R : It → Hp → Prop} (I1 : Inv X pins σ H1 s1) (p1 : S.Has s1.heap its.toArray) (q : R (ItE X.K S k0) H1) {h' : Heap}
    (he : IsEnum h' (s1.heap.objs.size + 1) s1.heap.objs.size k0 .none) (h1 : h'.get? s1.heap.objs.size = some S.ob) (hk : ∀ b o, s1.heap.get? b = some o → h'.get? b = some o) : PIE X pins σ (.Tuple elts kk tpos) R (.ref (s1.heap.objs.size + 1)) { s1 with heap := h' } := by
  have I2 : Inv X pins σ H1 { s1 with heap := h' } := I1.kept (t' := s1.toks) hk
  have lt1 := Src.lt p1
  refine ⟨s1.heap.objs.size + 1, [s1.heap.objs.size + 1, s1.heap.objs.size], _, _, H1, rfl, I2, turn_enumS (S := S) (k0 := k0) (s1.heap.objs.size + 1) s1.heap.objs.size (Nat.succ_ne_self _) (Nat.ne_of_gt (Nat.lt_succ_of_lt lt1)) (Nat.ne_of_lt lt1), ⟨⟨.none, ?_⟩, Src.It.start h1⟩, fun b hb => ?_, q⟩
  · have e0 : k0 + ((0 : Nat) : Int) = k0 := by omega
    rw [e0]; exact he
  · have e' : b = s1.heap.objs.size + 1 ∨ b = s1.heap.objs.size := by simpa using hb
    have hle : s1.heap.objs.size ≤ b := by
      rcases e' with z | z
      · rw [z]; exact Nat.le_succ _
      · rw [z]; exact Nat.le_refl _
    exact I1.fpOk hle (I1.hok.fresh hle)
section
open PySem.Sem (wp)
theorem meets_enumerate_new0B {v : Value} {o : Obj} {H : Heap → Prop} (B : Begins v o H) :
    Meets (Builtin.«enumerate.__new__» ⟨[.type "enumerate", v], []⟩) (fun _ R s => H s.heap ∧
      R (.ok (.ret (.ref (s.heap.push o).objs.size))) { s with heap := (s.heap.push o).push { cls := .type "enumerate", data := .fields #[.none, .bool false, .ref s.heap.objs.size, rawInt 0, .none, .none] } }) :=
  .of_wp fun prog w A R s h => by
    obtain ⟨hp, g, d, tk, os⟩ := s; obtain ⟨h1, h⟩ := h
    have hsub := sub_enumerate
    have q1 : ∀ {A' : Around} {E : Value → Shared → Prop} {Q : Value → Shared → Prop}, Q (.ref hp.objs.size) ⟨hp.push o, g, d, tk, os⟩ → wpAny (model prog w) A' (pyIter v) Q E ⟨hp, g, d, tk, os⟩ :=
      fun q => B.iter prog w _ _ ⟨hp, g, d, tk, os⟩ _ h1 q
    wp_walk using q1
    refine wpAny_stack_any fun st => wpAny_pure ?_
    split
    · rename_i c _ _ _ _ _
      cases (c == Value.type "enumerate")
      · wp_walk using q1
        exact ⟨_, rfl, h⟩
      · wp_walk using q1
        exact ⟨_, rfl, h⟩
    · wp_walk using q1
      exact ⟨_, rfl, h⟩
theorem enum_begins0 {prog : Program} {w : World} {A : Around} {E : Value → Shared → Prop} {s : Shared} {v : Value} {o : Obj} {H : Heap → Prop} {Q : Value → Shared → Prop} (B : Begins v o H) (h1 : H s.heap)
    (h : ∀ h', IsEnum h' (s.heap.objs.size + 1) s.heap.objs.size 0 .none → h'.get? s.heap.objs.size = some o → (∀ b o, s.heap.get? b = some o → h'.get? b = some o) → Q (.ref (s.heap.objs.size + 1)) { s with heap := h' }) :
    wpAny (model prog w) A (call (.type "enumerate") [v]) Q E s := by
  refine callType_new F.called_enumerate (by decide) (F.typeCall_enumerate_1 _) (F.newCall_enumerate_1 _) (fun obj => F.args_object_init_2 obj _) F.entry_enumerate_new
    (meets_enumerate_new0B B) ⟨h1, ?_⟩
  have hz : (s.heap.push o).objs.size = s.heap.objs.size + 1 := Heap.size_push ..
  show _ ∧ _
  rw [hz]
  have he : IsEnum ((s.heap.push o).push { cls := .type "enumerate", data := .fields #[.none, .bool false, .ref s.heap.objs.size, rawInt 0, .none, .none] }) (s.heap.objs.size + 1) s.heap.objs.size 0 .none := by
    have := Heap.get?_push_size (s.heap.push o) (o := { cls := .type "enumerate", data := .fields #[.none, .bool false, .ref s.heap.objs.size, rawInt 0, .none, .none] }) rfl
    rw [hz] at this; exact this
  exact ⟨⟨_, he, rfl⟩, h _ he (Heap.get?_push_of_some _ (Heap.get?_push_size _ B.free)) fun b o x => Heap.get?_push_of_some _ (Heap.get?_push_of_some _ x)⟩
end
theorem pi_enumS {X : Cx} {e : Expr} {ta : TA} {p pos tpos : Pos} {elts : List Expr} {kk : Nat} (hg : Gl X "enumerate") (hm : X.mg "enumerate" = none) (ha : PA X [e] ta) (hs : starEach [e] X.env = [(false, eval e X.env)] := by rfl) :
    PI X (.Tuple elts kk tpos) (.Call (.Name "enumerate" p) [e] [] pos) (iEnumS X.K 0 ta) := by
  refine ⟨fun pins s σ H R I h => ?_⟩
  refine Call_ (ld_blt I hg hm boot_enumerate (PyProof.Rows.callWith_type1 (thn (ha.run pos pins s σ H _ I h) fun us s1 ⟨vs, H1, I1, r1, q1⟩ => ?_) hs rfl))
  obtain ⟨S, xs, ex, hq, q⟩ := q1
  subst ex
  cases r1 with
  | cons r rr =>
    cases rr
    cases r
    obtain ⟨its, rv, p'⟩ := Src.inv I1 hq
    exact enum_begins0 (S.begins its.toArray) p' fun h' he h1 hk => wpAny_pyIter_enum he (enum_end I1 p' q he h1 hk)
theorem walk_enumS {K : PySem.W.Frag} {S : Src} {xs : List V} {k0 : Int} : Walk (ItE K S k0) xs.length (fun H => S.Sq K H xs) (YPair (fun i => some (.int (k0 + (i : Nat)))) (fun i => xs[i]?)) :=
  ⟨fun i _ hi q => ⟨xs, xs[i], q, by simp [hi]⟩, fun _ q => ⟨xs, q, rfl⟩, fun i H x H' _ q y => by
    obtain ⟨T, a, h1, h2, h3, h4⟩ := y
    exact ⟨T, _, a, h1, h2, h3, rfl, h4 xs q⟩⟩
section
variable {X : Cx} {G G' : Gx} {e a b c o : Expr} {ρ ρ' ρ0 ρ1 ρ2 ρ3 : DL.Env} {r s z s1 s2 : Slot} {d x y w : D} {ds es : List D} {K : PySem.W.Frag} {F F1 F' H H' : Hp} {σ : L2.St} {v u : V} {pos p p2 apos cpos tpos : Pos} {k k1 k2 k3 : Bool} {n : Str} {xs : List Expr} {m i j kk : Nat} {P : Out → Prop} {elts : List Expr}
theorem wk_enum {x1 : D} (hg : Gl X "enumerate") (hm : X.mg "enumerate" = none) (ha : ED X G a ρ ρ1 (.v k x1)) (h1 : SeqS (.v k x1) ds) {dx : D} (hs : starEach [a] X.env = [(false, eval a X.env)] := by rfl) :
    WD X G (.Tuple elts kk tpos) (.Call (.Name "enumerate" p) [a] [] pos) ρ ρ1 ds.length (fun t => .two true (.int (t : Int)) true (ds.getD t dx)) :=
  pi_mono (pi_enumS hg hm (ea_one ha hs) hs) fun σ H R ⟨F, E, q⟩ => ⟨F, E, fun F1 H1 v e1 E1 r1 => by
    obtain ⟨k1', S1, vs, q1, rfl, hr1, hq1⟩ := seq_src h1 E1 r1
    have z1 : k1' = k := by injection q1 with q1 _; exact q1.symm
    subst z1
    refine ⟨S1, vs, rfl, hq1 _ E1.sub E1.keep, q F1 H1 _ e1 E1 ⟨_, _, by rw [← hr1.length]; exact walk_enumS (xs := vs), fun H e2 e3 => hq1 H e2 e3, fun t H x H' ht e2 e3 y => ?_⟩⟩
    obtain ⟨T, a, b, g1, g2, g3, g4, g5⟩ := y
    obtain ⟨d1, m1, m2⟩ := hr1.get g5
    refine ⟨T, a, b, g1, g2, g3, ?_, ?_⟩
    · injection g4 with g4
      rw [← g4, rk_int]
      show V.int ((0 : Int) + (t : Int)) = _
      rw [Int.zero_add]
    · have : ds.getD t dx = d1 := by rw [List.getD_eq_getElem?_getD, m1]; rfl
      rw [this]; exact m2⟩
end
end DL
/-! DL13: sorted, count, sum of a tuple. -/
namespace DL
open PySem L2 PyProof.Rows PySem.W
mutual
def pyD : D → PyData
  | .bl b => .bool b
  | .int i => .int i
  | .str s => .str s
  | .lst ds => .list (pyDs ds)
  | .tup ds => .tuple (pyDs ds)
  | _ => .none
def pyDs : List D → List PyData
  | [] => []
  | d :: ds => pyD d :: pyDs ds
end
mutual
def dataD : D → Bool
  | .non => true | .bl _ => true | .int _ => true | .str _ => true
  | .lst ds => dataDs ds
  | .tup ds => dataDs ds
  | _ => false
def dataDs : List D → Bool
  | [] => true
  | d :: ds => dataD d && dataDs ds
end
theorem pyDs_map : ∀ ds : List D, pyDs ds = ds.map pyD
  | [] => by simp [pyDs]
  | d :: ds => by rw [pyDs, pyDs_map ds]; rfl
theorem dataDs_all : ∀ ds : List D, dataDs ds = ds.all dataD
  | [] => by simp [dataDs]
  | d :: ds => by rw [dataDs, dataDs_all ds]; rfl
mutual
theorem dp_of {K : PySem.W.Frag} {F H : Hp} (e : Ext F H) : ∀ (d : D) (v : V), dataD d = true → Rep K F d v → Dp K H v (pyD d)
  | .non, v, _, r => by rw [rep_non] at r; subst r; exact .non
  | .bl b, v, _, r => by rw [rep_bl] at r; subst r; exact .bl b
  | .int i, v, _, r => by rw [rep_int] at r; subst r; exact .int i
  | .str s, v, _, r => by rw [rep_str] at r; subst r; exact .str s
  | .ty _, v, h, _ => by simp [dataD] at h
  | .dk _ _, v, h, _ => by simp [dataD] at h
  | .ins _ _ _, v, h, _ => by simp [dataD] at h
  | .lst ds, v, h, r => by
    obtain ⟨a, vs, rfl, h2, h3⟩ := Rep.lstH e r
    simp only [dataD] at h
    simp only [pyD]
    exact .lst (sql_rd h2) (dps_of e ds vs h h3)
  | .tup ds, v, h, r => by
    obtain ⟨a, vs, rfl, h2, h3⟩ := Rep.tupH e r
    simp only [dataD] at h
    simp only [pyD]
    exact .tup h2 (dps_of e ds vs h h3)
theorem dps_of {K : PySem.W.Frag} {F H : Hp} (e : Ext F H) : ∀ (ds : List D) (vs : List V), dataDs ds = true → Reps K F ds vs → DpAll K H vs (pyDs ds)
  | [], vs, _, r => by rw [r.nil_of]; exact .nil
  | d :: ds, vs, h, r => by
    obtain ⟨v, ws, rfl, h2, h3⟩ := r.cons_of
    simp only [dataDs, Bool.and_eq_true] at h
    simp only [pyDs]
    exact .cons (dp_of e d v h.1 h2) (dps_of e ds ws h.2 h3)
end
def rSortedE (K : PySem.W.Frag) : List V → Hp → VK → Prop := fun vs H Q => ∃ (a : Addr) (bs : List (V × D)), vs = [V.ref a] ∧ SqL K H a (bs.map (·.1)) ∧ (∀ b ∈ bs, Dp K H b.1 (pyD b.2)) ∧ AllAlike (bs.map fun b => pyD b.2) ∧ Sortable (bs.map fun b => pyD b.2) ∧ (∀ b ∈ bs, (pyD b.2).depth ≤ 60) ∧
  ∀ p, H p = none → Q (.ref p) (upd H p (.lst ((bs.mergeSort (dataLe false fun b => pyD b.2)).map (·.1))))
theorem each_fst {us : List Value} {bs : List (V × D)} (h : Vals (bs.map (·.1)) us) : EachIs (fun u (b : V × D) => RelV b.1 u) us bs := by
  induction bs generalizing us with
  | nil => cases h; exact .nil
  | cons b bs ih =>
    cases h with
    | cons r t => exact .cons r (ih t)
theorem vals_each {us : List Value} {bs : List (V × D)} (h : EachIs (fun u (b : V × D) => RelV b.1 u) us bs) : Vals (bs.map (·.1)) us := by
  induction h with
  | nil => exact .nil
  | cons r t ih => exact .cons r ih
section
variable {X : Cx}
theorem cr_sortedE (hu : X.A.units + 64 < cLine) : CallR X (.builtin "sorted") (rSortedE X.K) := by
  intro pins s σ H vs us Q I r h
  obtain ⟨a, bs, rfl, hs, hd, hal, hk, hdep, q⟩ := h
  obtain ⟨its, rv, hl, hz⟩ := I.list hs
  rw [Vals.ref1 r]
  have e := each_fst rv
  have er : EachIs (fun v (b : V × D) => ∃ as, Reads s.heap v (pyD b.2) as) its bs := by
    have : ∀ {us : List Value} {bs : List (V × D)}, EachIs (fun u (b : V × D) => RelV b.1 u) us bs → (∀ b ∈ bs, Dp X.K H b.1 (pyD b.2)) → EachIs (fun v (b : V × D) => ∃ as, Reads s.heap v (pyD b.2) as) us bs := by
      intro us bs h
      induction h with
      | nil => intro _; exact .nil
      | cons r t ih => intro hd; exact .cons (Dp.reads I _ _ _ (hd _ (List.mem_cons_self ..)) r) (ih fun b hb => hd b (List.mem_cons_of_mem _ hb))
    exact this e hd
  rw [List.length_map] at hz
  refine sorted_data hl.isList e er hal hk hz (fun b hb => ?_) fun out ho eo => ?_
  · have := hdep b hb
    omega
  · obtain ⟨ep, he'⟩ := PyProof.Rows.sortedAll_at s.heap its out.toArray
    have hv := vals_each eo
    have hlen : ((bs.mergeSort (dataLe false fun b => pyD b.2)).map (·.1)).length ≤ sizeLine := by
      rw [List.length_map, List.length_mergeSort]; exact hz
    exact ⟨.ref _, upd H (s.heap.objs.size + 1) (.lst _), I.laid (t' := s.toks) (fun _ _ => PyProof.Rows.sortedAll_old) (Nat.le_succ _) ⟨hlen, out, ep, hv, he'⟩, rfl, q _ (I.hok.fresh (Nat.le_succ _))⟩
end
def leD : D → D → Bool := dataLe false pyD
theorem reps_zip {K : PySem.W.Frag} {F : Hp} : ∀ {ds : List D} {vs : List V}, Reps K F ds vs → (vs.zip ds).map (·.1) = vs ∧ (vs.zip ds).map (·.2) = ds ∧ ∀ b ∈ vs.zip ds, Rep K F b.2 b.1
  | [], vs, r => by rw [r.nil_of]; exact ⟨rfl, rfl, fun b hb => by cases hb⟩
  | d :: ds, vs, r => by
    obtain ⟨v, ws, rfl, h2, h3⟩ := r.cons_of
    obtain ⟨i1, i2, i3⟩ := reps_zip h3
    refine ⟨by simp only [List.zip_cons_cons, List.map_cons, i1], by simp only [List.zip_cons_cons, List.map_cons, i2], fun b hb => ?_⟩
    rcases List.mem_cons.mp hb with rfl | hb
    · exact h2
    · exact i3 b hb
theorem reps_unzip {K : PySem.W.Frag} {F : Hp} : ∀ {bs : List (V × D)}, (∀ b ∈ bs, Rep K F b.2 b.1) → Reps K F (bs.map (·.2)) (bs.map (·.1))
  | [], _ => .nil
  | b :: bs, h => .cons (h b (List.mem_cons_self ..)) (reps_unzip fun c hc => h c (List.mem_cons_of_mem _ hc))
section
variable {X : Cx} {G G' : Gx} {e a b c o : Expr} {ρ ρ' ρ0 ρ1 ρ2 ρ3 : DL.Env} {r s z s1 s2 : Slot} {d x y w : D} {ds es : List D} {K : PySem.W.Frag} {F F1 F' H H' : Hp} {σ : L2.St} {v u : V} {pos p p2 apos cpos tpos : Pos} {k k1 k2 k3 : Bool} {n : Str} {xs : List Expr} {m i j kk : Nat} {P : Out → Prop}
/-- sorted(x), data -/
theorem ed_sorted (hu : X.A.units + 64 < cLine) (hg : Gl X "sorted") (hm : X.mg "sorted" = none) (ha : ED X G a ρ ρ1 s) (hs : LstS s ds) (hd : ds.all dataD = true) (hal : AllAlike (ds.map pyD)) (ho : Sortable (ds.map pyD)) (hdep : ∀ d ∈ ds, (pyD d).depth ≤ 60)
    (he : starEach [a] X.env = (false, eval a X.env) :: starEach [] X.env := by rfl) (hpl : (backTo pos (starEach [] X.env)).any (·.1) = false := by rfl) : ED X G (.Call (.Name "sorted" p) [a] [] pos) ρ ρ1 (.own (ds.mergeSort leD)) :=
  ed_call1B (cr_sortedE hu) hg hm boot_sorted ha (fun σ F H v Q E r1 q => by
    obtain ⟨k, a, vs, rfl, h2, h3⟩ := lst_rd hs E r1
    have h5 : Reps X.K F ds vs := h3
    obtain ⟨i1, i2, i3⟩ := reps_zip h5
    have em : (vs.zip ds).map (fun b => pyD b.2) = ds.map pyD := by
      rw [← i2, List.map_map, i2]; rfl
    refine ⟨a, vs.zip ds, rfl, by rw [i1]; exact sql_rd h2, fun b hb => dp_of E.sub _ _ ?_ (i3 b hb), by rw [em]; exact hal, by rw [em]; exact ho, fun b hb => hdep _ ?_, fun p hp => ?_⟩
    · have : b.2 ∈ ds := by rw [← i2]; exact List.mem_map_of_mem hb
      exact List.all_eq_true.mp hd _ this
    · rw [← i2]; exact List.mem_map_of_mem hb
    · have es : ((vs.zip ds).mergeSort (dataLe false fun b => pyD b.2)).map (·.2) = ds.mergeSort leD := by
        have := sort_maps (r := dataLe false fun b : V × D => pyD b.2) (s := leD) (fun b : V × D => b.2) (l := vs.zip ds) fun a _ b _ => rfl
        rw [this, i2]
      refine q F _ _ (Ext.refl _) (E.lay0 hp) (E.newL hp ?_)
      rw [← es]
      exact reps_unzip fun b hb => i3 b ((List.mergeSort_perm _ _).mem_iff.mp hb)) (by decide) (by decide) he hpl
end
end DL
/-! DL14: a set of the items of a list or a tuple (ints and texts in any mix), its length; counting flat items; the sum of a tuple. -/
namespace DL
open PySem L2 PyProof.Rows
/-! ### the items of ks, each once, by their first place -/
instance : LawfulBEq Key where
  eq_of_beq {a b} h := by
    match a, b, h with
    | .inl a, .inl b, h => have : (a == b) = true := h; rw [eq_of_beq this]
    | .inr a, .inr b, h => have : (a == b) = true := h; rw [eq_of_beq this]
    | .inl a, .inr b, h => exact nomatch (show false = true from h)
    | .inr a, .inl b, h => exact nomatch (show false = true from h)
  rfl {a} := by
    match a with
    | .inl a => exact (beq_self_eq_true a : (a == a) = true)
    | .inr a => exact (beq_self_eq_true a : (a == a) = true)
theorem snoc_ind {α : Type} {p : List α → Prop} (h0 : p []) (h1 : ∀ l a, p l → p (l ++ [a])) (l : List α) : p l := by
  have : ∀ m : List α, p m.reverse := fun m => by
    induction m with
    | nil => exact h0
    | cons a m ih => rw [List.reverse_cons]; exact h1 _ _ ih
  have h := this l.reverse
  rwa [List.reverse_reverse] at h
def stepK (σ : List Key) (k : Key) : List Key := if k ∈ σ then σ else σ ++ [k]
def metK (ks : List Key) : List Key := ks.foldl stepK []
theorem metK_snoc (ks : List Key) (k : Key) : metK (ks ++ [k]) = stepK (metK ks) k := by
  unfold metK; rw [List.foldl_append] <;> rfl
theorem stepK_mem (σ : List Key) (v k : Key) : decide (k ∈ stepK σ v) = (decide (k ∈ σ) || decide (k = v)) := by
  unfold stepK
  by_cases h : v ∈ σ
  · rw [if_pos h]
    by_cases e : k = v
    · subst e; simp [h]
    · simp [e]
  · rw [if_neg h]
    simp [List.mem_append]
theorem stepK_len (σ : List Key) (v : Key) : (stepK σ v).length = if decide (v ∈ σ) = true then σ.length else σ.length + 1 := by
  unfold stepK
  by_cases h : v ∈ σ
  · simp [h]
  · simp [h]
theorem metK_le (ks : List Key) : (metK ks).length ≤ ks.length := by
  induction ks using snoc_ind with
  | h0 => exact Nat.le_refl _
  | h1 ks k ih =>
    rw [metK_snoc, stepK_len, List.length_append]
    split <;> simp only [List.length_cons, List.length_nil] <;> omega
theorem metK_mem (ks : List Key) (k : Key) : k ∈ metK ks ↔ k ∈ ks := by
  induction ks using snoc_ind with
  | h0 => exact Iff.rfl
  | h1 ks v ih =>
    rw [metK_snoc, List.mem_append, List.mem_singleton, ← ih]
    have := stepK_mem (metK ks) v k
    by_cases h1 : k ∈ stepK (metK ks) v <;> by_cases h2 : k ∈ metK ks <;> by_cases h3 : k = v <;> simp_all
theorem metK_nodup (ks : List Key) : (metK ks).length = ks.length ↔ ks.Nodup := by
  induction ks using snoc_ind with
  | h0 => simp [metK]
  | h1 ks v ih =>
    rw [metK_snoc, stepK_len, List.length_append, List.nodup_append]
    have hl := metK_le ks
    by_cases h : v ∈ metK ks
    · have h' := (metK_mem ks v).mp h
      simp only [h, decide_true, if_true, List.length_cons, List.length_nil]
      constructor
      · intro e; omega
      · rintro ⟨_, _, h3⟩
        exact absurd rfl (h3 v h' v (List.mem_singleton.mpr rfl))
    · have h' : v ∉ ks := fun q => h ((metK_mem ks v).mpr q)
      simp only [h, decide_false, Bool.false_eq_true, if_false, List.length_cons, List.length_nil]
      constructor
      · intro e
        refine ⟨ih.mp (by omega), by simp, fun a ha b hb q => h' ?_⟩
        rw [List.mem_singleton] at hb
        rw [← hb, ← q]; exact ha
      · rintro ⟨h1, _, _⟩
        rw [ih.mpr h1]
/-! ### set(xs) -/
section
variable {P : Program} {w : World} {A : Around} {R : Result → Shared → Prop} {I : Addr} {fp wr : List Addr} {g : Array GenState → Array GenState → Prop} {n : Nat} {Pv : Nat → Value → Prop} {St : Nat → Shared → Prop} {E : Value → Shared → Prop} {s : Shared}
theorem set_loopK (W : WalksS P w A.in1 I fp wr g n Pv St) (S : Addr) (hSf : S ∉ fp) (ks : List Key) (hn : ks.length = n) (hb : n + 1 < scanBound) (hval : ∀ i v, Pv i v → ∃ k, ks[i]? = some k ∧ (mixKind P w).is k v = true ∧ v.scannable = true) :
    ∀ (j i : Nat) (s : Shared), n - i = j → i ≤ n → St i s → s.heap.SetOf (mixKind P w) S (fun k => decide (k ∈ metK (ks.take i))) (metK (ks.take i)).length →
      (∀ s', Moved (S :: wr) g s s' → s'.heap.SetOf (mixKind P w) S (fun k => decide (k ∈ metK ks)) (metK ks).length → R (.ok (.ret .none)) s') →
      codeAny (model P w) A (.builtin "set.update.loop" ⟨[.ref S, .ref I], []⟩) R s := by
  have hSw : S ∉ wr := fun h => hSf (W.sub _ h)
  have hsub : ∀ b ∈ wr, b ∈ S :: wr := fun b hb => List.mem_cons_of_mem _ hb
  have keep : ∀ {s s' : Shared} {f : Key → Bool} {m : Nat}, Moved wr g s s' → s.heap.SetOf (mixKind P w) S f m → s'.heap.SetOf (mixKind P w) S f m := fun hm h =>
    let ⟨o, es, ep, t, ho, rest⟩ := h
    ⟨o, es, ep, t, hm.heap S _ hSw ho, rest⟩
  intro j
  induction j with
  | zero =>
    intro i s hj hi hst hS hR
    obtain rfl : i = n := by omega
    refine codeAny_builtin PyProof.Rows.F.entry_set_update_loop ?_
    rw [Around.under_plainId PyProof.Rows.F.plain_set_update_loop _]
    show wpAny _ A.in1 (pyNext (.ref I) >>= _) _ _ s
    refine wpAny_bind (W.done s _ _ hst fun s' hm => ?_)
    show wpAny _ A.in1 (ret Value.none) _ _ s'
    rw [List.take_of_length_le (by omega)] at hS
    exact wpAny_pure (hR s' (hm.mono hsub) (keep hm hS))
  | succ j ih =>
    intro i s hj hi hst hS hR
    have hlt : i < n := by omega
    refine codeAny_builtin PyProof.Rows.F.entry_set_update_loop ?_
    rw [Around.under_plainId PyProof.Rows.F.plain_set_update_loop _]
    show wpAny _ A.in1 (pyNext (.ref I) >>= _) _ _ s
    refine wpAny_bind (W.item i s _ _ hlt hst fun v s' hP hst' hm => ?_)
    obtain ⟨k, hk, his, hsc⟩ := hval i v hP
    have hS' := keep hm hS
    show wpAny _ A.in1 (holding [v] (setAdd S v) >>= _) _ _ s'
    refine wpAny_bind (wpAny_holding ?_)
    unfold setAdd
    refine wpAny_holding ?_
    refine wpAny_bind ((mixKind P w).pyHash his ?_)
    have hle := metK_le (ks.take i)
    rw [List.length_take] at hle
    refine wpAny_setAddHashed_of (knd := mixKind P w) (s := { s' with toks := s'.toks + 1 }) his hsc hS' (by omega) fun h' hsb hS2 => ?_
    have et : ks.take (i + 1) = ks.take i ++ [k] := by rw [List.take_add_one, hk] <;> rfl
    have hSi : h'.SetOf (mixKind P w) S (fun k' => decide (k' ∈ metK (ks.take (i + 1)))) (metK (ks.take (i + 1))).length :=
      PyProof.Rows.SetOf_congr hS2 (fun k' => by rw [et, metK_snoc, stepK_mem]) (by rw [et, metK_snoc, stepK_len])
    refine wpAny_pure ⟨plainId_quiet PyProof.Rows.F.plain_set_update_loop _, ih (i + 1) _ (by omega) hlt (W.frame _ s' _ _ hst' (Nat.le_succ _) fun b hb o e => ?_) hSi fun s'' hm'' hS'' => ?_⟩
    · rw [hsb.2 b (fun h : b = S => hSf (by rw [← h]; exact hb))]; exact e
    · refine hR s'' (Moved.trans W.gtrans ((hm.mono hsub).then_heap (Nat.le_succ _) fun b o hb e => ?_) hm'') hS''
      rw [hsb.2 b (fun h : b = S => hb (by rw [h]; exact List.mem_cons_self))]; exact e
theorem Src.walks (hh : A.handled = none) (S : Src) (it : Addr) (hne : S.ad ≠ it) (items : Array Value) : Walks P w A it [it, S.ad] [it] items.size (fun i v => items[i]? = some v) (fun i h => S.It h it i ∧ S.Has h items) := by
  cases S with
  | l a => exact Walks.list hh it a hne items
  | t a => exact Walks.tuple hh it a hne items
theorem Src.startIt (S : Src) (h : Heap) : S.It (h.push S.ob) h.objs.size 0 := by
  cases S with
  | l a => exact ⟨_, Heap.get?_push_size _ rfl, rfl, rfl⟩
  | t a => exact ⟨_, Heap.get?_push_size _ rfl, rfl, rfl⟩
theorem Src.shape {S : Src} {h : Heap} {items : Array Value} (q : S.Has h items) : ∃ T dd n sl, h.get? S.ad = some { cls := .type T, dict := dd, data := .seq items n, slots := sl } ∧ (T = "list" ∨ T = "tuple") := by
  cases S with
  | l a => obtain ⟨⟨_, dd, _, sl⟩, ho, rfl, n, rfl⟩ := q; exact ⟨"list", dd, n, sl, ho, .inl rfl⟩
  | t a => obtain ⟨⟨_, dd, _, sl⟩, ho, rfl, n, rfl⟩ := q; exact ⟨"tuple", dd, n, sl, ho, .inr rfl⟩
theorem Src.kind {S : Src} {h : Heap} {items : Array Value} (q : S.Has h items) : ∃ o, h.get? S.ad = some o ∧ (o.cls = .type "list" ∨ o.cls = .type "tuple") := by
  cases S with
  | l a => obtain ⟨o, ho, hc, _⟩ := q; exact ⟨o, ho, .inl hc⟩
  | t a => obtain ⟨o, ho, hc, _⟩ := q; exact ⟨o, ho, .inr hc⟩
open PySem.F in
theorem call_set_src {S : Src} {items : Array Value} {ks : List Key} {Q : Value → Shared → Prop} (hh : A.handled = none) (hl : S.Has s.heap items) (hi : Vals (ks.map kV) items.toList) (hb : items.size + 1 < scanBound)
    (h : ∀ (h' : Heap) (tk : Nat), h'.SetOf (mixKind P w) s.heap.objs.size (fun k => decide (k ∈ metK ks)) (metK ks).length →
      (∀ b o, b < s.heap.objs.size → s.heap.get? b = some o → h'.get? b = some o) → Q (.ref s.heap.objs.size) { s with heap := h', toks := tk }) :
    wpAny (model P w) A (call (.type "set") [.ref S.ad]) Q E s := by
  obtain ⟨c, tl, hmro⟩ := called_set.mro
  have hmade := called_set.made
  have hsub := called_set.sub
  refine wpAny_call (codeAny_of_tree ?_)
  show wpAny _ _ (callAny (.type "set") _) _ _ _
  refine wpAny_pure ⟨Code.quiet_builtin _ (by decide +kernel), codeAny_builtin PySem.F.entry_type_call ?_⟩
  rw [Around.under_plain (weight_type_call_type "set" [.ref S.ad] []) rfl]
  have h1 := called_set.notType
  have h2 := called_set.canCreate
  have hct := typeCall_set_1 (.ref S.ad)
  repeat (any_goals (first | assumption | wp_step))
  let fresh : Bool → Obj := fun led => { cls := .type "set", dict := none, data := .set #[] 0 (.fresh 0 0 led) }
  refine codeAny_mono (code_set_new_1 (.ref S.ad) (E := E) (Q₁ := fun obj s₁ => ∃ led : Bool, obj = .ref s.heap.objs.size ∧ s₁ = { s with heap := s.heap.push (fresh led) }) fun led => ⟨led, rfl, rfl⟩) fun r s₁ hr => ?_
  match r, hr with
  | .error e, hr => exact hr
  | .ok (.ret obj), hr =>
    obtain ⟨led, rfl, rfl⟩ := hr
    have hS : (s.heap.push (fresh led)).get? s.heap.objs.size = some (fresh led) := Heap.get?_push_size _ rfl
    have hT : Shared.TypeIs { s with heap := s.heap.push (fresh led) } (.ref s.heap.objs.size) "set" := ⟨_, hS, rfl⟩
    have hli := called_set.init.lookup
    have hbi := called_set.init.bind (.ref s.heap.objs.size)
    repeat (any_goals (first | assumption | wp_step))
    refine codeAny_mono (codeAny_call_builtin (R := wants (fun r s₂ => r = .none ∧ ∃ h' tk, s₂ = { s with heap := h', toks := tk } ∧
        h'.SetOf (mixKind P w) s.heap.objs.size (fun k => decide (k ∈ metK ks)) (metK ks).length ∧ (∀ b o, b < s.heap.objs.size → s.heap.get? b = some o → h'.get? b = some o)) E) called_set.init.plain entry_set_init (check_set_init_1 hT ?_)) fun r₂ s₂ hr₂ => ?_
    · have hhas : S.Has (s.heap.push (fresh led)) items := (S.begins items).keeps _ _ hl fun b o e => Heap.get?_push_of_some _ e
      have hlt : S.ad < s.heap.objs.size := Src.lt hl
      have hh3 : A.in1.in1.in1.handled = none := by simp [hh]
      have hne : S.ad ≠ (s.heap.push (fresh led)).objs.size := by rw [Heap.size_push]; exact Nat.ne_of_lt (Nat.lt_succ_of_lt hlt)
      have hSf : s.heap.objs.size ∉ [(s.heap.push (fresh led)).objs.size, S.ad] := by
        rw [Heap.size_push]; simp only [List.mem_cons, List.mem_singleton, List.not_mem_nil, or_false, not_or]
        exact ⟨Nat.ne_of_lt (Nat.lt_succ_self _), Nat.ne_of_gt hlt⟩
      have hsz : ks.length = items.size := by have := hi.length; simpa using this
      have fin : codeAny (model P w) A.in1.in1 (.builtin "set.update.loop" ⟨[.ref s.heap.objs.size, .ref (s.heap.push (fresh led)).objs.size], []⟩) (fun r s₂ => r = .ok (.ret .none) ∧ ∃ h' tk, s₂ = { s with heap := h', toks := tk } ∧
        h'.SetOf (mixKind P w) s.heap.objs.size (fun k => decide (k ∈ metK ks)) (metK ks).length ∧ (∀ b o, b < s.heap.objs.size → s.heap.get? b = some o → h'.get? b = some o)) { s with heap := (s.heap.push (fresh led)).push S.ob } := by
        refine set_loopK ((S.walks hh3 _ hne items).toS) s.heap.objs.size hSf ks hsz hb (fun i v hv => ?_) (items.size - 0) 0 _ (by omega) (Nat.zero_le _) ⟨S.startIt _, (S.begins items).keeps _ _ hhas fun b o e => Heap.get?_push_of_some _ e⟩ ?_ fun s' hm hS' => ?_
        · have hlt : i < ks.length := by rw [hsz]; exact (Array.getElem?_eq_some_iff.mp hv).1
          obtain ⟨u, hu, ru⟩ := hi.get (i := i) (x := kV ks[i]) (by simp [hlt])
          rw [Array.getElem?_toList, hv] at hu
          cases hu
          exact ⟨ks[i], List.getElem?_eq_getElem hlt, kV_is ru, key_scan ru⟩
        · have hget : ((s.heap.push (fresh led)).push S.ob).get? s.heap.objs.size = some (fresh led) := Heap.get?_push_of_some _ hS
          exact PyProof.Rows.SetOf_congr ((PyProof.Rows.setObjOf_fresh (knd := mixKind P w) led).setOf hget (by unfold scanBound; omega)) (fun _ => rfl) rfl
        · obtain ⟨h', g', d', tk', os'⟩ := s'
          have eg : g' = s.gens := hm.gens
          have ed : d' = s.drawn := hm.drawn
          have eo : os' = s.os := hm.os
          subst eg; subst ed; subst eo
          refine ⟨rfl, h', tk', rfl, hS', fun b o hb e => ?_⟩
          have hb1 : b ≠ s.heap.objs.size := Nat.ne_of_lt hb
          have hb2 : b ≠ (s.heap.push (fresh led)).objs.size := by
            rw [Heap.size_push]; exact Nat.ne_of_lt (Nat.lt_succ_of_lt hb)
          exact hm.heap b o (by simp only [List.mem_cons, List.mem_singleton, List.not_mem_nil, or_false, not_or]; exact ⟨hb1, hb2⟩) (Heap.get?_push_of_some _ (Heap.get?_push_of_some _ e))
      obtain ⟨T, dd, n0, sl, hob, hTT⟩ := Src.shape hhas
      rcases hTT with rfl | rfl
      · have hsls := PySem.F.sub_list_set
        have hslf := PySem.F.sub_list_frozenset
        have hneT : (Value.type "list" == Value.type "dict") = false := by decide
        unfold Builtin.«set.__init__» noKeywords Builtin.Frozenset.updateFrom
        generalize hPI : pyIter = PI
        wp_walk
        subst hPI
        refine (S.begins items).iter P w _ _ _ _ hhas ?_
        refine wpAny_bind (wpAny_runValue ?_)
        refine codeAny_mono fin fun r s₂ hr => ?_
        obtain ⟨rfl, h', tk, rfl, hx, hk⟩ := hr
        show wpAny _ _ _ _ _ _
        refine wpAny_pure ?_
        show wpAny _ _ (ret Value.none) _ _ _
        exact wpAny_pure ⟨rfl, h', tk, rfl, hx, hk⟩
      · have hsls := PySem.F.sub_tuple_set
        have hslf := PySem.F.sub_tuple_frozenset
        have hneT : (Value.type "tuple" == Value.type "dict") = false := by decide
        unfold Builtin.«set.__init__» noKeywords Builtin.Frozenset.updateFrom
        generalize hPI : pyIter = PI
        wp_walk
        subst hPI
        refine (S.begins items).iter P w _ _ _ _ hhas ?_
        refine wpAny_bind (wpAny_runValue ?_)
        refine codeAny_mono fin fun r s₂ hr => ?_
        obtain ⟨rfl, h', tk, rfl, hx, hk⟩ := hr
        show wpAny _ _ _ _ _ _
        refine wpAny_pure ?_
        show wpAny _ _ (ret Value.none) _ _ _
        exact wpAny_pure ⟨rfl, h', tk, rfl, hx, hk⟩
    · match r₂, hr₂ with
      | .error e, hr₂ => exact hr₂
      | .ok (.ret r), hr₂ =>
        obtain ⟨rfl, h', tk, rfl, hS', hk'⟩ := hr₂
        repeat (any_goals (first | assumption | wp_step))
        exact h _ _ hS' hk'
end
end DL
/-! DL15: len(set(x)), sum(x), x.count(y) for lists and tuples. -/
namespace DL
open PySem L2 PyProof.Rows
def keyD : Key → D
  | .inl i => .int i
  | .inr z => .str z
section
variable {X : Cx} {G G' : Gx} {e a b c o : Expr} {ρ ρ' ρ0 ρ1 ρ2 ρ3 : DL.Env} {r s z s1 s2 : Slot} {d x y w : D} {ds es : List D} {K : PySem.W.Frag} {F F1 F' H H' : Hp} {σ : L2.St} {v u : V} {pos p p2 q2 apos cpos tpos : Pos} {k k1 k2 k3 : Bool} {n : Str} {xs : List Expr} {m i j kk : Nat} {P : Out → Prop} {elts : List Expr}
theorem Reps.keys : ∀ {ks : List Key} {vs : List V}, Reps K F (ks.map keyD) vs → vs = ks.map kV
  | [], vs, h => h.nil_of
  | k :: ks, vs, h => by
    obtain ⟨w, r, rfl, h2, h3⟩ := h.cons_of
    rw [h3.keys]
    cases k with
    | inl i => have e : w = V.int i := rep_int.mp h2; rw [e]; rfl
    | inr z => have e : w = V.str z := rep_str.mp h2; rw [e]; rfl
theorem ints_int : ∀ {us : List Value} {ns : List Int}, IntsAre us ns → ∀ (i : Nat) (v : Value), us[i]? = some v → ∃ t, v = .int (ns.getD i 0) t
  | us, ns, h, i, v, e => PyProof.Rows.IntsAre.int_at h i v e
theorem preSum_take (ns : List Int) : ∀ i, preSum (fun i => ns.getD i 0) i = (ns.take i).sum
  | 0 => by simp [preSum]
  | i + 1 => by
    rw [preSum, preSum_take ns i, List.take_add_one, List.sum_append, List.getD_eq_getElem?_getD]
    cases ns[i]? <;> simp
theorem sum_src {Pg : Program} {w : World} {A : Around} {E : Value → Shared → Prop} {s : Shared} {S : Src} {items : Array Value} {ns : List Int} {Q : Value → Shared → Prop} (hh : A.handled = none) (hl : S.Has s.heap items) (hi : IntsAre items.toList ns)
    (h : ∀ h' tk t', (∀ b o, s.heap.get? b = some o → h'.get? b = some o) → Q (.int ns.sum t') { s with heap := h', toks := tk }) : wpAny (model Pg w) A (call (.builtin "sum") [.ref S.ad]) Q E s := by
  refine call_sum_walkG ((S.begins items).iter Pg w _ E s _ hl ?_)
  have hlt : S.ad < s.heap.objs.size := Src.lt hl
  have hsz : ns.length = items.size := by rw [← IntsAre.length hi, Array.length_toList]
  have hhas : S.Has (s.heap.push S.ob) items := (S.begins items).keeps _ _ hl fun b o e => Heap.get?_push_of_some _ e
  refine ⟨_, _, _, _, _, _, fun i => ns.getD i 0, rfl, S.walks (A := A.in1) hh _ (Nat.ne_of_lt hlt) items, ⟨S.startIt _, hhas⟩, fun b hb => ?_, fun i v hv => ints_int hi i v (by rw [Array.getElem?_toList]; exact hv), fun h' tk t' hk => ?_⟩
  · show b < (s.heap.push S.ob).objs.size
    rw [Heap.size_push]
    rcases List.mem_cons.mp hb with e | hb
    · rw [e]; exact Nat.lt_succ_self _
    · rw [List.mem_singleton.mp hb]; exact Nat.lt_succ_of_lt hlt
  · have := h h' tk t' fun b o e => hk b o (fun hm => by rw [List.mem_singleton.mp hm] at e; exact Nat.lt_irrefl _ (Heap.lt_size e)) (Heap.get?_push_of_some _ e)
    rw [preSum_take, ← hsz, List.take_of_length_le (Nat.le_refl _)]
    exact this
def rSumE (K : PySem.W.Frag) : List V → Hp → VK → Prop := fun vs H Q => ∃ (S : Src) (ns : List Int), vs = [V.ref S.ad] ∧ S.Sq K H (ns.map V.int) ∧ Q (.int ns.sum) H
theorem cr_sumE (hc : X.calm = true) : CallR X (.builtin "sum") (rSumE X.K) := by
  intro pins s σ H vs us Q I r h
  obtain ⟨S, ns, rfl, hs, q⟩ := h
  obtain ⟨its, rv, hl⟩ := Src.inv I hs
  rw [Vals.ref1 r]
  exact sum_src (I.ok.hd hc) hl rv.ints fun h' tk t' hk => ⟨.int _, H, I.kept hk, ⟨_, rfl⟩, q⟩
/-- sum of a list or a tuple of ints -/
theorem ed_sumE {ns : List Int} (hc : X.calm = true) (hg : Gl X "sum") (hm : X.mg "sum" = none) (ha : ED X G a ρ ρ1 s) (hs : SeqS s ds) (hd : ds = ns.map D.int) (he : starEach [a] X.env = (false, eval a X.env) :: starEach [] X.env := by rfl) (hpl : (backTo pos (starEach [] X.env)).any (·.1) = false := by rfl) : ED X G (.Call (.Name "sum" p) [a] [] pos) ρ ρ1 (.val (.int ns.sum)) :=
  ed_call1B (cr_sumE hc) hg hm boot_sum ha (fun σ F H v Q E r1 q => by
    obtain ⟨k, S, vs, _, rfl, h3, h4⟩ := seq_src hs E r1
    rw [hd] at h3
    have h5 := h4 H E.sub E.keep
    rw [h3.ints] at h5
    exact ⟨S, ns, rfl, h5, q F H _ (Ext.refl _) E sr_int⟩) (by decide) (by decide) he hpl
/-! ### len(set(x)) -/
def tLenSetK (K : PySem.W.Frag) (ta : TE) : TE := fun σ H Q => ta σ H fun x H1 => ∃ (S : Src) (ks : List Key), x = .ref S.ad ∧ S.Sq K H1 (ks.map kV) ∧ ks.length + 1 < scanBound ∧ Q (.int (metK ks).length) H1
theorem pe_lenSetK {ta : TE} (hc : X.calm = true) (hg : Gl X "len") (hm : X.mg "len" = none) (hg2 : Gl X "set") (hm2 : X.mg "set" = none) (ha : PE X a ta)
    (na : starEach [a] X.env = (false, eval a X.env) :: starEach [] X.env := by rfl) : PE X (.Call (.Name "len" p) [.Call (.Name "set" p2) [a] [] q2] [] pos) (tLenSetK X.K ta) := by
  refine ⟨fun pins s σ H Q I h => ?_⟩
  refine Call_ (ld_blt I hg hm boot_len ?_)
  refine PyProof.Rows.callWith_builtin1 (PyProof.Rows.args_cons ?_ rfl) rfl rfl
  refine Call_ (ld_blt I hg2 hm2 boot_set ?_)
  refine PyProof.Rows.callWith_type1 (PyProof.Rows.args_cons (thn (ha.run pins s σ H _ I h) fun v s1 ⟨x, H1, I1, r1, q1⟩ => PyProof.Rows.args_nil ?_) na) na rfl
  obtain ⟨S, ks, rfl, hq, h1, q1⟩ := q1
  cases r1
  obtain ⟨its, rv, hl⟩ := Src.inv I1 hq
  have hsz : its.toArray.size = ks.length := by rw [List.size_toArray, ← rv.length, List.length_map]
  refine call_set_src (I1.ok.hd hc) hl rv (by omega) fun h' tk hS hk => PyProof.Rows.args_nil ?_
  obtain ⟨o, es, ep, t, ho, hex, hd, _, _, hb, hf, hn⟩ := hS
  have I2 : Inv X pins σ H1 { s1 with heap := h', toks := tk } := I1.kept fun b o e => hk b o (Heap.lt_size e) e
  have hle := metK_le ks
  have hsb : scanBound = 4096 := rfl
  exact call_len_set ho hex hd hf (by rw [hn]; omega) ⟨.int (metK ks).length, H1, I2.tok _, ⟨_, by rw [hn]⟩, q1⟩
theorem ed_lenSet {ks : List Key} (hc : X.calm = true) (hg : Gl X "len") (hm : X.mg "len" = none) (hg2 : Gl X "set") (hm2 : X.mg "set" = none) (ha : ED X G a ρ ρ1 s) (hs : SeqS s ds) (hd : ds = ks.map keyD) (hz : ks.length + 1 < scanBound)
    (na : starEach [a] X.env = (false, eval a X.env) :: starEach [] X.env := by rfl) : ED X G (.Call (.Name "len" p) [.Call (.Name "set" p2) [a] [] q2] [] pos) ρ ρ1 (.val (.int ((metK ks).length : Nat))) :=
  pe_mono (pe_lenSetK hc hg hm hg2 hm2 ha na) fun σ H Q ⟨F, E, q⟩ => ⟨F, E, fun F1 H1 v e1 E1 r1 => by
    obtain ⟨k, S, vs, _, rfl, h3, h4⟩ := seq_src hs E1 r1
    rw [hd] at h3
    have h5 := h4 H1 E1.sub E1.keep
    rw [h3.keys] at h5
    exact ⟨S, ks, rfl, h5, hz, q F1 H1 _ e1 E1 sr_int⟩⟩
end
/-! ### x.count(y) -/
section
variable {X : Cx} {G G' : Gx} {e a b c o : Expr} {ρ ρ' ρ0 ρ1 ρ2 ρ3 : DL.Env} {r s z s1 s2 : Slot} {d x y w : D} {ds es : List D} {K : PySem.W.Frag} {F F1 F' H H' : Hp} {σ : L2.St} {v u : V} {pos p p2 q2 apos cpos tpos : Pos} {k k1 k2 k3 : Bool} {n : Str} {xs : List Expr} {m i j kk : Nat} {P : Out → Prop} {elts : List Expr}
def rCntE (K : PySem.W.Frag) : V → List V → Hp → VK → Prop := fun x xs H Q => ∃ (S : Src) (ys : List V) (z : V), x = .ref S.ad ∧ xs = [z] ∧ S.Sq K H ys ∧ flatV z = true ∧ ys.all flatV = true ∧ Q (.int (ys.countP (fun y => eqV y z) : Nat)) H
theorem count_eqU {x : V} : ∀ {xs : List V} {us : List Value}, Vals xs us → xs.all flatV = true → us.countP (eqU x) = xs.countP fun y => eqV y x
  | _, _, .nil, _ => rfl
  | y :: xs, u :: us, .cons r t, f => by
    rw [List.all_cons, Bool.and_eq_true] at f
    rw [List.countP_cons, List.countP_cons, eqU_of r f.1, count_eqU t f.2]
theorem mt_lcountE : MtR X "list.count" (fun x xs H Q => (∃ a ys z, x = V.ref a ∧ xs = [z] ∧ SqL X.K H a ys ∧ flatV z = true ∧ ys.all flatV = true ∧ Q (.int (ys.countP (fun y => eqV y z) : Nat)) H)) := by
  intro pins s σ H x xs v us Q I rx rxs h
  obtain ⟨a, ys, z, rfl, rfl, hs, fz, fy, q⟩ := h
  cases rx
  obtain ⟨u, rfl, ru⟩ := rxs.one
  obtain ⟨its, rv, ⟨⟨cls, dd, data, sl⟩, n, ho, hc, hdn, hd⟩, hlen⟩ := I.list hs
  simp only at hc hd
  subst hc hd
  refine call_meets PySem.F.slot_list_count ⟨_, ho, rfl⟩ PySem.F.entry_list_count (PySem.F.args_list_count_2 _ _)
    (SeqAt.list_countAt a its.toArray n dd sl u (eqU z)) ⟨ho, fun w hw => mem_eqAt ru fz rv fy w (by simpa using hw), ?_⟩
  refine ⟨.int (ys.countP (fun y => eqV y z) : Nat), H, I.tok _, ⟨s.toks, ?_⟩, q⟩
  show Value.int ((its.toArray.toList.countP (eqU z) : Nat) : Int) s.toks = _
  rw [show its.toArray.toList = its by simp, count_eqU rv fy]
theorem mt_tcountE : MtR X "tuple.count" (fun x xs H Q => (∃ a ys z, x = V.ref a ∧ xs = [z] ∧ SqT X.K H a ys ∧ flatV z = true ∧ ys.all flatV = true ∧ Q (.int (ys.countP (fun y => eqV y z) : Nat)) H)) := by
  intro pins s σ H x xs v us Q I rx rxs h
  obtain ⟨a, ys, z, rfl, rfl, hs, fz, fy, q⟩ := h
  cases rx
  obtain ⟨u, rfl, ru⟩ := rxs.one
  obtain ⟨its, rv, ⟨⟨cls, dd, data, sl⟩, ho, hc, n, hd⟩, hlen⟩ := I.tuple hs
  simp only at hc hd
  subst hc hd
  refine call_meets PySem.F.slot_tuple_count ⟨_, ho, rfl⟩ PySem.F.entry_tuple_count (PySem.F.args_tuple_count_2 _ _)
    (SeqAt.tuple_countAt a its.toArray n dd sl u (eqU z)) ⟨ho, fun w hw => mem_eqAt ru fz rv fy w (by simpa using hw), ?_⟩
  refine ⟨.int (ys.countP (fun y => eqV y z) : Nat), H, I.tok _, ⟨s.toks, ?_⟩, q⟩
  show Value.int ((its.toArray.toList.countP (eqU z) : Nat) : Int) s.toks = _
  rw [show its.toArray.toList = its by simp, count_eqU rv fy]
/-- a method of a tuple of one's own -/
def tBMT (K : PySem.W.Frag) (r : V → List V → Hp → VK → Prop) (to : TE) (t : TA) : TE := fun σ H Q => to σ H fun x H1 => (∃ a xs, x = .ref a ∧ SqX K H1 a xs) ∧ t σ H1 fun xs H2 => r x xs H2 Q
theorem pe_bmT {name : Str} {id : String} {to : TE} {t : TA} {es : List Expr} {r : V → List V → Hp → VK → Prop} (slot : PySem.Slot "tuple" name id) (hty : typeOf (.builtin id) = pure (.type "method_descriptor")) (hm : MtR X id r) (ho : PE X o to) (ha : PA X (e :: es) t)
    (hbase : attributeBase o name X.env (eval o X.env) = eval o X.env := by rfl)
    (hfew : ((backTo cpos (starEach (e :: es) X.env)).all (fun x => !x.1) && (backToKw cpos (keywordEach [] X.env)).all (fun x => x.1.isSome)
      && decide ((e :: es).length + ([] : List Keyword).length + (if ([] : List Keyword).isEmpty then 0 else 1) < 30)) = true := by rfl)
    (hline : (apos.endLine == cpos.line) = true := by rfl) (hs : starEach (e :: es) X.env = (false, eval e X.env) :: starEach es X.env := by rfl) (hplain : (backTo cpos (starEach es X.env)).any (·.1) = false := by rfl) :
    PE X (.Call (.Attribute o name apos) (e :: es) [] cpos) (tBMT X.K r to t) := by
  refine ⟨fun pins s σ H Q I h => ?_⟩
  refine wpAny_Call_method_late hbase hfew hline rfl (thn (ho.run pins s σ H _ I h) fun v s1 ⟨x, H1, I1, r1, ty, q1⟩ => ?_)
  obtain ⟨a, xs, rfl, hq, hd⟩ := ty
  cases r1
  obtain ⟨its, rv, ⟨o1, ho1, hc1, n, hd1⟩, hlen⟩ := I1.tuple hq
  have hnd : ∀ b, Value.ref a = .ref b → ∃ ob, s1.heap.get? b = some ob ∧ ob.dict = none := fun b hb => by
    cases hb
    rcases hd with ⟨o2, u, g, d2⟩ | ⟨o2, g, d2⟩
    · exact ⟨o2, (I1.hok a _ g).1, d2⟩
    · exact ⟨o2, I1.kIn a o2 g, d2⟩
  refine ⟨"tuple", id, PySem.F.plainAttrs_tuple, slot, hty, ⟨o1, ho1, hc1⟩, hnd, ?_⟩
  have hA := ha.run cpos pins s1 σ H1 _ I1 q1
  rw [hs] at hA ⊢
  refine Calls.callWith_builtin (by show (false || (backTo cpos (starEach es X.env)).any (·.1)) = false; rw [hplain] <;> rfl) (Calls.evalArgs_plain ?_)
  exact thn hA fun us s2 ⟨vs, H2, I2, r2, q2⟩ => hm pins s2 σ H2 (.ref a) vs (.ref a) us Q I2 rfl r2 q2
theorem cntV_of (hx : flatD x = true) (t : Rep K F' x u) : ∀ {ds : List D} {vs : List V}, ds.all flatD = true → Reps K F ds vs → vs.all flatV = true ∧ vs.countP (fun y => eqV y u) = ds.countP (fun y => eqF y x)
  | [], vs, h, r => by rw [r.nil_of]; exact ⟨rfl, rfl⟩
  | d :: ds, vs, h, r => by
    obtain ⟨v, ws, rfl, h2, h3⟩ := r.cons_of
    simp only [List.all_cons, Bool.and_eq_true] at h
    obtain ⟨i1, i2⟩ := cntV_of hx t h.2 h3
    refine ⟨by simp only [List.all_cons, Bool.and_eq_true]; exact ⟨flat_of h.1 h2, i1⟩, ?_⟩
    rw [List.countP_cons, List.countP_cons, eqF_of h.1 hx h2 t, i2]
theorem ed_countL {l : List D} (ho : ED X G o ρ ρ1 (.v k (.lst l))) (he : ED X G e ρ1 ρ2 (.v k2 x)) (hx : flatD x = true) (hd : l.all flatD = true)
    (hbase : attributeBase o "count" X.env (eval o X.env) = eval o X.env := by rfl)
    (hst : starEach [e] X.env = (false, eval e X.env) :: starEach [] X.env := by rfl) (hpl : (backTo cpos (starEach [] X.env)).any (·.1) = false := by rfl) (hline : (apos.endLine == cpos.line) = true := by rfl)
    (hfew : ((backTo cpos (starEach [e] X.env)).all (fun x => !x.1) && (backToKw cpos (keywordEach [] X.env)).all (fun x => x.1.isSome) && decide ([e].length + ([] : List Keyword).length + (if ([] : List Keyword).isEmpty then 0 else 1) < 30)) = true := by rfl) :
    ED X G (.Call (.Attribute o "count" apos) [e] [] cpos) ρ ρ2 (.val (.int (l.countP (fun y => eqF y x) : Nat))) :=
  pe_mono (pe_bm PySem.F.plainAttrs_list PySem.F.slot_list_count PySem.F.type_list_count mt_lcountE ho (ea_one he hst) hbase hfew hline hst hpl) fun σ H Q ⟨F, E, q⟩ => ⟨F, E, fun F1 H1 v e1 E1 r1 => by
    obtain ⟨a, vs, rfl, h2, h3⟩ := Rep.lstH E1.atH (RK.at r1)
    refine ⟨.inl ⟨rfl, vs, sql_rd h2⟩, F1, E1, fun F2 H2 w e2 E2 r2 => ?_⟩
    obtain ⟨a', vs', h1', h2', h3'⟩ := Rep.lstH E2.atH (RK.at (RK.mono e2 r1))
    cases h1'
    obtain ⟨i1, i2⟩ := cntV_of hx (RK.at r2) hd h3'
    exact ⟨a, vs', w, rfl, rfl, sql_rd h2', flat_of hx (RK.at r2), i1, by rw [i2]; exact q F2 H2 _ (e1.trans e2) E2 sr_int⟩⟩
theorem ed_countT {l : List D} (ho : ED X G o ρ ρ1 (.v k (.tup l))) (he : ED X G e ρ1 ρ2 (.v k2 x)) (hx : flatD x = true) (hd : l.all flatD = true)
    (hbase : attributeBase o "count" X.env (eval o X.env) = eval o X.env := by rfl)
    (hst : starEach [e] X.env = (false, eval e X.env) :: starEach [] X.env := by rfl) (hpl : (backTo cpos (starEach [] X.env)).any (·.1) = false := by rfl) (hline : (apos.endLine == cpos.line) = true := by rfl)
    (hfew : ((backTo cpos (starEach [e] X.env)).all (fun x => !x.1) && (backToKw cpos (keywordEach [] X.env)).all (fun x => x.1.isSome) && decide ([e].length + ([] : List Keyword).length + (if ([] : List Keyword).isEmpty then 0 else 1) < 30)) = true := by rfl) :
    ED X G (.Call (.Attribute o "count" apos) [e] [] cpos) ρ ρ2 (.val (.int (l.countP (fun y => eqF y x) : Nat))) :=
  pe_mono (pe_bmT PySem.F.slot_tuple_count PySem.F.type_tuple_count mt_tcountE ho (ea_one he hst) hbase hfew hline hst hpl) fun σ H Q ⟨F, E, q⟩ => ⟨F, E, fun F1 H1 v e1 E1 r1 => by
    obtain ⟨a, vs, rfl, h2, h3⟩ : ∃ a vs, v = V.ref a ∧ SqX X.K F1 a vs ∧ Reps X.K F1 l vs := RK.tup r1
    refine ⟨⟨a, vs, rfl, Ext.sqX E1.sub h2⟩, F1, E1, fun F2 H2 w e2 E2 r2 => ?_⟩
    obtain ⟨i1, i2⟩ := cntV_of hx (RK.at r2) hd h3
    exact ⟨a, vs, w, rfl, rfl, (Ext.sqX E2.sub (Ext.sqX e2 h2)).1, flat_of hx (RK.at r2), i1, by rw [i2]; exact q F2 H2 _ (e1.trans e2) E2 sr_int⟩⟩
end
end DL
/-! DL16: star displays; comprehensions of two clauses whose turns leave the frame as it is. -/
namespace DL
open PySem L2 PyProof.Rows
section
variable {X : Cx} {G G' : Gx} {e a b c o : Expr} {ρ ρ' ρ0 ρ1 ρ2 ρ3 : DL.Env} {r s z s1 s2 : Slot} {d x y w : D} {ds es : List D} {K : PySem.W.Frag} {F F1 F' H H' Hb H0 : Hp} {σ : L2.St} {v u : V} {pos p p2 q2 apos cpos tpos : Pos} {k k1 k2 k3 : Bool} {n : Str} {xs : List Expr} {m i j kk : Nat} {P : Out → Prop} {elts : List Expr}
/-- *a, ... -/
theorem ea_star {l l2 : List D} (ha : ED X G a ρ ρ1 (.v k d)) (hs : SeqS (.v k d) l) (hr : EA X G xs ρ1 ρ2 l2) (hst : starEach (.Starred a p :: xs) X.env = (true, eval a X.env) :: starEach xs X.env := by rfl) : EA X G (.Starred a p :: xs) ρ ρ2 (l ++ l2) :=
  pa_mono (StX.pa_star ha hr hst) fun σ H Q ⟨F, E, q⟩ => ⟨F, E, fun F1 H1 v e1 E1 r1 => by
    obtain ⟨k', S, vs, _, rfl, h3, h4⟩ := seq_src hs E1 r1
    have h5 := h4 H1 E1.sub E1.keep
    have h6 : Reps X.K F1 l vs := h3
    refine ⟨S.ad, vs, rfl, ?_, F1, E1, fun F2 H2 ys e2 E2 r2 => q F2 H2 _ (e1.trans e2) E2 ((Reps.mono e2 _ _ h6).append r2)⟩
    cases S with
    | l a => exact .inr h5
    | t a => exact .inl h5⟩
/-! ### frames that own nothing -/
def pG (F H : Hp) : Gx := ⟨F, H, [], []⟩
theorem pG_hv : (pG F H).Hv = H := by
  funext b
  unfold Gx.Hv
  rw [if_neg]
  · rfl
  · rintro ⟨i, h, _⟩; cases h
theorem pG_ms : (pG F H).ms[i]? ≠ some true := fun h => by cases h
def noOwn (ρ : DL.Env) : DL.Env := ρ.map fun o => match o with | some (.own _) => none | o => o
theorem noOwn_v (h : (noOwn ρ)[i]? = some (some (.v k d))) : ρ[i]? = some (some (.v k d)) := by
  unfold noOwn at h
  rw [List.getElem?_map] at h
  cases q : ρ[i]? with
  | none => rw [q] at h; cases h
  | some o =>
    rw [q] at h
    match o, h with
    | some (.v _ _), h => exact h
    | none, h => exact h
theorem noOwn_own {l : List D} : (noOwn ρ)[i]? ≠ some (some (.own l)) := fun h => by
  unfold noOwn at h
  rw [List.getElem?_map] at h
  cases q : ρ[i]? with
  | none => rw [q] at h; cases h
  | some o =>
    rw [q] at h
    match o, h with
    | some (.v _ _), h => cases h
    | none, h => cases h
theorem noOwn_len : (noOwn ρ).length = ρ.length := List.length_map ..
structure SlOk (K : PySem.W.Frag) (F Hb : Hp) (σ : L2.St) (ρ : DL.Env) : Prop where
  val : ∀ (i : Nat) k d, ρ[i]? = some (some (.v k d)) → ∃ v, σ[i]? = some (some v) ∧ RK K (pG F Hb) F k d v
  own : ∀ (i : Nat) l, ρ[i]? ≠ some (some (.own l))
  len : σ.length = ρ.length
theorem ER.slots (E : ER K G F H σ ρ) : SlOk K F G.Hv σ (noOwn ρ) where
  val := fun i k d h => by
    obtain ⟨v, h1, h2⟩ := E.val i k d (noOwn_v h)
    exact ⟨v, h1, h2.weak (by rw [pG_hv]; exact Ext.refl _)⟩
  own := fun i l => noOwn_own
  len := by rw [noOwn_len]; exact E.len
theorem SlOk.mono (S : SlOk K F Hb σ ρ) (e : Ext F F') : SlOk K F' Hb σ ρ where
  val := fun i k d h => by
    obtain ⟨v, h1, h2⟩ := S.val i k d h
    exact ⟨v, h1, (h2.mono e).weak (by rw [pG_hv, pG_hv]; exact Ext.refl _)⟩
  own := S.own
  len := S.len
theorem SlOk.er (S : SlOk K F Hb σ ρ) (e1 : Ext F H) (e2 : Ext Hb H0) (e3 : Ext H0 H) : ER K (pG F H0) F H σ ρ where
  ext := Ext.refl _
  sub := e1
  new := fun b o h => .inl h
  keep := by rw [pG_hv]; exact e3
  there := fun b o h => ⟨o, e3 b o h⟩
  arg := fun i h => absurd h pG_ms
  val := fun i k d h => by
    obtain ⟨v, h1, h2⟩ := S.val i k d h
    exact ⟨v, h1, h2.weak (by rw [pG_hv, pG_hv]; exact e2)⟩
  own := fun i l h => absurd h (S.own i l)
  inj := fun i j a ds es _ h => absurd h (S.own i ds)
  len := S.len
/-- back to a frame, but for one list D that nobody holds -/
theorem ER.still {D : Addr} (E : ER K G F H σ ρ) (h0 : G.H0 D = none) (ho : ∀ (i : Nat) (es : List DL.D), ρ[i]? = some (some (Slot.own es)) → σ[i]? ≠ some (some (V.ref D))) (e : Ext F F') (sub : Ext F' H') (hD : F' D = none)
    (keep : ∀ b o, b ≠ D → H b = some o → H' b = some o) (new : ∀ b o, F' b = some o → F b = some o ∨ H b = none) (hT : ∃ u, H' D = some u) : ER K G F' H' σ ρ where
  ext := E.ext.trans e
  sub := sub
  new := fun b o h => by
    rcases new b o h with h | h
    · exact E.new b o h
    · exact .inr (E.h0 h)
  keep := fun b o h => keep b o (fun q => by subst q; rw [Gx.hv_h0 h] at h0; cases h0) (E.keep b o h)
  there := fun b o h => by
    by_cases q : b = D
    · subst q; exact hT
    · obtain ⟨u, hu⟩ := E.there b o h
      exact ⟨u, keep b u q hu⟩
  arg := E.arg
  val := fun i k d h => by
    obtain ⟨v, h1, h2⟩ := E.val i k d h
    exact ⟨v, h1, h2.mono e⟩
  own := fun i es h => by
    obtain ⟨a, vs, h1, h2, h3, h4, h5⟩ := E.own i es h
    have na : a ≠ D := fun q => ho i es h (by rw [h1, q])
    refine ⟨a, vs, h1, keep a _ na h2, ?_, h4, Reps.mono e _ _ h5⟩
    cases q : F' a with
    | none => rfl
    | some o =>
      rcases new a o q with q | q
      · rw [h3] at q; cases q
      · rw [h2] at q; cases q
  inj := E.inj
  len := E.len
/-! ### walks that lean on nothing but what is fixed -/
def WkF (K : PySem.W.Frag) (F : Hp) (J : It) (m : Nat) (it : Nat → Yld) : Prop :=
  ∃ Gd Y, Walk J m Gd Y ∧ (∀ H, Ext F H → Gd H) ∧ ∀ t H x H', t < m → Ext F H → Y t H x H' → YRep K (pG F (fun _ => none)) F (it t) x H H'
def tWF (K : PySem.W.Frag) (G : Gx) (ρ ρ1 : DL.Env) (m : Nat) (it : Nat → Yld) : TI := fun σ H R => ∃ F, ER K G F H σ ρ ∧ ∀ F' H' J, Ext F F' → ER K G F' H' σ ρ1 → WkF K F' J m it → R J H'
abbrev WF (X : Cx) (G : Gx) (tg iter : Expr) (ρ ρ1 : DL.Env) (m : Nat) (it : Nat → Yld) : Prop := PI X tg iter (tWF X.K G ρ ρ1 m it)
theorem wf_list {tg : Expr} (h : ED X G e ρ ρ1 (.val (.lst ds))) {dx : D} : WF X G tg e ρ ρ1 ds.length (fun t => .one (.val (ds.getD t dx))) :=
  pi_mono (pi_list h) fun σ H R ⟨F, E, q⟩ => ⟨F, E, fun F1 H1 v e1 E1 r1 => by
    obtain ⟨a, vs, rfl, hl, hr⟩ : ∃ a vs, v = V.ref a ∧ Rd F1 a (.lst vs) ∧ Reps X.K F1 ds vs := rep_lst.mp r1
    refine ⟨a, rfl, ⟨vs, sql_rd (E1.sub.rd hl)⟩, q F1 H1 _ e1 E1 ⟨_, _, by rw [← hr.length]; exact walk_list (K := X.K) (a := a) (xs := vs), fun H e2 => sql_rd (e2.rd hl), fun t H x H' ht _ y => ?_⟩⟩
    obtain ⟨d, h1, h2⟩ := hr.get y.2
    have : ds.getD t dx = d := by rw [List.getD_eq_getElem?_getD, h1]; rfl
    show YRep X.K _ F1 (.one (.val (ds.getD t dx))) x H H'
    rw [this]
    exact ⟨y.1, h2⟩⟩
theorem wf_tup {tg : Expr} (h : ED X G e ρ ρ1 (.val (.tup ds))) {dx : D} : WF X G tg e ρ ρ1 ds.length (fun t => .one (.val (ds.getD t dx))) :=
  pi_mono (pi_tup h) fun σ H R ⟨F, E, q⟩ => ⟨F, E, fun F1 H1 v e1 E1 r1 => by
    obtain ⟨a, vs, rfl, ⟨hl, _⟩, hr⟩ : ∃ a vs, v = V.ref a ∧ SqX X.K F1 a vs ∧ Reps X.K F1 ds vs := rep_tup.mp r1
    refine ⟨a, rfl, ⟨vs, E1.sub.sqT hl⟩, q F1 H1 _ e1 E1 ⟨_, _, by rw [← hr.length]; exact walk_tup (K := X.K) (a := a) (xs := vs), fun H e2 => Ext.sqT e2 hl, fun t H x H' ht _ y => ?_⟩⟩
    obtain ⟨d, h1, h2⟩ := hr.get y.2
    have : ds.getD t dx = d := by rw [List.getD_eq_getElem?_getD, h1]; rfl
    show YRep X.K _ F1 (.one (.val (ds.getD t dx))) x H H'
    rw [this]
    exact ⟨y.1, h2⟩⟩
theorem wf_range {tg : Expr} {h : Int} {p3 p4 : Pos} (hg : Gl X "range") (hm : X.mg "range" = none) (ha : ED X G a ρ ρ1 (.v k (.int h))) (hz : -(2 ^ 62) ≤ h ∧ h < 2 ^ 62) (hs : starEach [a] X.env = [(false, eval a X.env)] := by rfl) :
    WF X G tg (.Call (.Name "range" p3) [a] [] p4) ρ ρ1 h.toNat (fun t => .one (.val (.int (t : Int)))) :=
  pi_mono (pi_range1 hg hm (ea_one ha hs) hs) fun σ H R ⟨F, E, q⟩ => ⟨F, E, fun F1 H1 v e1 E1 r1 => by
    have := of_int r1
    subst this
    refine ⟨h, rfl, hz.1, hz.2, q F1 H1 _ e1 E1 ⟨_, _, walk_range, fun _ _ => trivial, fun t H x H' ht _ y => ⟨y.1, ?_⟩⟩⟩
    rw [rk_int, y.2]
    show V.int ((0 : Int) + (t : Int)) = _
    rw [Int.zero_add]⟩
theorem wf_str {tg : Expr} {z : Str} (h : ED X G e ρ ρ1 (.v k (.str z))) : WF X G tg e ρ ρ1 z.cps.size (fun t => .one (.val (.str ⟨#[z.cps.getD t 0]⟩))) :=
  pi_mono (pi_str h) fun σ H R ⟨F, E, q⟩ => ⟨F, E, fun F1 H1 v e1 E1 r1 => by
    have := of_str r1
    subst this
    refine ⟨z, rfl, q F1 H1 _ e1 E1 ⟨_, _, walk_str, fun _ _ => trivial, fun t H x H' ht _ y => ?_⟩⟩
    obtain ⟨y1, c, y2, y3⟩ := y
    refine ⟨y1, ?_⟩
    rw [rk_str, y3]
    have : z.cps.getD t 0 = c := by rw [Array.getD_eq_getD_getElem?, y2]; rfl
    rw [this]⟩
/-- a walk's turns, by an invariant -/
theorem walk_it {J : It} {n : Nat} {Gd : Hp → Prop} {Y : Nat → Hp → V → Hp → Prop} (w : Walk J n Gd Y) {step : (Hp → Prop) → V → Hp → Prop} {Fin : Hp → Prop} {H0 : Hp} (Pv : Nat → Hp → Prop) (h0 : Pv 0 H0) (hG : ∀ i H, i ≤ n → Pv i H → Gd H)
    (hs : ∀ i x H H', i < n → Pv i H → Y i H x H' → step (Pv (i + 1)) x H') (hd : ∀ H, Pv n H → Fin H) :
    ∃ W : Nat → Nat → Hp → Prop, (∃ m, W 0 m H0) ∧ ∀ i m H, W i m H → (J.stop i H ∧ Fin H) ∨ (J.go i H ∧ ∃ Nx : Hp → Prop, (∀ H', Nx H' → ∃ m', m' < m ∧ W (i + 1) m' H') ∧ ∀ x H', J.yld i H x H' → step Nx x H') := by
  refine ⟨fun i m H => m = n - i ∧ i ≤ n ∧ Pv i H, ⟨n, by simp, Nat.zero_le _, h0⟩, ?_⟩
  rintro i m H ⟨rfl, hi, p⟩
  have q := hG i H hi p
  by_cases hlt : i < n
  · exact .inr ⟨w.goes i H hlt q, Pv (i + 1), fun H' p' => ⟨n - (i + 1), by omega, rfl, hlt, p'⟩, fun x H' y => hs i x H H' hlt p (w.yields i H x H' hlt q y)⟩
  · have e : i = n := by omega
    subst e
    exact .inl ⟨w.stops H q, hd H p⟩
end
end DL
/-! DL17: the rule for list comprehensions of two clauses. -/
namespace DL
open PySem L2 PyProof.Rows
section
variable {X : Cx} {G G' : Gx} {e a b c o : Expr} {ρ ρ' ρ0 ρ1 ρ2 ρ3 : DL.Env} {r s z s1 s2 : Slot} {d x y w : D} {ds es : List D} {K : PySem.W.Frag} {F F1 F' H H' Hb H0 : Hp} {σ : L2.St} {v u : V} {pos p p2 q2 apos cpos tpos : Pos} {k k1 k2 k3 : Bool} {n : Str} {xs : List Expr} {m i j kk : Nat} {P : Out → Prop} {elts : List Expr}
/-- a turn's tests: none, or one; the frame stays -/
def IfP (X : Cx) (scope : Scope) : List Expr → DL.Env → Bool → Prop
  | [], _, b => b = true
  | [c], ρi, b => ∀ (s : Shared) (H : Hp) (C : Addr) (cl : List (Str × Addr)) (fp : List Addr) (F1 H1 : Hp), ET (X.blk s H scope (compEnvC scope cl C X.env) fp) (pG F1 H1) c ρi ρi b
  | _, _, _ => False
abbrev ElP (X : Cx) (scope : Scope) (elt : Expr) (ρi : DL.Env) (x : D) : Prop := ∀ (s : Shared) (H : Hp) (C : Addr) (cl : List (Str × Addr)) (fp : List Addr) (F1 H1 : Hp), ED (X.blk s H scope (compEnvC scope cl C X.env) fp) (pG F1 H1) elt ρi ρi (.val x)
abbrev WFP (X : Cx) (scope : Scope) (tg iter : Expr) (ρi : DL.Env) (m : Nat) (it : Nat → Yld) : Prop := ∀ (s : Shared) (H : Hp) (C : Addr) (cl : List (Str × Addr)) (fp : List Addr) (F1 H1 : Hp), WF (X.blk s H scope (compEnvC scope cl C X.env) fp) (pG F1 H1) tg iter ρi ρi m it
structure Tp where
  F1 : Hp
  H1 : Hp
  ρi : DL.Env
  b : Bool
structure Te where
  F1 : Hp
  H1 : Hp
  ρi : DL.Env
  x : D
structure Tw where
  F1 : Hp
  H1 : Hp
  ρi : DL.Env
  m : Nat
  it : Nat → Yld
def tIfP (K : PySem.W.Frag) (p : DL.Env → Bool → Prop) : TT := fun σ H Q => ∃ q : Tp, p q.ρi q.b ∧ tDT K (pG q.F1 q.H1) q.ρi q.ρi q.b σ H Q
def tElP (K : PySem.W.Frag) (p : DL.Env → D → Prop) : TE := fun σ H Q => ∃ q : Te, p q.ρi q.x ∧ tD K (pG q.F1 q.H1) q.ρi q.ρi (.val q.x) σ H Q
def tWP (K : PySem.W.Frag) (p : DL.Env → Nat → (Nat → Yld) → Prop) : TI := fun σ H R => ∃ q : Tw, p q.ρi q.m q.it ∧ tWF K (pG q.F1 q.H1) q.ρi q.ρi q.m q.it σ H R
theorem pi_any {tg iter : Expr} {ι : Type} {p : ι → Prop} {t : ι → TI} (h : ∀ i, p i → PI X tg iter (t i)) : PI X tg iter (fun σ H R => ∃ i, p i ∧ t i σ H R) :=
  ⟨fun pins s σ H R I ⟨i, hp, q⟩ => (h i hp).run pins s σ H R I q⟩
theorem pts_mono {ifs : List Expr} {t t' : TT} (h : PTs X ifs t) (i : ∀ σ H Q, t' σ H Q → t σ H Q) : PTs X ifs t' := ⟨fun pins s σ H Q I q => h.run pins s σ H Q I (i σ H Q q)⟩
theorem pts_if (scope : Scope) : ∀ (ifs : List Expr) (s : Shared) (H : Hp) (C : Addr) (cl : List (Str × Addr)) (fp : List Addr), PTs (X.blk s H scope (compEnvC scope cl C X.env) fp) ifs (tIfP X.K (IfP X scope ifs))
  | [], s, H, C, cl, fp => pts_mono pts_nil fun σ H Q ⟨q, hp, F, E, k⟩ => by
    have hb : q.b = true := hp
    have := k F H (Ext.refl _) E
    rw [hb] at this; exact this
  | [c], s, H, C, cl, fp => pts_one (pt_any (p := fun q : Tp => IfP X scope [c] q.ρi q.b) fun q hq => hq s H C cl fp q.F1 q.H1)
  | c :: d :: r, s, H, C, cl, fp => ⟨fun pins s σ H Q I ⟨q, hp, _⟩ => hp.elim⟩
/-! ### what comes out -/
def preL (f : Nat → List D) (t : Nat) : List D := (List.range t).flatMap f
def inL (x : Nat → D) (b : Nat → Bool) (j : Nat) : List D := ((List.range j).filter b).map x
theorem preL_succ {f : Nat → List D} {t : Nat} : preL f (t + 1) = preL f t ++ f t := by
  unfold preL; rw [List.range_succ, List.flatMap_append]; simp
theorem inL_succ {x : Nat → D} {b : Nat → Bool} {j : Nat} : inL x b (j + 1) = if b j = true then inL x b j ++ [x j] else inL x b j := by
  unfold inL
  rw [List.range_succ, List.filter_append, List.map_append]
  by_cases h : b j = true
  · simp [h]
  · simp [h]
theorem preL_le {f : Nat → List D} {t : Nat} : ∀ k, (preL f t).length ≤ (preL f (t + k)).length
  | 0 => Nat.le_refl _
  | k + 1 => by
    rw [← Nat.add_assoc, preL_succ, List.length_append]
    have := preL_le (f := f) (t := t) k
    omega
theorem inL_le {x : Nat → D} {b : Nat → Bool} {j : Nat} : ∀ k, (inL x b j).length ≤ (inL x b (j + k)).length
  | 0 => Nat.le_refl _
  | k + 1 => by
    rw [← Nat.add_assoc, inL_succ]
    have := inL_le (x := x) (b := b) (j := j) k
    split
    · rw [List.length_append]; omega
    · exact this
/-- [elt for tg in iter if .. for tg1 in iter1 if ..], no turn changes the frame -/
theorem cd_lc2 {elt tg iter tg1 iter1 : Expr} {ifs ifs1 : List Expr} {scope : Scope} {own : List (Str × Nat)} {g g1 : TG} {ix ix1 vs vs1 : List Nat} {it : Nat → Yld} {ft : Nat → DL.Env → DL.Env} {m1 : Nat → Nat} {it1 : Nat → Nat → Yld} {ft1 : Nat → Nat → DL.Env → DL.Env} {ρt : Nat → DL.Env} {bt : Nat → Bool} {b1 : Nat → Nat → Bool} {xe : Nat → Nat → D} {acc : List D}
    (ok : BlkOk X.N X.env.scope scope own) (hvs : own.map (·.2) = vs) (hv1 : ∀ i ∈ vs1, i ∈ vs) (hc : X.calm = true) (hN : X.N.Nodup)
    (hw : WD X G tg iter ρ ρ1 m it) (hg : ∀ (s : Shared) (H : Hp) (C : Addr) (cl : List (Str × Addr)) (fp : List Addr), PG (X.blk s H scope (compEnvC scope cl C X.env) fp) tg g) (hy : ∀ t, t < m → TgR X.K G g ix (it t) (ft t)) (hix : ∀ i ∈ ix, i ∈ vs) (hm : ∀ i ∈ vs, G.ms[i]? ≠ some true)
    (hρt : ∀ t, t < m → noOwn (ft t (wipeE ρ1 vs)) = ρt t) (hbt : ∀ t, t < m → IfP X scope ifs (ρt t) (bt t))
    (hi1 : ∀ t, t < m → bt t = true → WFP X scope tg1 iter1 (ρt t) (m1 t) (it1 t)) (hg1 : ∀ (s : Shared) (H : Hp) (C : Addr) (cl : List (Str × Addr)) (fp : List Addr), PG (X.blk s H scope (compEnvC scope cl C X.env) fp) tg1 g1)
    (hy1 : ∀ t j F1 H1, t < m → j < m1 t → TgR X.K (pG F1 H1) g1 ix1 (it1 t j) (ft1 t j)) (hix1 : ∀ i ∈ ix1, i ∈ vs1)
    (hb1 : ∀ t j, t < m → bt t = true → j < m1 t → IfP X scope ifs1 (ft1 t j (wipeE (ρt t) vs1)) (b1 t j))
    (hel : ∀ t j, t < m → bt t = true → j < m1 t → b1 t j = true → ElP X scope elt (ft1 t j (wipeE (ρt t) vs1)) (xe t j))
    (hacc : preL (fun t => if bt t = true then inL (xe t) (b1 t) (m1 t) else []) m = acc) (hz : acc.length ≤ sizeLine)
    (hs : ∀ x, foldedSetIterable iter X.env x = pure x := by intro _; rfl) (hs1 : ∀ env x, foldedSetIterable iter1 env x = pure x := by intro _ _; rfl) : CD X G (.ListComp elt [⟨tg, iter, ifs, 0⟩, ⟨tg1, iter1, ifs1, 0⟩] scope pos) ρ ρ1 acc := by
  subst hvs
  subst hacc
  have he : ∀ (s : Shared) (H : Hp) (C : Addr) (cl : List (Str × Addr)) (fp : List Addr), PE (X.blk s H scope (compEnvC scope cl C X.env) fp) elt (tElP X.K (ElP X scope elt)) := fun s H C cl fp => pe_any (p := fun q : Te => ElP X scope elt q.ρi q.x) fun q hq => hq s H C cl fp q.F1 q.H1
  have hpi : ∀ (s : Shared) (H : Hp) (C : Addr) (cl : List (Str × Addr)) (fp : List Addr), PI (X.blk s H scope (compEnvC scope cl C X.env) fp) tg1 iter1 (tWP X.K (WFP X scope tg1 iter1)) := fun s H C cl fp => pi_any (p := fun q : Tw => WFP X scope tg1 iter1 q.ρi q.m q.it) fun q hq => hq s H C cl fp q.F1 q.H1
  refine CD.by (pe_lc2 (vs1 := vs1) hc hN hw ok hv1 hg (pts_if scope ifs) hpi hg1 (pts_if scope ifs1) he hs hs1) (fun a b c => ps_setLc2 (vs1 := vs1) hc hN a b c hw ok hv1 hg (pts_if scope ifs) hpi hg1 (pts_if scope ifs1) he hs hs1) fun σ H Q ⟨F, E, q⟩ => ⟨F, E, fun F1 H1 Jt e1 E1 wk => ?_⟩
  obtain ⟨Gd, Y, W, hG, hY⟩ := wk
  intro Dl hD
  let out : Nat → List DL.D := fun t => if bt t = true then inL (xe t) (b1 t) (m1 t) else []
  refine walk_it W (fun t H' => ∃ F' avs, Ext F1 F' ∧ ER X.K G F' H' σ ρ1 ∧ H' Dl = some (.lst avs) ∧ Reps X.K F' (preL out t) avs ∧ F' Dl = none ∧ G.H0 Dl = none ∧ ∀ (i : Nat) (es : List DL.D), ρ1[i]? = some (some (Slot.own es)) → σ[i]? ≠ some (some (V.ref Dl)))
    ⟨F1, [], Ext.refl _, E1.lay0 hD, upd_same, .nil, E1.sub.free hD, E1.h0 hD, fun i es hi hs => ?_⟩ ?_ ?_ ?_
  · obtain ⟨a, ws, g1, g2, _⟩ := E1.own i es hi
    rw [g1] at hs; cases hs
    rw [g2] at hD; cases hD
  · rintro t H' _ ⟨F', avs, e2, E2, _⟩
    exact hG H' (e2.trans E2.sub) E2.keep
  · rintro t x H' H2 ht ⟨F', avs, e2, E2, l1, l2, l3, l4, l5⟩ y
    have yr := hY t H' x H2 ht (e2.trans E2.sub) E2.keep y
    have e5 : Ext H' H2 := by
      revert yr
      cases it t with
      | one s =>
        cases s with
        | v k d => rintro ⟨rfl, _⟩; exact Ext.refl _
        | own _ => intro h; exact h.elim
      | two => rintro ⟨T, x1, x2, _, hT, rfl, _⟩; exact Ext.lay hT
    refine hy t ht F1 F' H' H2 _ (wipeE ρ1 (own.map (·.2))) x _ e2 (E2.wiped hm) yr fun H3 ws e3 E3 => ⟨wipe_setAll hix, ?_⟩
    have S3 : SlOk X.K F' G.Hv (setAll (wipe σ (own.map (·.2))) ix ws) (ρt t) := by have := E3.slots; rwa [hρt t ht] at this
    have e35 : Ext H' H3 := e5.trans e3
    have l13 : H3 Dl = some (.lst avs) := e35 _ _ l1
    -- the end of a turn
    have fin : ∀ F6 H6 avs6, Ext F' F6 → Ext F6 H6 → (∀ b o, b ≠ Dl → H3 b = some o → H6 b = some o) → (∀ b o, F6 b = some o → F' b = some o ∨ H3 b = none) → F6 Dl = none → H6 Dl = some (.lst avs6) → Reps X.K F6 (preL out (t + 1)) avs6 →
        ∃ F' avs, Ext F1 F' ∧ ER X.K G F' H6 σ ρ1 ∧ H6 Dl = some (.lst avs) ∧ Reps X.K F' (preL out (t + 1)) avs ∧ F' Dl = none ∧ G.H0 Dl = none ∧ ∀ (i : Nat) (es : List DL.D), ρ1[i]? = some (some (Slot.own es)) → σ[i]? ≠ some (some (V.ref Dl)) := fun F6 H6 avs6 e6 s6 k6 n6 d6 v6 r6 =>
      ⟨F6, avs6, e2.trans e6, E2.still l4 l5 e6 s6 d6 (fun b o hb h => k6 b o hb (e35 b o h)) (fun b o h => (n6 b o h).imp id fun h => by
        cases q : H' b with
        | none => rfl
        | some o' => rw [e35 b o' q] at h; cases h) ⟨_, v6⟩, v6, r6, d6, l4, l5⟩
    have step : (setAll (wipe σ (own.map (·.2))) ix ws) = (setAll (wipe σ (own.map (·.2))) ix ws) := rfl
    refine ⟨⟨F', H3, ρt t, bt t⟩, hbt t ht, F', S3.er E3.sub E3.keep (Ext.refl _), fun F4 H4 e4 E4 => ?_⟩
    have k4 : Ext H3 H4 := by have := E4.keep; rwa [pG_hv] at this
    have n4 : ∀ b o, F4 b = some o → F' b = some o ∨ H3 b = none := E4.new
    have d4 : F4 Dl = none := by
      cases q : F4 Dl with
      | none => rfl
      | some o =>
        rcases n4 _ _ q with q | q
        · rw [l3] at q; cases q
        · rw [l13] at q; cases q
    by_cases hb : bt t = true
    · simp only [hb, if_true]
      refine ⟨⟨F4, H4, ρt t, m1 t, it1 t⟩, hi1 t ht hb, F4, (S3.mono e4).er E4.sub (E3.keep.trans k4) (Ext.refl _), fun F5 H5 J1 e5' E5 wk1 => ?_⟩
      have k5 : Ext H4 H5 := by have := E5.keep; rwa [pG_hv] at this
      have n5 : ∀ b o, F5 b = some o → F' b = some o ∨ H3 b = none := fun b o h => by
        rcases E5.new b o h with h | h
        · exact n4 b o h
        · exact .inr (k4.free h)
      have l15 : H5 Dl = some (.lst avs) := k5 _ _ (k4 _ _ l13)
      have d5 : F5 Dl = none := by
        cases q : F5 Dl with
        | none => rfl
        | some o =>
          rcases n5 _ _ q with q | q
          · rw [l3] at q; cases q
          · rw [l13] at q; cases q
      obtain ⟨Gd1, Y1, W1, hG1, hY1⟩ := wk1
      have S5 := S3.mono (e4.trans e5')
      have lt : (preL out t).length + (inL (xe t) (b1 t) (m1 t)).length ≤ sizeLine := by
        have := preL_le (f := out) (t := t + 1) (m - (t + 1))
        rw [show t + 1 + (m - (t + 1)) = m by omega, preL_succ, List.length_append] at this
        have e : out t = inL (xe t) (b1 t) (m1 t) := by show (if bt t = true then _ else _) = _; rw [if_pos hb]
        rw [e] at this
        exact Nat.le_trans this hz
      refine walk_it W1 (fun j H => ∃ F6 avs6, Ext F5 F6 ∧ Ext F6 H ∧ (∀ b o, b ≠ Dl → H3 b = some o → H b = some o) ∧ (∀ b o, F6 b = some o → F' b = some o ∨ H3 b = none) ∧ F6 Dl = none ∧ H Dl = some (.lst avs6) ∧ Reps X.K F6 (preL out t ++ inL (xe t) (b1 t) j) avs6)
        ⟨F5, avs, Ext.refl _, E5.sub, fun b o _ h => k5 _ _ (k4 _ _ h), n5, d5, l15, by rw [show inL (xe t) (b1 t) 0 = [] from rfl, List.append_nil]; exact Reps.mono (e4.trans e5') _ _ l2⟩ ?_ ?_ ?_
      · rintro j H6 _ ⟨F6, avs6, e6, s6, _⟩
        exact hG1 H6 (e6.trans s6)
      · rintro j x1 H6 H7 hj ⟨F6, avs6, e6, s6, k6, n6, d6, v6, r6⟩ y1
        have yr1 : YRep X.K (pG F5 (fun _ => none)) F5 (it1 t j) x1 H6 H7 := hY1 j H6 x1 H7 hj (e6.trans s6) y1
        have hj : j < m1 t := hj
        have k36 : Ext G.Hv H6 := fun b o h => k6 b o (fun q => by subst q; rw [Gx.hv_h0 h] at l4; cases l4) (E3.keep b o h)
        have e7 : Ext H6 H7 := by
          revert yr1
          cases it1 t j with
          | one s =>
            cases s with
            | v k d => rintro ⟨rfl, _⟩; exact Ext.refl _
            | own _ => intro h; exact h.elim
          | two => rintro ⟨T, x1, x2, _, hT, rfl, _⟩; exact Ext.lay hT
        have yr2 : YRep X.K (pG F6 H6) F5 (it1 t j) x1 H6 H7 := by
          have emp : Ext (pG F5 (fun _ => none)).Hv (pG F6 H6).Hv := fun b o h => by
            rw [pG_hv] at h; cases h
          revert yr1
          cases it1 t j with
          | one s =>
            cases s with
            | v k d => rintro ⟨rfl, h⟩; exact ⟨rfl, RK.weak h emp⟩
            | own _ => intro h; exact h.elim
          | two ka da kb db => rintro ⟨T, y1, y2, h1, hT, h2, h3, h4⟩; exact ⟨T, y1, y2, h1, hT, h2, RK.weak h3 emp, RK.weak h4 emp⟩
        have E6 : ER X.K (pG F6 H6) F6 H6 (setAll (wipe σ (own.map (·.2))) ix ws) (ρt t) := (S5.mono e6).er s6 k36 (Ext.refl _)
        refine hy1 t j F6 H6 ht hj F5 F6 H6 H7 _ (wipeE (ρt t) vs1) x1 _ e6 (E6.wiped fun i _ => pG_ms) yr2 fun H8 ws1 e8 E8 => ⟨wipe_setAll hix1, ?_⟩
        refine ⟨⟨F6, H6, ft1 t j (wipeE (ρt t) vs1), b1 t j⟩, hb1 t j ht hb hj, F6, E8, fun F9 H9 e9 E9 => ?_⟩
        have mk : ∀ F10 H10 avs10, Ext F6 F10 → Ext F10 H10 → (∀ b o, b ≠ Dl → H6 b = some o → H10 b = some o) → (∀ b o, F10 b = some o → F6 b = some o ∨ H6 b = none) → F10 Dl = none → H10 Dl = some (.lst avs10) → Reps X.K F10 (preL out t ++ inL (xe t) (b1 t) (j + 1)) avs10 →
            ∃ F6 avs6, Ext F5 F6 ∧ Ext F6 H10 ∧ (∀ b o, b ≠ Dl → H3 b = some o → H10 b = some o) ∧ (∀ b o, F6 b = some o → F' b = some o ∨ H3 b = none) ∧ F6 Dl = none ∧ H10 Dl = some (.lst avs6) ∧ Reps X.K F6 (preL out t ++ inL (xe t) (b1 t) (j + 1)) avs6 := fun F10 H10 avs10 ea sa ka na da va ra => by
          have nn : ∀ b o, F10 b = some o → F' b = some o ∨ H3 b = none := fun b o h => by
            rcases na b o h with h1 | h1
            · exact n6 b o h1
            · by_cases hbD : b = Dl
              · subst hbD; rw [da] at h; cases h
              · refine .inr ?_
                cases q : H3 b with
                | none => rfl
                | some o' => rw [k6 b o' hbD q] at h1; cases h1
          exact ⟨F10, avs10, e6.trans ea, sa, fun b o hb h => ka b o hb (k6 b o hb h), nn, da, va, ra⟩
        have dn : ∀ {F10 : Hp}, (∀ b o, F10 b = some o → F6 b = some o ∨ H6 b = none) → F10 Dl = none := fun {F10} h => by
          cases q : F10 Dl with
          | none => rfl
          | some o =>
            rcases h _ _ q with q | q
            · rw [d6] at q; cases q
            · rw [v6] at q; cases q
        have k9 : Ext H6 H9 := by have := E9.keep; rwa [pG_hv] at this
        by_cases hbj : b1 t j = true
        · simp only [hbj, if_true]
          refine ⟨⟨F6, H6, ft1 t j (wipeE (ρt t) vs1), xe t j⟩, hel t j ht hb hj hbj, F9, E9, fun F10 H10 yv e10 E10 r10 => ?_⟩
          have k10 : Ext H6 H10 := by have := E10.keep; rwa [pG_hv] at this
          have n10 : ∀ b o, F10 b = some o → F6 b = some o ∨ H6 b = none := E10.new
          have d10 := dn n10
          have lj : (inL (xe t) (b1 t) j).length + 1 ≤ (inL (xe t) (b1 t) (m1 t)).length := by
            have := inL_le (x := xe t) (b := b1 t) (j := j + 1) (m1 t - (j + 1))
            rw [show j + 1 + (m1 t - (j + 1)) = m1 t by omega, inL_succ, if_pos hbj, List.length_append] at this
            exact this
          refine ⟨avs6, k10 _ _ v6, ?_, mk F10 _ (avs6 ++ [yv]) (e9.trans e10) (E10.sub.updR d10) (fun b o hb h => by rw [upd_ne hb]; exact k10 b o h) n10 d10 upd_same ?_⟩
          · rw [r6.length, List.length_append]; omega
          · rw [inL_succ, if_pos hbj, ← List.append_assoc]
            exact (Reps.mono (e9.trans e10) _ _ r6).append (.one r10)
        · simp only [hbj, if_false]
          refine mk F9 H9 avs6 e9 E9.sub (fun b o _ h => k9 b o h) E9.new (dn E9.new) (k9 _ _ v6) ?_
          rw [inL_succ, if_neg hbj]
          exact Reps.mono e9 _ _ r6
      · rintro H6 ⟨F6, avs6, e6, s6, k6, n6, d6, v6, r6⟩
        refine fin F6 H6 avs6 ((e4.trans e5').trans e6) s6 k6 n6 d6 v6 ?_
        rw [preL_succ]
        show Reps X.K F6 (preL out t ++ if bt t = true then _ else []) avs6
        rw [if_pos hb]; exact r6
    · simp only [hb, if_false]
      refine fin F4 H4 avs e4 E4.sub (fun b o _ h => k4 b o h) n4 d4 (k4 _ _ l13) ?_
      rw [preL_succ]
      show Reps X.K F4 (preL out t ++ if bt t = true then _ else []) avs
      rw [if_neg hb, List.append_nil]
      exact Reps.mono e4 _ _ l2
  · rintro H' ⟨F', avs, e2, E2, l1, l2, l3, l4, l5⟩
    exact q F' H' _ (e1.trans e2) E2 ⟨Dl, avs, rfl, l1, l3, l4, l2, l5⟩
end
end DL
/-! DL18: defs with their names; calls of them, with keywords too. -/
namespace DL
open PySem L2 PyProof.Rows
/-- how a def's arguments bind that all come by keywords, in the parameters' order -/
structure KB0 (K : PySem.W.Frag) (fd : FuncData) (ps : List Str) : Prop where
  to : ∀ (s : Shared) (ws : List Value), K.In s.heap → ws.length = ps.length → BindsTo s fd ⟨[], ps.zip ws⟩ (ps.zip ws)
/-- a def of the module as it stands behind the top -/
structure DefAt (K : PySem.W.Frag) (mg : Str → Option Value) (x : Str) (st : Stmt) (ps : List Str) : Prop where
  ex : ∃ (f : Addr) (fd : FuncData), Fun K x x st f fd ∧ mg x = some (.ref f) ∧ PySem.W.keepIn K (.ref f) = true ∧ Binds K fd ps [] ∧ KB0 K fd ps
/-- a def that may be called by its name -/
structure CalD (P : Program) (w : World) (K : PySem.W.Frag) (mg : Str → Option Value) (base : Heap) (k : Nat) (x : Str) (ps : List Str) (sp : Sp) : Prop where
  ex : ∃ (f : Addr) (fd : FuncData), FnOk P w K mg base CX0 k f fd ps sp ∧ mg x = some (.ref f) ∧ PySem.W.keepIn K (.ref f) = true ∧ Binds K fd ps [] ∧ KB0 K fd ps
section
variable {P : Program} {w : World} {K : PySem.W.Frag} {mg : Str → Option Value} {base : Heap} {x : Str} {st : Stmt} {ps : List Str}
theorem calD {N : List Str} {k : Nat} {args outs : List Slot} {r : Slot} (T : DefAt K mg x st ps) (S : FnScope N ps (defScope st)) (hl : args.length = ps.length) (ho : OwnTo outs args)
    (hbody : ∀ (f : Addr) (cdv : Value) (A : Around) (outer : List PySem.Env) (s : Shared) (H F0 : Hp) (vs : List V) (E : XK), Room k (A.deeper (envOfC x (defScope st) s.heap.objs.size f cdv)) →
      BD (cxOf CX0 P w K mg base N x (defScope st) f cdv A outer s H E).nox (callG F0 H vs args) (defBody st) (startE N args) (EndP args r outs)) : CalD P w K mg base (k + 1) x ps (spD K args r outs) := by
  obtain ⟨f, fd, F, h1, h2, h3, h4⟩ := T.ex
  exact ⟨f, fd, fnD F S hl ho (hbody f), h1, h2, h3, h4⟩
end
section
variable {X : Cx} {G G' : Gx} {e a b c o : Expr} {ρ ρ' ρ0 ρ1 ρ2 ρ3 : DL.Env} {r s z s1 s2 : Slot} {d x y w : D} {ds es : List D} {K : PySem.W.Frag} {F F1 F' H H' Hb H0 : Hp} {σ : L2.St} {v u : V} {pos p p2 q2 apos cpos tpos kpos : Pos} {k k1 k2 k3 : Bool} {n : Str} {xs : List Expr} {m i j kk : Nat} {P : Out → Prop} {elts : List Expr} {as : List ArgS} {args outs : List Slot} {ps : List Str} {kws : List Keyword}
theorem ed_cal (C : CalD X.prog X.w X.K X.mg X.base kk n ps (spD X.K args r outs)) (hr : Room j X.A) (hk : kk ≤ j) (hg : Gl X n) (ha : EAs X G (a :: xs) ρ ρ1 as) (ht : ArgsTo ρ1 as args) (nd : (varsOf as).Nodup) (ho : OwnTo outs args) (hres : ResOk r) (hdb : (n == ("__debug__" : Str)) = false := by decide)
    (he : starEach (a :: xs) X.env = (false, eval a X.env) :: starEach xs X.env := by rfl) (hpl : (backTo pos (starEach xs X.env)).any (·.1) = false := by rfl) : ED X G (.Call (.Name n p) (a :: xs) [] pos) ρ (backE ρ1 as outs) r := by
  obtain ⟨f, fd, Fo, h1, h2, h3, _⟩ := C.ex
  exact ed_call Fo (hr.mono hk) hg h1 h2 h3 ha ht nd ho hres hdb he hpl
/-- keywords in the parameters' order -/
theorem pe_callK0 {sp : Sp} {t : TA} {f : Addr} {fd : FuncData} {CX : CXT} {E : XK} (F : FnOk X.prog X.w X.K X.mg X.base CX kk f fd ps sp) (hr : Room kk X.A) (hg : Gl X n) (hm : X.mg n = some (.ref f)) (hk : PySem.W.keepIn X.K (.ref f) = true) (hb : KB0 X.K fd ps) (hx : Passes CX X E)
    (hkw : PK X kws t) (hall : (backToKw pos (keywordEach kws X.env)).all (·.1.isSome) = true := by rfl) (hks : (backToKw pos (keywordEach kws X.env)).filterMap (·.1) = ps := by rfl)
    (hdb : (n == ("__debug__" : Str)) = false := by decide) (hpl : ((backTo pos (starEach [] X.env)).any (·.1) || (backToKw pos (keywordEach kws X.env)).any (·.1.isNone)) = false := by rfl) :
    PE X (.Call (.Name n p) [] kws pos) (fun σ H Q => t σ H fun zs H1 => sp zs H1 Q E) := by
  refine ⟨fun pins s σ H Q I h => ?_⟩
  refine wpAny_Call_Name_kw (ld_glob I hg hm ?_ hdb)
  refine PySem.W.callWith_KW0 (h₀ := X.base) I.ok.mod.kin hk hall (thn (hkw.run pos pins s σ H _ I h) fun ws s2 ⟨zs, H2, I2, rz, q2⟩ => ⟨I2.kIn, ?_⟩) hpl
  rw [hks]
  have hl : ws.length = ps.length := by rw [← rz.length]; exact F.len _ _ _ _ q2
  refine wpAny_call (codeAny_mono (F.run X.A X.stack s2 H2 ⟨[], ps.zip ws⟩ ws zs Q E hr I2.env0 (hb.to s2 ws I2.kIn hl) rz q2) fun r s' hq => ?_)
  match r, hq with
  | .error er, hq => exact hx pins σ H2 s2 er s' I2 hq
  | .ok (.ret u), hq => exact I2.after hq
  | .ok .next, hq => exact hq.elim
  | .ok .brk, hq => exact hq.elim
  | .ok .cont, hq => exact hq.elim
abbrev EKs (X : Cx) (G : Gx) (kws : List Keyword) (ρ ρ' : DL.Env) (as : List ArgS) : Prop := PK X kws (tAs X.K G ρ ρ' as)
theorem pk_mono {t t' : TA} (h : PK X kws t) (i : ∀ σ H Q, t' σ H Q → t σ H Q) : PK X kws t' := ⟨fun p pins s σ H Q I q => h.run p pins s σ H Q I (i σ H Q q)⟩
theorem ks_nil : EKs X G [] ρ ρ [] := pk_mono pk_nil fun σ H Q ⟨F, E, q⟩ => q F H [] (Ext.refl _) E rfl
theorem ks_ex {nm : Option Str} (ha : ED X G a ρ ρ1 (.v k d)) (hr : EKs X G kws ρ1 ρ2 as) : EKs X G (⟨nm, a, kpos⟩ :: kws) ρ ρ2 (.ex k d :: as) :=
  pk_mono (pk_cons ha hr) fun σ H Q ⟨F, E, q⟩ => ⟨F, E, fun F1 H1 v e1 E1 r1 => ⟨F1, E1, fun F2 H2 vs e2 E2 r2 => q F2 H2 (v :: vs) (e1.trans e2) E2 ⟨v, vs, rfl, RK.mono e2 r1, r2⟩⟩⟩
theorem ks_own {nm : Option Str} (hN : X.N[i]? = some n) (hv : Vis X.env.scope n) (h0 : ρ[i]? = some (some (.own ds))) (hr : EKs X G kws ρ ρ2 as) (hd : (n == ("__debug__" : Str)) = false := by decide) (hcd : (n == ("__classdict__" : Str)) = false := by decide) : EKs X G (⟨nm, .Name n p, kpos⟩ :: kws) ρ ρ2 (.var i :: as) :=
  pk_mono (pk_cons (pe_var hN hv hd hcd) hr) fun σ H Q ⟨F, E, q⟩ => by
    obtain ⟨a, vs, h1, _⟩ := E.own i ds h0
    exact ⟨_, h1, F, E, fun F2 H2 ws e2 E2 r2 => q F2 H2 (V.ref a :: ws) e2 E2 ⟨_, ws, rfl, h1, r2⟩⟩
/-- f(x = e, ..), all parameters by keywords, in their order -/
theorem ed_calK (C : CalD X.prog X.w X.K X.mg X.base kk n ps (spD X.K args r outs)) (hr : Room j X.A) (hk : kk ≤ j) (hg : Gl X n) (ha : EKs X G kws ρ ρ1 as) (ht : ArgsTo ρ1 as args) (nd : (varsOf as).Nodup) (ho : OwnTo outs args) (hres : ResOk r)
    (hall : (backToKw pos (keywordEach kws X.env)).all (·.1.isSome) = true := by rfl) (hks : (backToKw pos (keywordEach kws X.env)).filterMap (·.1) = ps := by rfl)
    (hdb : (n == ("__debug__" : Str)) = false := by decide) (hpl : ((backTo pos (starEach [] X.env)).any (·.1) || (backToKw pos (keywordEach kws X.env)).any (·.1.isNone)) = false := by rfl) : ED X G (.Call (.Name n p) [] kws pos) ρ (backE ρ1 as outs) r := by
  obtain ⟨f, fd, Fo, h1, h2, _, h4⟩ := C.ex
  exact pe_mono (pe_callK0 (E := fun _ _ _ => False) Fo (hr.mono hk) hg h1 h2 h4 (fun _ _ _ _ _ _ _ h => h.elim) ha hall hks hdb hpl) fun σ H Q ⟨F, E, q⟩ => ⟨F, E, fun F1 H1 vs e1 E1 r1 => call_sp E1 e1 r1 ht nd ho hres q⟩
end
end DL
/-! DL19: comprehensions of one clause whose turns leave the frame as it is. -/
namespace DL
open PySem L2 PyProof.Rows
section
variable {X : Cx} {G G' : Gx} {e a b c o : Expr} {ρ ρ' ρ0 ρ1 ρ2 ρ3 : DL.Env} {r s z s1 s2 : Slot} {d x y w : D} {ds es : List D} {pos p p2 q2 apos cpos tpos kpos : Pos} {k k1 k2 k3 : Bool} {n : Str} {xs : List Expr} {m i j kk : Nat}
theorem cd_lcP {elt tg iter : Expr} {scope : Scope} {own : List (Str × Nat)} {g : TG} {ix vs : List Nat} {it : Nat → Yld} {ft : Nat → DL.Env → DL.Env} {acc : List D} {f : Nat → D} (ok : BlkOk X.N X.env.scope scope own) (hvs : own.map (·.2) = vs) (hc : X.calm = true) (hN : X.N.Nodup)
    (hw : WD X G tg iter ρ ρ1 m it) (hg : ∀ (s : Shared) (H : Hp) (C : Addr) (cl : List (Str × Addr)) (fp : List Addr), PG (X.blk s H scope (compEnvC scope cl C X.env) fp) tg g) (hy : ∀ t, t < m → TgR X.K G g ix (it t) (ft t) ∧ FtOk ix (ft t)) (hix : ∀ i ∈ ix, i ∈ vs) (hm : ∀ i ∈ vs, G.ms[i]? ≠ some true) (hz : m ≤ sizeLine)
    (hel : ∀ t, t < m → ElD X scope elt (ft t (wipeE ρ1 vs)) (ft t (wipeE ρ1 vs)) (f t)) (hmg : ∀ t, t < m → mergeE 0 ρ1 (ft t (wipeE ρ1 vs)) vs = ρ1) (hacc : (List.range m).map f = acc)
    (hs : ∀ x, foldedSetIterable iter X.env x = pure x := by intro _; rfl) : CD X G (.ListComp elt [⟨tg, iter, [], 0⟩] scope pos) ρ ρ1 acc := by
  refine cd_lc (fun t ρ' acc => ρ' = ρ1 ∧ acc = (List.range t).map f) ok hvs hc hN hw hg hy hix hm hz ⟨rfl, rfl⟩ ?_ ?_ ?_ hs
  · rintro t ρ' acc ⟨_, rfl⟩; simp
  · rintro t ρ' acc ht ⟨rfl, rfl⟩
    exact ⟨_, f t, hel t ht, hmg t ht, by rw [List.range_succ, List.map_append]; rfl⟩
  · rintro ρ' acc' ⟨rfl, rfl⟩
    exact ⟨rfl, hacc⟩
theorem cd_lcIP {c : Expr} {elt tg iter : Expr} {scope : Scope} {own : List (Str × Nat)} {g : TG} {ix vs : List Nat} {it : Nat → Yld} {ft : Nat → DL.Env → DL.Env} {acc : List D} {f : Nat → D} {b : Nat → Bool} (ok : BlkOk X.N X.env.scope scope own) (hvs : own.map (·.2) = vs) (hc : X.calm = true) (hN : X.N.Nodup)
    (hw : WD X G tg iter ρ ρ1 m it) (hg : ∀ (s : Shared) (H : Hp) (C : Addr) (cl : List (Str × Addr)) (fp : List Addr), PG (X.blk s H scope (compEnvC scope cl C X.env) fp) tg g) (hy : ∀ t, t < m → TgR X.K G g ix (it t) (ft t) ∧ FtOk ix (ft t)) (hix : ∀ i ∈ ix, i ∈ vs) (hm : ∀ i ∈ vs, G.ms[i]? ≠ some true) (hz : m ≤ sizeLine)
    (hb : ∀ t, t < m → TsD X scope c (ft t (wipeE ρ1 vs)) (ft t (wipeE ρ1 vs)) (b t)) (hel : ∀ t, t < m → b t = true → ElD X scope elt (ft t (wipeE ρ1 vs)) (ft t (wipeE ρ1 vs)) (f t)) (hmg : ∀ t, t < m → mergeE 0 ρ1 (ft t (wipeE ρ1 vs)) vs = ρ1) (hacc : inL f b m = acc)
    (hs : ∀ x, foldedSetIterable iter X.env x = pure x := by intro _; rfl) : CD X G (.ListComp elt [⟨tg, iter, [c], 0⟩] scope pos) ρ ρ1 acc := by
  refine cd_lcI (fun t ρ' acc => ρ' = ρ1 ∧ acc = inL f b t) ok hvs hc hN hw hg hy hix hm hz ⟨rfl, rfl⟩ ?_ ?_ ?_ hs
  · rintro t ρ' acc ⟨_, rfl⟩
    have := inL_le (x := f) (b := b) (j := 0) t
    unfold inL
    rw [List.length_map]
    exact Nat.le_trans (List.length_filter_le _ _) (by simp)
  · rintro t ρ' acc ht ⟨rfl, rfl⟩
    exact ⟨b t, hb t ht, fun hbt => ⟨_, f t, hel t ht hbt, hmg t ht, by rw [inL_succ, if_pos hbt]⟩, fun hbt => ⟨hmg t ht, by rw [inL_succ, if_neg (by rw [hbt]; exact Bool.false_ne_true)]⟩⟩
  · rintro ρ' acc' ⟨rfl, rfl⟩
    exact ⟨rfl, hacc⟩
/-- a name's own list is given away -/
theorem ed_varM {i : Nat} (hN : X.N[i]? = some n) (hv : Vis X.env.scope n) (h : ρ[i]? = some (some (.own ds))) (hm : G.ms[i]? ≠ some true) (hd : (n == ("__debug__" : Str)) = false := by decide) (hcd : (n == ("__classdict__" : Str)) = false := by decide) : ED X G (.Name n pos) ρ (ρ.set i none) (.own ds) :=
  pe_mono (pe_var hN hv hd hcd) fun σ H Q ⟨F, E, q⟩ => by
    obtain ⟨a, vs, h1, h2, h3, h4, h5⟩ := E.own i ds h
    refine ⟨V.ref a, h1, q F H _ (Ext.refl _) (E.drop i) ⟨a, vs, rfl, h2, h3, ?_, h5, fun j es hj hs => ?_⟩⟩
    · rcases h4 with h4 | h4
      · exact h4
      · exact absurd h4 hm
    · by_cases hij : i = j
      · subst hij
        have := getset_eq hj
        cases this
      · rw [getset_ne hij] at hj
        exact E.inj i j a ds es hij h hj h1 hs
/-- a look at a comprehension's scope -/
def blkC (N : List Str) (sc scope : Scope) (own : List (Str × Nat)) : Bool :=
  decide (scope.kind = .function) && scope.names.all (fun y => decide (scope.names.lookup y.1 = some y.2)) && own.all (fun p => decide (N[p.2]? = some p.1)) &&
  scope.names.all (fun y => !decide (y.2 = .free) || (decide (sc.names.lookup y.1 = some .cell) || decide (sc.names.lookup y.1 = some .free))) &&
  scope.names.all (fun y => !(decide (y.2 = .local) || decide (y.2 = .cell)) || (decide (y.1 ∈ own.map (·.1)) || !decide (y.1 ∈ N)))
theorem blk_by {N : List Str} {sc scope : Scope} {own : List (Str × Nat)} (h : blkC N sc scope own = true) : BlkOk N sc scope own := by
  unfold blkC at h
  simp only [Bool.and_eq_true, Bool.or_eq_true, Bool.not_eq_true', decide_eq_true_eq, decide_eq_false_iff_not, List.all_eq_true] at h
  obtain ⟨⟨⟨⟨h1, h2⟩, h3⟩, h4⟩, h5⟩ := h
  refine ⟨h1, h2, h3, fun y hy e => ?_, fun y hy e => ?_⟩
  · rcases h4 y hy with q | q
    · exact absurd e q
    · exact q
  · rcases h5 y hy with q | q
    · rcases e with e | e <;> simp [e] at q
    · exact q
/-- over a list: what comes out -/
theorem range_getD {α β : Type} (ds : List α) (dx : α) (f : α → β) : (List.range ds.length).map (fun t => f (ds.getD t dx)) = ds.map f := by
  apply List.ext_getElem
  · simp
  · intro i h1 h2
    simp only [List.getElem_map, List.getElem_range]
    rw [List.getD_eq_getElem?_getD, List.getElem?_eq_getElem (by simpa using h2)]
    rfl
theorem inL_getD {α : Type} (ds : List α) (dx : α) (f : α → D) (b : α → Bool) : inL (fun t => f (ds.getD t dx)) (fun t => b (ds.getD t dx)) ds.length = (ds.filter b).map f := by
  unfold inL
  have h : ∀ n, n ≤ ds.length → (List.filter (fun t => b (ds.getD t dx)) (List.range n)).map (fun t => f (ds.getD t dx)) = ((ds.take n).filter b).map f := by
    intro n
    induction n with
    | zero => intro _; rfl
    | succ n ih =>
      intro hn
      have hlt : n < ds.length := hn
      rw [List.range_succ, List.filter_append, List.map_append, ih (Nat.le_of_lt hlt), List.take_add_one, List.getElem?_eq_getElem hlt, List.filter_append, List.map_append]
      congr 1
      have e : ds.getD n dx = ds[n] := by rw [List.getD_eq_getElem?_getD, List.getElem?_eq_getElem hlt]; rfl
      cases hb : b ds[n] with
      | true =>
        have h1 : List.filter (fun t => b (ds.getD t dx)) [n] = [n] := by rw [List.filter_cons_of_pos (by rw [e]; exact hb)]; rfl
        have h2 : List.filter b (some ds[n]).toList = [ds[n]] := by show List.filter b [ds[n]] = _; rw [List.filter_cons_of_pos hb]; rfl
        rw [h1, h2, List.map_cons, List.map_cons, e]; rfl
      | false =>
        have h1 : List.filter (fun t => b (ds.getD t dx)) [n] = [] := by rw [List.filter_cons_of_neg (by rw [e, hb]; exact Bool.false_ne_true)]; rfl
        have h2 : List.filter b (some ds[n]).toList = [] := by show List.filter b [ds[n]] = _; rw [List.filter_cons_of_neg (by rw [hb]; exact Bool.false_ne_true)]; rfl
        rw [h1, h2]; rfl
  rw [h ds.length (Nat.le_refl _), List.take_of_length_le (Nat.le_refl _)]
end
end DL
/-! RL0: the text of a def, put into few forms (CE, CS), and what it does to plain data (evE, evB). -/
namespace RL
open PySem L2 DL PyProof.Rows PySem.W
inductive Bf where
  | len | int | str | list | tuple | sum | all | any | sorted | lenSet
  deriving DecidableEq, Repr
inductive Tgt where
  | nm (i : Nat)
  | tp (ix : List Nat)
def Tgt.ix : Tgt → List Nat
  | .nm i => [i]
  | .tp ix => ix
inductive CE where
  | nil
  | cons (a r : CE)
  | star (a r : CE)
  | var (i : Nat)
  | cst (d : D)
  | bin (op : Operator) (a b : CE)
  | neg (a : CE)
  | no (a : CE)
  | one (a : CE)
  | conj (a r : CE)
  | disj (a r : CE)
  | bool (a : CE)
  | cmp (op : CmpOp) (a b : CE)
  | chain (o1 o2 : CmpOp) (a b c : CE)
  | ite (c a b : CE)
  | idx (a b : CE)
  | sl (a lo hi : CE)
  | lst (es : CE)
  | tup (es : CE)
  | fn (f : Bf) (a : CE)
  | isi (a : CE) (Ts : List String)
  | call (f : Nat) (es : CE)
  | app (i : Nat) (a : CE)
  | ext (i : Nat) (a : CE)
  | pop (i : Nat) (a : CE)
  | rev (i : Nat)
  | count (a b : CE)
  | join (a b : CE)
  | comp (e w : CE) (tg : Tgt) (vs : List Nat)
  | compI (e c w : CE) (tg : Tgt) (vs : List Nat)
  | nem (i : Nat)
  | wrange (a : CE)
  | wrange2 (a b : CE)
  | ins (i : Nat) (a b : CE)
  | wzip (a b : CE)
  | wenum (a : CE)
  | dk0
  | comp2 (e w w1 : CE) (tg tg1 : Tgt) (vs vs1 : List Nat)
/-! ### what the operators do -/
abbrev CC := Nat → List Slot → Option (Slot × List Slot)
def toV : Slot → Option D
  | .v k d => if k = true ∨ isSc d = true then some d else none
  | .own ds => some (.lst ds)
def fixS : Slot → Slot
  | .own ds => .val (.lst ds)
  | s => s
def intS : Slot → Option Int
  | .v _ (.int i) => some i
  | _ => none
def blS : Slot → Option Bool
  | .v _ (.bl i) => some i
  | _ => none
def strS : Slot → Option Str
  | .v _ (.str i) => some i
  | _ => none
open Classical in
noncomputable def chk {α : Type} (p : Prop) (x : Option α) : Option α := if p then x else none
theorem chk_pos {α : Type} {p : Prop} {x : Option α} (h : p) : chk p x = x := if_pos h
theorem chk_some {α : Type} {p : Prop} {x : Option α} {y : α} (h : chk p x = some y) : p ∧ x = some y := by
  unfold chk at h
  split at h
  · rename_i hp; exact ⟨hp, h⟩
  · cases h
noncomputable def addS : Slot → Slot → Option Slot
  | .v _ (.int i), .v _ (.int j) => some (.val (.int (i + j)))
  | .v _ (.str i), .v _ (.str j) => chk (i.length + j.length ≤ sizeLine) (some (.val (.str (i ++ j))))
  | .v _ (.lst i), .v _ (.lst j) => chk (i.length + j.length ≤ sizeLine) (some (.own (i ++ j)))
  | _, _ => none
/-- // by what is not 0, of less than 9000 bits -/
def CDvW (_ j : Int) : Prop := j ≠ 0 ∧ j.natAbs.log2 < 9000
def CMlW (i j : Int) : Prop := CMul i j ∨ CMulX i j
noncomputable def mulS : Slot → Slot → Option Slot
  | .v _ (.int i), .v _ (.int j) => chk (CMlW i j) (some (.val (.int (i * j))))
  | .own ds, .v _ (.int n) => chk (-(2 ^ 63) ≤ n ∧ n < 2 ^ 63 ∧ ds.length * n.toNat ≤ sizeLine) (some (.own (List.replicate n.toNat ds).flatten))
  | _, _ => none
noncomputable def binS : Operator → Slot → Slot → Option Slot
  | .Add, a, b => addS (fixS a) (fixS b)
  | .Sub, a, b => (intS a).bind fun i => (intS b).bind fun j => some (.val (.int (i - j)))
  | .Mult, a, b => mulS a b
  | .FloorDiv, a, b => (intS a).bind fun i => (intS b).bind fun j => Option.or (chk (CDiv i j) (some (.val (.int (i / j))))) (chk (CDvW i j) (some (.val (.int (i.fdiv j)))))
  | .Mod, a, b => (intS a).bind fun i => (intS b).bind fun j => chk (0 < j) (some (.val (.int (i % j))))
  | .Pow, a, b => (intS a).bind fun i => (intS b).bind fun j => chk (CPow i j) (some (.val (.int (i ^ j.toNat))))
  | _, _, _ => none
def eqS : D → D → Option Bool
  | .int i, .int j => some (decide (i = j))
  | .str i, .str j => some (decide (i = j))
  | .bl i, .bl j => some (decide (i = j))
  | _, _ => none
def cmpI : CmpOp → Int → Int → Option Bool
  | .Lt, i, j => some (decide (i < j))
  | .LtE, i, j => some (decide (i ≤ j))
  | .Gt, i, j => some (decide (j < i))
  | .GtE, i, j => some (decide (j ≤ i))
  | _, _, _ => none
/-- c in t, for a text; x in a list or a tuple -/
noncomputable def inS : Slot → Slot → Option Bool
  | .v _ (.str x), .v _ (.str t) => chk (x.cps.size = 1) (some (decide (x.cps.getD 0 0 ∈ t.cps.toList)))
  | .v _ x, .v _ (.lst ds) => chk (flatD x = true ∧ ds.all flatD = true) (some (inD x ds))
  | .v _ x, .v _ (.tup ds) => chk (flatD x = true ∧ ds.all flatD = true) (some (inD x ds))
  | _, _ => none
def datS : Slot → D
  | .v _ d => d
  | .own ds => .lst ds
/-- a comparison of plain data -/
def cmpD (op : CmpOp) (x y : D) : Option Bool :=
  match op with
  | .Eq => eqS x y
  | .NotEq => (eqS x y).map (!·)
  | op => match x, y with
    | .int i, .int j => cmpI op i j
    | _, _ => none
/-- lists of two lengths are not equal, whatever stands in them -/
noncomputable def eqL (x y : D) : Option Bool := match x, y with
  | .lst ds, .lst es => chk (ds.length ≠ es.length) (some false)
  | _, _ => none
noncomputable def eqX (x y : D) : Option Bool :=
  Option.or (eqS x y) (Option.or (eqL x y) (chk (dataD x = true ∧ dataD y = true ∧ SeqAt.shaped (pyD x) = true ∧ SeqAt.shaped (pyD y) = true) (some (PyData.eqv (pyD x) (pyD y)))))
noncomputable def cmpS (op : CmpOp) (a b : Slot) : Option Bool :=
  match op with
  | .In => inS (fixS a) (fixS b)
  | .NotIn => (inS (fixS a) (fixS b)).map (!·)
  | .Is => match datS b with
    | .non => some (isNon (datS a))
    | _ => none
  | .IsNot => match datS b with
    | .non => some (!isNon (datS a))
    | _ => none
  | .Eq => eqX (datS a) (datS b)
  | .NotEq => (eqX (datS a) (datS b)).map (!·)
  | op => cmpD op (datS a) (datS b)
noncomputable def idxS : Slot → Int → Option Slot
  | .v _ (.lst ds), j => (atI ds j).map .val
  | .v _ (.tup ds), j => (atI ds j).map .val
  | .v _ (.str s), j => (atI s.cps.toList j).bind fun c => chk (s.length ≤ sizeLine) (some (.val (.str ⟨#[c]⟩)))
  | _, _ => none
noncomputable def lenS : Slot → Option Nat
  | .v _ (.lst ds) => some ds.length
  | .v _ (.tup ds) => some ds.length
  | .own ds => some ds.length
  | .v _ (.str s) => chk (s.length ≤ sizeLine) (some s.length)
  | _ => none
/-- the items of a list, or of a tuple, that may be kept -/
noncomputable def itemsS : Slot → Option (List D)
  | .own ds => some ds
  | .v _ (.lst ds) => some ds
  | .v _ (.tup ds) => some ds
  | _ => none
def seqS : Slot → Option (Bool × List D)
  | .own ds => some (true, ds)
  | .v k (.lst ds) => some (k, ds)
  | .v k (.tup ds) => some (k, ds)
  | _ => none
def lstS : Slot → Option (List D)
  | .own ds => some ds
  | .v _ (.lst ds) => some ds
  | _ => none
noncomputable def lstK : Slot → Option (List D)
  | .own ds => some ds
  | .v _ (.lst ds) => some ds
  | _ => none
noncomputable def slS (s : Slot) (l h : Option Int) : Option Slot :=
  match s with
  | .v _ (.str t) => chk (t.length ≤ sizeLine) (some (.val (.str (cutS t l h))))
  | s => (lstK s).bind fun ds => some (.own (cutD ds l h))
def intsOf : List D → Option (List Int)
  | [] => some []
  | .int i :: r => (intsOf r).map (i :: ·)
  | _ => none
def blsOf : List D → Option (List Bool)
  | [] => some []
  | .bl i :: r => (blsOf r).map (i :: ·)
  | _ => none
def strsOf : List D → Option (List Str)
  | [] => some []
  | .str i :: r => (strsOf r).map (i :: ·)
  | _ => none
def keysOf : List D → Option (List Key)
  | [] => some []
  | .str i :: r => (keysOf r).map (.inr i :: ·)
  | .int i :: r => (keysOf r).map (.inl i :: ·)
  | _ => none
theorem intsOf_eq : ∀ {ds : List D} {ns : List Int}, intsOf ds = some ns → ds = ns.map D.int
  | [], ns, h => by cases h; rfl
  | d :: ds, ns, h => by
    cases d <;> first | (cases h; done) | skip
    simp only [intsOf, Option.map_eq_some_iff] at h
    obtain ⟨r, h1, rfl⟩ := h
    rw [intsOf_eq h1]; rfl
theorem blsOf_eq : ∀ {ds : List D} {ns : List Bool}, blsOf ds = some ns → ds = ns.map D.bl
  | [], ns, h => by cases h; rfl
  | d :: ds, ns, h => by
    cases d <;> first | (cases h; done) | skip
    simp only [blsOf, Option.map_eq_some_iff] at h
    obtain ⟨r, h1, rfl⟩ := h
    rw [blsOf_eq h1]; rfl
theorem strsOf_eq : ∀ {ds : List D} {ns : List Str}, strsOf ds = some ns → ds = ns.map D.str
  | [], ns, h => by cases h; rfl
  | d :: ds, ns, h => by
    cases d <;> first | (cases h; done) | skip
    simp only [strsOf, Option.map_eq_some_iff] at h
    obtain ⟨r, h1, rfl⟩ := h
    rw [strsOf_eq h1]; rfl
theorem keysOf_eq : ∀ {ds : List D} {ns : List Key}, keysOf ds = some ns → ds = ns.map keyD
  | [], ns, h => by cases h; rfl
  | d :: ds, ns, h => by
    cases d <;> first | (cases h; done) | skip
    · simp only [keysOf, Option.map_eq_some_iff] at h
      obtain ⟨r, h1, rfl⟩ := h
      rw [keysOf_eq h1]; rfl
    · simp only [keysOf, Option.map_eq_some_iff] at h
      obtain ⟨r, h1, rfl⟩ := h
      rw [keysOf_eq h1]; rfl
theorem intsOf_map (ns : List Int) : intsOf (ns.map D.int) = some ns := by
  induction ns with
  | nil => rfl
  | cons n ns ih => simp [intsOf, ih]
theorem blsOf_map (ns : List Bool) : blsOf (ns.map D.bl) = some ns := by
  induction ns with
  | nil => rfl
  | cons n ns ih => simp [blsOf, ih]
theorem strsOf_map (ns : List Str) : strsOf (ns.map D.str) = some ns := by
  induction ns with
  | nil => rfl
  | cons n ns ih => simp [strsOf, ih]
theorem keysOf_map (ns : List Str) : keysOf (ns.map D.str) = some (ns.map Sum.inr) := by
  induction ns with
  | nil => rfl
  | cons n ns ih => simp [keysOf, ih]
noncomputable def tupF : Slot → Option Slot
  | .v k (.tup ds) => some (.v k (.tup ds))
  | s => (lstK s).bind fun ds => some (.val (.tup ds))
noncomputable def fnS : Bf → Slot → Option Slot
  | .len, s => (lenS s).bind fun n => some (.val (.int (n : Nat)))
  | .int, s => (intS s).bind fun i => some (.val (.int i))
  | .str, s => (intS s).bind fun i => chk (i.natAbs.log2 < 1920) (some (.val (.str (Str.ofString (toString i)))))
  | .list, s => (itemsS s).bind fun ds => some (.own ds)
  | .tuple, s => tupF s
  | .sum, s => (seqS s).bind fun q => (intsOf q.2).bind fun ns => some (.val (.int ns.sum))
  | .all, s => (lstS s).bind fun ds => (blsOf ds).bind fun bs => some (.val (.bl (bs.all id)))
  | .any, s => (lstS s).bind fun ds => (blsOf ds).bind fun bs => some (.val (.bl (bs.any id)))
  | .sorted, s => (lstK s).bind fun ds => chk (ds.all dataD = true ∧ AllAlike (ds.map pyD) ∧ Sortable (ds.map pyD) ∧ ∀ d ∈ ds, (pyD d).depth ≤ 60) (some (.own (ds.mergeSort leD)))
  | .lenSet, s => (seqS s).bind fun q => (keysOf q.2).bind fun ks => chk (ks.length + 1 < scanBound) (some (.val (.int ((metK ks).length : Nat))))
def isiL (d : D) : List String → Bool
  | [] => false
  | [T] => isiD d T
  | T :: r => isiD d T || isiL d r
/-! ### walks -/
structure Wk where
  m : Nat
  it : Nat → Yld
def wkS : Slot → Option Wk
  | .own ds => some ⟨ds.length, fun t => .one (.v true (ds.getD t .non))⟩
  | .v _ (.lst ds) => some ⟨ds.length, fun t => .one (.val (ds.getD t .non))⟩
  | .v _ (.tup ds) => some ⟨ds.length, fun t => .one (.val (ds.getD t .non))⟩
  | .v _ (.str z) => some ⟨z.cps.size, fun t => .one (.val (.str ⟨#[z.cps.getD t 0]⟩))⟩
  | _ => none
noncomputable def bindY : Tgt → Yld → Option (DL.Env → DL.Env)
  | .nm i, .one (.v k d) => some fun ρ => ρ.set i (some (.v k d))
  | .tp ix, .one (.v _ (.tup ds)) => chk (ix.length = ds.length) (some fun ρ => setE ρ ix true ds)
  | .tp [i, j], .two k1 d1 k2 d2 => some fun ρ => (ρ.set i (some (.v k1 d1))).set j (some (.v k2 d2))
  | _, _ => none
def compL (f : Nat → DL.Env → Option (Option D × DL.Env)) : Nat → Nat → DL.Env → List D → Option (List D × DL.Env)
  | _, 0, ρ, acc => some (acc, ρ)
  | t, k + 1, ρ, acc => (f t ρ).bind fun q => compL f (t + 1) k q.2 (match q.1 with | some x => acc ++ [x] | none => acc)
/-- one list behind the other -/
def pairL (f : Nat → Option (List D)) : Nat → Option (List D)
  | 0 => some []
  | t + 1 => (pairL f t).bind fun l => (f t).bind fun k => some (l ++ k)
def wkF : Slot → Option Wk
  | .v true (.lst ds) => some ⟨ds.length, fun t => .one (.v true (ds.getD t .non))⟩
  | .v true (.tup ds) => some ⟨ds.length, fun t => .one (.v true (ds.getD t .non))⟩
  | .v _ (.str z) => some ⟨z.cps.size, fun t => .one (.val (.str ⟨#[z.cps.getD t 0]⟩))⟩
  | _ => none
/-! ### calls -/
def ownVar : CE → DL.Env → Option Nat
  | .var i, ρ => match ρ[i]? with
    | some (some (.own _)) => some i
    | _ => none
  | _, _ => none
def argOf : Slot → ArgS
  | .v k d => .ex k d
  | .own ds => .ex true (.lst ds)
def argTo (ρ : DL.Env) : Bool → ArgS → Option Slot
  | false, .ex k d => some (.v (k || isSc d) d)
  | true, .var i => match ρ[i]? with
    | some (some (.own ds)) => some (.own ds)
    | _ => none
  | false, .var i => match ρ[i]? with
    | some (some (.own ds)) => some (.v false (.lst ds))
    | _ => none
  | _, _ => none
def argsTo (ρ : DL.Env) : List Bool → List ArgS → Option (List Slot)
  | [], [] => some []
  | m :: ms, a :: as => (argTo ρ m a).bind fun s => (argsTo ρ ms as).bind fun r => some (s :: r)
  | _, _ => none
structure Cs where
  C : CC
  M : Nat → List Bool
noncomputable def callS (c : Cs) (f : Nat) (q : List ArgS × DL.Env) : Option (Slot × DL.Env) :=
  (argsTo q.2 (c.M f) q.1).bind fun args => chk ((varsOf q.1).Nodup) ((c.C f args).bind fun w => some (w.1, backE q.2 q.1 w.2))
def frB (ms : List Bool) (i : Nat) : Bool := !(ms.getD i false)
def getO (ρ : DL.Env) (i : Nat) : Option (List D) := match ρ[i]? with
  | some (some (.own ds)) => some ds
  | _ => none
mutual
noncomputable def evE (c : Cs) (ms : List Bool) : CE → DL.Env → Option (Slot × DL.Env)
  | .var i, ρ => match ρ[i]? with
    | some (some (.v k d)) => some (.v k d, ρ)
    | some (some (.own ds)) => chk (frB ms i = true) (some (.val (.lst ds), ρ.set i (some (.val (.lst ds)))))
    | _ => none
  | .nem i, ρ => match ρ[i]? with
    | some (some (.own ds)) => some (.val (.bl (!ds.isEmpty)), ρ)
    | some (some (.v _ d)) => (eqX d (.lst [])).bind fun z => some (.val (.bl (!z)), ρ)
    | _ => none
  | .cst d, ρ => some (.val d, ρ)
  | .bin op a b, ρ => (evE c ms a ρ).bind fun p => (evE c ms b p.2).bind fun q => (binS op p.1 q.1).bind fun z => some (z, q.2)
  | .neg a, ρ => (evE c ms a ρ).bind fun p => (intS p.1).bind fun i => some (.val (.int (-i)), p.2)
  | .no a, ρ => (evE c ms a ρ).bind fun p => (blS p.1).bind fun k => some (.val (.bl (!k)), p.2)
  | .one a, ρ => (evE c ms a ρ)
  | .conj a r, ρ => (evE c ms a ρ).bind fun p => (blS p.1).bind fun k => if k then evE c ms r p.2 else some (.val (.bl false), p.2)
  | .disj a r, ρ => (evE c ms a ρ).bind fun p => (blS p.1).bind fun k => if k then some (.val (.bl true), p.2) else evE c ms r p.2
  | .cmp op a b, ρ => (evE c ms a ρ).bind fun p => (evE c ms b p.2).bind fun q => (cmpS op p.1 q.1).bind fun z => some (.val (.bl z), q.2)
  | .ite t a b, ρ => (evT c ms t ρ).bind fun p => if p.1 then evE c ms a p.2 else evE c ms b p.2
  | .idx a b, ρ => match ownVar a ρ with
    | some i => (evE c ms b ρ).bind fun q => (intS q.1).bind fun j => (getO q.2 i).bind fun ds => (atI ds j).bind fun d => some (.val d, q.2)
    | none => (evE c ms a ρ).bind fun p => (evE c ms b p.2).bind fun q => (intS q.1).bind fun j => (idxS (fixS p.1) j).bind fun z => some (z, q.2)
  | .sl a lo hi, ρ => (evE c ms a ρ).bind fun p => (evO c ms lo p.2).bind fun l => (evO c ms hi l.2).bind fun h =>
      (slS p.1 l.1 h.1).bind fun z => some (z, h.2)
  | .lst es, ρ => (evA c ms es ρ).bind fun p => chk (p.1.length ≤ sizeLine) (some (.own p.1, p.2))
  | .tup es, ρ => (evA c ms es ρ).bind fun p => chk (p.1.length ≤ sizeLine) (some (.val (.tup p.1), p.2))
  | .fn f a, ρ => match f, ownVar a ρ with
    | .len, some i => (getO ρ i).bind fun ds => some (.val (.int (ds.length : Nat)), ρ)
    | f, _ => (evE c ms a ρ).bind fun p => (fnS f p.1).bind fun z => some (z, p.2)
  | .isi a Ts, ρ => (evE c ms a ρ).bind fun p => chk (plainD (datS p.1) = true) (some (.val (.bl (isiL (datS p.1) Ts)), p.2))
  | .call f es, ρ => (evS c ms es ρ).bind fun q => callS c f q
  | .app i a, ρ => (getO ρ i).bind fun _ => (evE c ms a ρ).bind fun p => (toV p.1).bind fun d => (getO p.2 i).bind fun ds => chk (ds.length < sizeLine) (some (.val .non, p.2.set i (some (.own (ds ++ [d])))))
  | .ext i a, ρ => (getO ρ i).bind fun _ => (evE c ms a ρ).bind fun p => (toV p.1).bind fun d => (getO p.2 i).bind fun ds => match d with
    | .lst es => chk (ds.length + es.length ≤ sizeLine) (some (.val .non, p.2.set i (some (.own (ds ++ es)))))
    | _ => none
  | .pop i a, ρ => (getO ρ i).bind fun _ => (evE c ms a ρ).bind fun p => (intS p.1).bind fun j => (getO p.2 i).bind fun ds => chk (0 ≤ j ∧ j < 2 ^ 63) ((ds[j.toNat]?).bind fun d => some (.val d, p.2.set i (some (.own (ds.eraseIdx j.toNat)))))
  | .ins i a b, ρ => (getO ρ i).bind fun _ => (evE c ms a ρ).bind fun p => (intS p.1).bind fun j => (evE c ms b p.2).bind fun q => (toV q.1).bind fun d => (getO q.2 i).bind fun ds => chk (0 ≤ j ∧ j ≤ ds.length ∧ ds.length < sizeLine) (some (.val .non, q.2.set i (some (.own (ds.take j.toNat ++ d :: ds.drop j.toNat)))))
  | .rev i, ρ => (getO ρ i).bind fun ds => some (.val .non, ρ.set i (some (.own ds.reverse)))
  | .count a b, ρ => (evE c ms a ρ).bind fun p => (evE c ms b p.2).bind fun q => (seqS p.1).bind fun w => chk (flatD (datS q.1) = true ∧ w.2.all flatD = true) (some (.val (.int (w.2.countP (fun y => eqF y (datS q.1)) : Nat)), q.2))
  | .join a b, ρ => (evE c ms a ρ).bind fun p => (evE c ms b p.2).bind fun q => (strS p.1).bind fun t => (lstS q.1).bind fun ds => (strsOf ds).bind fun ss => chk ((ss.map (·.length)).sum + ss.length * t.length ≤ 16777216) (some (.val (.str (Txt.join t ss)), q.2))
  | .comp e w tg vs, ρ => (evW c ms w ρ).bind fun p => chk (p.1.m ≤ sizeLine ∧ vs.all (frB ms) = true) ((compL (fun t ρ' => (bindY tg (p.1.it t)).bind fun g => (evE c (maskE (g (wipeE ρ' vs))) e (g (wipeE ρ' vs))).bind fun q => (toV q.1).bind fun x => some (some x, mergeE 0 ρ' q.2 vs)) 0 p.1.m p.2 []).bind fun z => some (.own z.1, z.2))
  | .compI e t w tg vs, ρ => (evW c ms w ρ).bind fun p => chk (p.1.m ≤ sizeLine ∧ vs.all (frB ms) = true) ((compL (fun i ρ' => (bindY tg (p.1.it i)).bind fun g => (evT c (maskE (g (wipeE ρ' vs))) t (g (wipeE ρ' vs))).bind fun b => chk (b.2 = g (wipeE ρ' vs)) (
      if b.1 then (evE c (maskE (g (wipeE ρ' vs))) e (g (wipeE ρ' vs))).bind fun q => (toV q.1).bind fun x => some (some x, mergeE 0 ρ' q.2 vs) else some (none, mergeE 0 ρ' (g (wipeE ρ' vs)) vs))) 0 p.1.m p.2 []).bind fun z => some (.own z.1, z.2))
  | .dk0, ρ => some (.val (.dk [] []), ρ)
  | .comp2 e w w1 tg tg1 vs vs1, ρ => (evW c ms w ρ).bind fun p => chk (vs.all (frB ms) = true ∧ vs1.all (fun i => decide (i ∈ vs)) = true) ((pairL (fun t => (bindY tg (p.1.it t)).bind fun g => (evWF c w1 (noOwn (g (wipeE p.2 vs)))).bind fun q =>
      pairL (fun j => (bindY tg1 (q.it j)).bind fun g1 => (evE c [] e (g1 (wipeE (noOwn (g (wipeE p.2 vs))) vs1))).bind fun u => chk (u.2 = g1 (wipeE (noOwn (g (wipeE p.2 vs))) vs1)) ((toV u.1).bind fun d => some [d])) q.m) p.1.m).bind fun acc => chk (acc.length ≤ sizeLine) (some (.own acc, p.2)))
  | _, _ => none
noncomputable def evT (c : Cs) (ms : List Bool) : CE → DL.Env → Option (Bool × DL.Env)
  | .no a, ρ => (evT c ms a ρ).bind fun p => some (!p.1, p.2)
  | .one a, ρ => evT c ms a ρ
  | .bool a, ρ => evT c ms a ρ
  | .conj a r, ρ => (evT c ms a ρ).bind fun p => if p.1 then evT c ms r p.2 else some (false, p.2)
  | .disj a r, ρ => (evT c ms a ρ).bind fun p => if p.1 then some (true, p.2) else evT c ms r p.2
  | .cmp op a b, ρ => (evE c ms a ρ).bind fun p => (evE c ms b p.2).bind fun q => (cmpS op p.1 q.1).bind fun z => some (z, q.2)
  | .chain o1 o2 a b d, ρ => (evE c ms a ρ).bind fun p => (evE c ms b p.2).bind fun q => (cmpD o1 (datS p.1) (datS q.1)).bind fun z => if z then (evE c ms d q.2).bind fun w => chk (w.2 = q.2) ((cmpD o2 (datS q.1) (datS w.1)).bind fun y => some (y, q.2)) else some (false, q.2)
  | .var i, ρ => match ρ[i]? with
    | some (some (.v _ (.bl b))) => some (b, ρ)
    | some (some (.v _ (.lst ds))) => some (!ds.isEmpty, ρ)
    | some (some (.own ds)) => some (!ds.isEmpty, ρ)
    | _ => none
  | .nem i, ρ => match ρ[i]? with
    | some (some (.own ds)) => some (!ds.isEmpty, ρ)
    | some (some (.v _ d)) => (eqX d (.lst [])).bind fun z => some (!z, ρ)
    | _ => none
  | .fn f a, ρ => (evE c ms a ρ).bind fun p => (fnS f p.1).bind fun z => (blS z).bind fun b => some (b, p.2)
  | .isi a Ts, ρ => (evE c ms a ρ).bind fun p => chk (plainD (datS p.1) = true) (some (isiL (datS p.1) Ts, p.2))
  | .call f es, ρ => (evS c ms es ρ).bind fun q => (callS c f q).bind fun p => (blS p.1).bind fun b => some (b, p.2)
  | _, _ => none
noncomputable def evO (c : Cs) (ms : List Bool) : CE → DL.Env → Option (Option Int × DL.Env)
  | .nil, ρ => some (none, ρ)
  | .one a, ρ => (evE c ms a ρ).bind fun p => (intS p.1).bind fun i => some (some i, p.2)
  | _, _ => none
noncomputable def evA (c : Cs) (ms : List Bool) : CE → DL.Env → Option (List D × DL.Env)
  | .nil, ρ => some ([], ρ)
  | .cons a r, ρ => (evE c ms a ρ).bind fun p => (toV p.1).bind fun d => (evA c ms r p.2).bind fun q => some (d :: q.1, q.2)
  | .star a r, ρ => (evE c ms a ρ).bind fun p => (itemsS p.1).bind fun ds => (evA c ms r p.2).bind fun q => some (ds ++ q.1, q.2)
  | _, _ => none
noncomputable def evS (c : Cs) (ms : List Bool) : CE → DL.Env → Option (List ArgS × DL.Env)
  | .nil, ρ => some ([], ρ)
  | .cons a r, ρ => match ownVar a ρ with
    | some i => (evS c ms r ρ).bind fun q => some (.var i :: q.1, q.2)
    | none => (evE c ms a ρ).bind fun p => (evS c ms r p.2).bind fun q => some (argOf p.1 :: q.1, q.2)
  | _, _ => none
noncomputable def evW (c : Cs) (ms : List Bool) : CE → DL.Env → Option (Wk × DL.Env)
  | .wrange a, ρ => (evE c ms a ρ).bind fun p => (intS p.1).bind fun h => chk (-(2 ^ 62) ≤ h ∧ h < 2 ^ 62) (some (⟨h.toNat, fun t => .one (.val (.int (t : Int)))⟩, p.2))
  | .wrange2 a b, ρ => (evE c ms a ρ).bind fun p => (evE c ms b p.2).bind fun q => (intS p.1).bind fun l => (intS q.1).bind fun h => chk (-(2 ^ 62) ≤ l ∧ l < 2 ^ 62 ∧ -(2 ^ 62) ≤ h ∧ h < 2 ^ 62) (some (⟨(h - l).toNat, fun t => .one (.val (.int (l + (t : Int))))⟩, q.2))
  | .wzip a b, ρ => (evE c ms a ρ).bind fun p => (evE c ms b p.2).bind fun q => (seqS p.1).bind fun x => (seqS q.1).bind fun y => some (⟨min x.2.length y.2.length, fun t => .two true (x.2.getD t .non) true (y.2.getD t .non)⟩, q.2)
  | .wenum a, ρ => (evE c ms a ρ).bind fun p => (seqS p.1).bind fun x => some (⟨x.2.length, fun t => .two true (.int (t : Int)) true (x.2.getD t .non)⟩, p.2)
  | .one a, ρ => (evE c ms a ρ).bind fun p => (wkS p.1).bind fun w => some (w, p.2)
  | _, _ => none
noncomputable def evWF (c : Cs) : CE → DL.Env → Option Wk
  | .wrange a, ρ => (evE c [] a ρ).bind fun p => chk (p.2 = ρ) ((intS p.1).bind fun h => chk (-(2 ^ 62) ≤ h ∧ h < 2 ^ 62) (some ⟨h.toNat, fun t => .one (.val (.int (t : Int)))⟩))
  | .one a, ρ => (evE c [] a ρ).bind fun p => chk (p.2 = ρ) (wkF p.1)
  | _, _ => none
end
end RL
/-! RL1: how a text is put into these forms. -/
namespace RL
open PySem L2 DL PyProof.Rows PySem.W
structure Ga where
  N : List Str
  sc : Scope
  top : Bool
  cst : Str → Option D
  fns : Str → Option (Nat × List Str)
  cls : Str → Option Nat
  cl : Str → Bool := fun _ => false
def visB (sc : Scope) (n : Str) : Bool := match sc.names.lookup n with
  | some .local => true
  | some .cell => true
  | some .free => true
  | _ => false
def glB (sc : Scope) (n : Str) : Bool := match sc.names.lookup n with
  | some .globalImplicit => true
  | _ => false
def stB (Γ : Ga) (n : Str) : Bool := match Γ.sc.names.lookup n with
  | some .local => true
  | some .cell => Γ.top || Γ.cl n
  | _ => false
def okN (n : Str) : Bool := !(n == ("__debug__" : Str)) && !(n == ("__classdict__" : Str))
def ixOf (N : List Str) (n : Str) : Option Nat := N.findIdx? (fun y => decide (y = n))
def cVar (Γ : Ga) (n : Str) : Option Nat := if visB Γ.sc n && okN n then ixOf Γ.N n else none
def nsB : Expr → Bool
  | .Starred .. => false
  | _ => true
def plainB : Expr → Bool
  | .Slice .. => false
  | .Tuple .. => false
  | .Starred .. => false
  | _ => true
def cList (f : Expr → Option CE) : List Expr → Option CE
  | [] => some .nil
  | e :: es => if nsB e then (f e).bind fun a => (cList f es).bind fun r => some (.cons a r) else none
def cDisp (f : Expr → Option CE) : List Expr → Option CE
  | [] => some .nil
  | .Starred e _ :: es => (f e).bind fun a => (cDisp f es).bind fun r => some (.star a r)
  | e :: es => (f e).bind fun a => (cDisp f es).bind fun r => some (.cons a r)
def cConj (f : Expr → Option CE) : List Expr → Option CE
  | [] => none
  | [e] => (f e).map .one
  | e :: es => (f e).bind fun a => (cConj f es).bind fun r => some (.conj a r)
def cDisj (f : Expr → Option CE) : List Expr → Option CE
  | [] => none
  | [e] => (f e).map .one
  | e :: es => (f e).bind fun a => (cDisj f es).bind fun r => some (.disj a r)
def cOpt (f : Expr → Option CE) : Option Expr → Option CE
  | none => some .nil
  | some e => (f e).map .one
def tyN (n : Str) : Option String :=
  if n = "int" then some "int" else if n = "str" then some "str" else if n = "bool" then some "bool" else if n = "list" then some "list" else if n = "tuple" then some "tuple" else if n = "dict" then some "dict" else none
def bfN (n : Str) : Option Bf :=
  if n = "len" then some .len else if n = "int" then some .int else if n = "str" then some .str else if n = "list" then some .list else if n = "tuple" then some .tuple else if n = "sum" then some .sum
  else if n = "all" then some .all else if n = "any" then some .any else if n = "sorted" then some .sorted else none
def cOwn (N : List Str) (sc : Scope) : List (Str × Nat) := sc.names.filterMap fun p => if p.2 = .local ∨ p.2 = .cell then (ixOf N p.1).map fun i => (p.1, i) else none
def cTgs (Γ : Ga) : List Expr → Option (List Nat)
  | [] => some []
  | .Name x _ :: es => if stB Γ x then (ixOf Γ.N x).bind fun i => (cTgs Γ es).bind fun r => some (i :: r) else none
  | _ => none
def cTgt (Γ : Ga) : Expr → Option Tgt
  | .Name x _ => if stB Γ x then (ixOf Γ.N x).map .nm else none
  | .Tuple es _ _ => (cTgs Γ es).map .tp
  | _ => none
def isTup : Expr → Bool
  | .Tuple .. => true
  | _ => false
def cWalk (f : Expr → Option CE) (sc : Scope) (tg : Expr) : Expr → Option CE
  | .Call (.Name g p) [a] [] pos =>
    if g = "range" then (if glB sc g && nsB a then (f a).map .wrange else none)
    else if g = "enumerate" then (if glB sc g && nsB a && isTup tg then (f a).map .wenum else none)
    else (f (.Call (.Name g p) [a] [] pos)).map .one
  | .Call (.Name g p) [a, b] [] pos =>
    if g = "zip" then (if glB sc g && nsB a && nsB b && isTup tg then (f a).bind fun a' => (f b).bind fun b' => some (.wzip a' b') else none)
    else if g = "range" then (if glB sc g && nsB a && nsB b then (f a).bind fun a' => (f b).bind fun b' => some (.wrange2 a' b') else none) else (f (.Call (.Name g p) [a, b] [] pos)).map .one
  | .Set .. => none
  | e => (f e).map .one
def kwNames (kws : List Keyword) : List (Option Str) := kws.map fun k => k.arg
def kwVals (kws : List Keyword) : List Expr := kws.map fun k => k.value
def recvB : Expr → Bool
  | .Call .. => false
  | _ => true
def cOwnVar (Γ : Ga) : Expr → Option Nat
  | .Name x _ => cVar Γ x
  | _ => none
/-- o.m(es), of built-in kinds -/
def cMeth (f : Expr → Option CE) (Γ : Ga) (o : Expr) (m : Str) (es : List Expr) : Option CE :=
  match es with
  | [] => if m = "reverse" then (cOwnVar Γ o).map .rev else none
  | [a] => if nsB a then (
      if m = "append" then (cOwnVar Γ o).bind fun i => (f a).map (.app i)
      else if m = "extend" then (cOwnVar Γ o).bind fun i => (f a).map (.ext i)
      else if m = "pop" then (cOwnVar Γ o).bind fun i => (f a).map (.pop i)
      else if m = "count" then (if recvB o then (f o).bind fun o' => (f a).map (.count o') else none)
      else if m = "join" then (if recvB o then (f o).bind fun o' => (f a).map (.join o') else none)
      else none) else none
  | [a, b] => if nsB a && nsB b && decide (m = "insert") then (cOwnVar Γ o).bind fun i => (f a).bind fun a' => (f b).map fun b' => .ins i a' b' else none
  | _ => none
def cCall (f : Expr → Option CE) (Γ : Ga) (g : Str) (es : List Expr) (kws : List Keyword) : Option CE :=
  if glB Γ.sc g && okN g then
    match Γ.fns g with
    | some (j, ps) =>
      match es, kws with
      | [], kws => if !kws.isEmpty && decide (kwNames kws = ps.map some) then (cList f (kwVals kws)).map (.call j) else none
      | es, [] => (cList f es).map (.call j)
      | _, _ => none
    | none =>
      match es, kws with
      | [.Call (.Name h p) [b] [] q], [] =>
        if g = "len" ∧ h = "set" then (if glB Γ.sc h && nsB b then (f b).map (.fn .lenSet) else none)
        else (bfN g).bind fun b' => (f (.Call (.Name h p) [b] [] q)).map (.fn b')
      | [a], [] => if nsB a then (bfN g).bind fun b => (f a).map (.fn b) else none
      | [a, .Name n _], [] => if g = "isinstance" then (if nsB a && glB Γ.sc n then (tyN n).bind fun T => (f a).map fun a' => .isi a' [T] else none) else none
      | [a, .Tuple [.Name n _, .Name n2 _] _ _], [] => if g = "isinstance" then (if nsB a && glB Γ.sc n && glB Γ.sc n2 then (tyN n).bind fun T => (tyN n2).bind fun T2 => (f a).map fun a' => .isi a' [T, T2] else none) else none
      | _, _ => none
  else none
def compE : Nat → Ga → Expr → Option CE
  | 0, _, _ => none
  | n + 1, Γ, e => match e with
    | .Constant (.int i) _ _ => some (.cst (.int i))
    | .Constant (.str i) _ _ => some (.cst (.str i))
    | .Constant (.bool i) _ _ => some (.cst (.bl i))
    | .Constant .none _ _ => some (.cst .non)
    | .Name x _ => if visB Γ.sc x then (cVar Γ x).map .var else if glB Γ.sc x && okN x then (Γ.cst x).map .cst else none
    | .BinOp a op b _ => (compE n Γ a).bind fun a' => (compE n Γ b).bind fun b' => some (.bin op a' b')
    | .UnaryOp .Not a _ => (compE n Γ a).map .no
    | .UnaryOp .USub a _ => (compE n Γ a).map .neg
    | .BoolOp .And es _ => cConj (compE n Γ) es
    | .BoolOp .Or es _ => cDisj (compE n Γ) es
    | .Compare (.Name x _) [.NotEq] [.List [] _] _ => if visB Γ.sc x then (cVar Γ x).map .nem else none
    | .Compare a [op] [b] _ => if behindInMarks op b then none else (compE n Γ a).bind fun a' => (compE n Γ b).bind fun b' => some (.cmp op a' b')
    | .Compare a [o1, o2] [b, d] _ => if lastMarks [o1, o2] [b, d] then none else (compE n Γ a).bind fun a' => (compE n Γ b).bind fun b' => (compE n Γ d).bind fun d' => some (.chain o1 o2 a' b' d')
    | .IfExp t a b _ => (compE n Γ t).bind fun t' => (compE n Γ a).bind fun a' => (compE n Γ b).bind fun b' => some (.ite t' a' b')
    | .Subscript a (.Slice lo hi none _) _ => (compE n Γ a).bind fun a' => (cOpt (compE n Γ) lo).bind fun l => (cOpt (compE n Γ) hi).bind fun h => some (.sl a' l h)
    | .Subscript a b _ => if plainB b then (compE n Γ a).bind fun a' => (compE n Γ b).bind fun b' => some (.idx a' b') else none
    | .Dict [] [] _ => some .dk0
    | .List es _ => (cDisp (compE n Γ) es).map .lst
    | .Tuple es _ _ => (cDisp (compE n Γ) es).map .tup
    | .ListComp elt [⟨tg, it, ifs, ia⟩] sc _ =>
      if ia = 0 ∧ DL.blkC Γ.N Γ.sc sc (cOwn Γ.N sc) = true then
        (cWalk (compE n Γ) Γ.sc tg it).bind fun w => (cTgt { Γ with sc := relS sc Γ.sc, top := false, cl := fun x => sc.names.lookup x == some .cell } tg).bind fun g => (compE n { Γ with sc := relS sc Γ.sc, top := false, cl := fun x => sc.names.lookup x == some .cell } elt).bind fun e' =>
        if g.ix.all (fun i => decide (i ∈ (cOwn Γ.N sc).map (·.2))) then
          match ifs with
          | [] => some (.comp e' w g ((cOwn Γ.N sc).map (·.2)))
          | [t] => (compE n { Γ with sc := relS sc Γ.sc, top := false, cl := fun x => sc.names.lookup x == some .cell } t).bind fun t' => some (.compI e' t' w g ((cOwn Γ.N sc).map (·.2)))
          | _ => none
        else none
      else none
    | .ListComp elt [⟨tg, it, [], ia⟩, ⟨tg1, it1, [], ib⟩] sc _ =>
      if ia = 0 ∧ ib = 0 ∧ DL.blkC Γ.N Γ.sc sc (cOwn Γ.N sc) = true then
        (cWalk (compE n Γ) Γ.sc tg it).bind fun w => (cTgt { Γ with sc := relS sc Γ.sc, top := false, cl := fun x => sc.names.lookup x == some .cell } tg).bind fun g => (cWalk (compE n { Γ with sc := relS sc Γ.sc, top := false, cl := fun x => sc.names.lookup x == some .cell }) (relS sc Γ.sc) tg1 it1).bind fun w1 =>
        (cTgt { Γ with sc := relS sc Γ.sc, top := false, cl := fun x => sc.names.lookup x == some .cell } tg1).bind fun g1 => (compE n { Γ with sc := relS sc Γ.sc, top := false, cl := fun x => sc.names.lookup x == some .cell } elt).bind fun e' =>
        if g.ix.all (fun i => decide (i ∈ (cOwn Γ.N sc).map (·.2))) then some (.comp2 e' w w1 g g1 ((cOwn Γ.N sc).map (·.2)) g1.ix) else none
      else none
    | .Call (.Name g _) es kws _ => cCall (compE n Γ) Γ g es kws
    | .Call (.Attribute o m ap) es [] cp => if ap.endLine == cp.line then cMeth (compE n Γ) Γ o m es else none
    | _ => none
end RL
/-! RL2: what the forms do is what the text does (expressions). -/
namespace RL
open PySem L2 DL PyProof.Rows PySem.W
/-! ### looks -/
theorem visB_ok {sc : Scope} {n : Str} (h : visB sc n = true) : Vis sc n := by
  unfold visB at h
  unfold Vis
  split at h
  · rename_i e; exact .inl e
  · rename_i e; exact .inr (.inl e)
  · rename_i e; exact .inr (.inr e)
  · cases h
theorem glB_ok {sc : Scope} {n : Str} (h : glB sc n = true) : sc.names.lookup n = some .globalImplicit := by
  unfold glB at h
  split at h
  · rename_i e; exact e
  · cases h
theorem okN_ok {n : Str} (h : okN n = true) : (n == ("__debug__" : Str)) = false ∧ (n == ("__classdict__" : Str)) = false := by
  unfold okN at h
  simp only [Bool.and_eq_true, Bool.not_eq_true'] at h
  exact h
theorem ixOf_ok {N : List Str} {n : Str} {i : Nat} (h : ixOf N n = some i) : N[i]? = some n := by
  unfold ixOf at h
  obtain ⟨h1, h2, _⟩ := List.findIdx?_eq_some_iff_getElem.mp h
  rw [List.getElem?_eq_getElem h1, of_decide_eq_true h2]
theorem cVar_ok {Γ : Ga} {n : Str} {i : Nat} (h : cVar Γ n = some i) : Γ.N[i]? = some n ∧ Vis Γ.sc n ∧ (n == ("__debug__" : Str)) = false ∧ (n == ("__classdict__" : Str)) = false := by
  unfold cVar at h
  split at h
  · rename_i hc
    rw [Bool.and_eq_true] at hc
    exact ⟨ixOf_ok h, visB_ok hc.1, okN_ok hc.2⟩
  · cases h
theorem star_ns {a : Expr} {xs : List Expr} {env : PySem.Env} (h : nsB a = true) : starEach (a :: xs) env = (false, eval a env) :: starEach xs env := by
  cases a <;> first | rfl | (cases h; done)
theorem any_ns {pos : Pos} {env : PySem.Env} : ∀ {xs : List Expr}, xs.all nsB = true → (backTo pos (starEach xs env)).any (·.1) = false
  | [], _ => rfl
  | a :: xs, h => by
    rw [List.all_cons, Bool.and_eq_true] at h
    rw [star_ns h.1]
    have := any_ns (pos := pos) (env := env) h.2
    unfold backTo at this ⊢
    rw [List.map_cons, List.any_cons, this]; rfl
theorem any_nil {pos : Pos} {env : PySem.Env} : (backTo pos (starEach [] env)).any (·.1) = false := rfl
theorem plain_ok {b : Expr} (h : plainB b = true) : PlainIx b := by
  intro o i
  cases b <;> first | rfl | (cases h; done)
theorem recv_ok {o : Expr} {m : Str} {env : PySem.Env} (h : recvB o = true) : attributeBase o m env (eval o env) = eval o env := by
  cases o <;> first | rfl | (cases h; done)
theorem few_ok {a : Expr} {cpos : Pos} {env : PySem.Env} (h : nsB a = true) : ((backTo cpos (starEach [a] env)).all (fun x => !x.1) && (backToKw cpos (keywordEach [] env)).all (fun x => x.1.isSome) && decide ([a].length + ([] : List Keyword).length + (if ([] : List Keyword).isEmpty then 0 else 1) < 30)) = true := by
  rw [star_ns h]; rfl
theorem tyN_ok {n : Str} {T : String} (h : tyN n = some T) : bootBuiltins n = some (.type T) ∧ T ∈ ["int", "str", "bool", "list", "tuple", "dict"] ∧ n ≠ "__name__" ∧ (n == ("__debug__" : Str)) = false := by
  unfold tyN at h
  repeat' split at h
  all_goals first
    | (cases h; done)
    | (injection h with h; subst h; rename_i e; subst e; exact ⟨by first | exact boot_int | exact boot_str | exact boot_list | exact boot_tuple | rfl, by decide, by decide, by decide⟩)
/-! ### the program around -/
def bltN : List Str := ["len", "int", "str", "list", "tuple", "sum", "all", "any", "sorted", "set", "isinstance", "range", "zip", "enumerate", "bool", "dict"]
structure Mo where
  P : Program
  w : World
  K : PySem.W.Frag
  mg : Str → Option Value
  base : Heap
structure Mo.Ok (M : Mo) : Prop where
  blt : ∀ n ∈ bltN, M.mg n = none
structure OkX (M : Mo) (tab : Nat → Option (Str × List Str)) (Γ : Ga) (j : Nat) (X : Cx) : Prop where
  m : M.Ok
  prog : X.prog = M.P
  w : X.w = M.w
  K : X.K = M.K
  mg : X.mg = M.mg
  base : X.base = M.base
  N : X.N = Γ.N
  sc : X.env.scope = Γ.sc
  calm : X.calm = true
  nd : Γ.N.Nodup
  room : Room j X.A
  fn : Γ.top = true → ∀ x, X.fn x = true
  fnc : ∀ x, Γ.cl x = true → X.fn x = true
  fns : ∀ x i ps, Γ.fns x = some (i, ps) → tab i = some (x, ps)
  cst : ∀ x d, Γ.cst x = some d → ∃ v u, M.mg x = some u ∧ RelV v u ∧ ∀ F, Rep M.K F d v
def CalOk (M : Mo) (tab : Nat → Option (Str × List Str)) (j : Nat) (c : Cs) : Prop :=
  ∀ f args r outs, c.C f args = some (r, outs) → ∃ x ps, tab f = some (x, ps) ∧ CalD M.P M.w M.K M.mg M.base j x ps (spD M.K args r outs) ∧ ResOk r ∧ OwnTo outs args
def MsOk (G : Gx) (ms : List Bool) : Prop := ∀ i, frB ms i = true → G.ms[i]? ≠ some true
theorem msOk_mask {F1 H1 : Hp} {ws : List V} {ρ : DL.Env} : MsOk ⟨F1, H1, ws, maskE ρ⟩ (maskE ρ) := fun i h e => by
  unfold frB at h
  have e : (maskE ρ)[i]? = some true := e
  rw [List.getD_eq_getElem?_getD, e] at h
  cases h
section
variable {M : Mo} {tab : Nat → Option (Str × List Str)} {Γ : Ga} {j : Nat} {X : Cx}
theorem OkX.blk (o : OkX M tab Γ j X) (s : Shared) (H : Hp) (scope : Scope) (cl : List (Str × Addr)) (C : Addr) (fp : List Addr) : OkX M tab { Γ with sc := relS scope Γ.sc, top := false, cl := fun x => scope.names.lookup x == some .cell } j (X.blk s H scope (compEnvC scope cl C X.env) fp) where
  m := o.m
  prog := o.prog
  w := o.w
  K := o.K
  mg := o.mg
  base := o.base
  N := o.N
  sc := by
    show relS scope X.env.scope = relS scope Γ.sc
    rw [o.sc]
  calm := o.calm
  nd := o.nd
  room := o.room
  fn := fun h => by cases h
  fnc := fun x h => h
  fns := o.fns
  cst := o.cst
theorem OkX.gl (o : OkX M tab Γ j X) {n : Str} (h : glB Γ.sc n = true) : Gl X n := by
  unfold Gl PySem.Env.kindOf
  rw [o.sc]; exact glB_ok h
theorem OkX.blt (o : OkX M tab Γ j X) {n : Str} (h : n ∈ bltN) : X.mg n = none := by rw [o.mg]; exact o.m.blt n h
theorem OkX.var (o : OkX M tab Γ j X) {n : Str} {i : Nat} (h : cVar Γ n = some i) : X.N[i]? = some n ∧ Vis X.env.scope n ∧ (n == ("__debug__" : Str)) = false ∧ (n == ("__classdict__" : Str)) = false := by
  rw [o.N, o.sc]; exact cVar_ok h
end
def SE (M : Mo) (tab : Nat → Option (Str × List Str)) (Γ : Ga) (e : Expr) (a : CE) : Prop :=
  ∀ (X : Cx) (j : Nat) (G : Gx) (c : Cs) (ms : List Bool) (ρ ρ' : DL.Env) (r : Slot), OkX M tab Γ j X → CalOk M tab j c → MsOk G ms → evE c ms a ρ = some (r, ρ') → ED X G e ρ ρ' r
def ST (M : Mo) (tab : Nat → Option (Str × List Str)) (Γ : Ga) (e : Expr) (a : CE) : Prop :=
  ∀ (X : Cx) (j : Nat) (G : Gx) (c : Cs) (ms : List Bool) (ρ ρ' : DL.Env) (r : Bool), OkX M tab Γ j X → CalOk M tab j c → MsOk G ms → evT c ms a ρ = some (r, ρ') → ET X G e ρ ρ' r
section
variable {X : Cx} {G : Gx} {e a b d : Expr} {ρ ρ' ρ1 ρ2 ρ3 : DL.Env} {r s z s1 s2 : Slot} {x y w : D} {ds es : List D} {pos p p2 : Pos} {k l k1 k2 k3 : Bool} {n : Str} {xs rest : List Expr} {i j : Nat}
theorem bind_some' {α β : Type} {o : Option α} {f : α → Option β} {y : β} (h : o.bind f = some y) : ∃ x, o = some x ∧ f x = some y := Option.bind_eq_some_iff.mp h
theorem toV_ok (h : toV s = some x) : ToV s x := by
  unfold toV at h
  split at h
  · split at h
    · injection h with h; subst h
      rename_i k d hc
      rcases hc with rfl | hc
      · exact .val
      · exact .sc hc
    · cases h
  · injection h with h; subst h; exact .own
theorem ed_fixS (h : ED X G e ρ ρ' s) : ED X G e ρ ρ' (fixS s) := by
  cases s with
  | v k d => exact h
  | own ds => exact ed_fix h
theorem ed_dat (h : ED X G e ρ ρ' s) : ∃ k, ED X G e ρ ρ' (.v k (datS s)) := by
  cases s with
  | v k d => exact ⟨k, h⟩
  | own ds => exact ⟨true, ed_fix h⟩
theorem ed_intS {i : Int} (h : ED X G e ρ ρ' s) (q : intS s = some i) : ∃ k, ED X G e ρ ρ' (.v k (.int i)) := by
  unfold intS at q
  split at q
  · injection q with q; subst q; exact ⟨_, h⟩
  · cases q
theorem ed_strS {i : Str} (h : ED X G e ρ ρ' s) (q : strS s = some i) : ∃ k, ED X G e ρ ρ' (.v k (.str i)) := by
  unfold strS at q
  split at q
  · injection q with q; subst q; exact ⟨_, h⟩
  · cases q
theorem ed_blS {i : Bool} (h : ED X G e ρ ρ' s) (q : blS s = some i) : ∃ k, ED X G e ρ ρ' (.v k (.bl i)) := by
  unfold blS at q
  split at q
  · injection q with q; subst q; exact ⟨_, h⟩
  · cases q
theorem eqS_ok {k : Bool} (h : eqS x y = some k) : CmpD .Eq x y k := by
  unfold eqS at h
  split at h <;> first | (cases h; done) | (injection h with h; subst h; constructor)
theorem cmpD_ok {op : CmpOp} {k : Bool} (h : cmpD op x y = some k) : CmpD op x y k := by
  unfold cmpD at h
  split at h
  · exact eqS_ok h
  · obtain ⟨k', h1, rfl⟩ := Option.map_eq_some_iff.mp h
    cases eqS_ok h1 <;> constructor
  · split at h
    · unfold cmpI at h
      split at h <;> first | (cases h; done) | (injection h with h; subst h; constructor)
    · cases h
theorem op_fdvW {X : Cx} : OpR X (binaryOp .FloorDiv) (rI CDvW fun i j => .int (i.fdiv j)) := opI fun _ _ _ _ _ _ _ hc q => floordiv_int hc.1 q (.inl (PyProof.noPylong_of_log2 hc.2))
theorem reps_rep {K : PySem.W.Frag} {F : Hp} {vs : List V} (h : Reps K F ds vs) : ∀ n : Nat, Reps K F (List.replicate n ds).flatten (List.replicate n vs).flatten
  | 0 => .nil
  | n + 1 => by
    rw [List.replicate_succ, List.replicate_succ, List.flatten_cons, List.flatten_cons]
    exact h.append (reps_rep h n)
theorem ed_mul_ok (ha : ED X G a ρ ρ1 s1) (hb : ED X G b ρ1 ρ2 s2) (h : mulS s1 s2 = some z) : ED X G (.BinOp a .Mult b pos) ρ ρ2 z := by
  unfold mulS at h
  split at h
  · obtain ⟨h1, h⟩ := chk_some h
    injection h with h; subst h
    rcases h1 with h1 | h1
    · exact ed_mul ha hb h1
    · exact ed_bin (fun h1 h2 => pe_op op_mulX h1 h2) ha hb (vr_I (C := CMulX) h1 fun _ => rep_int.mpr rfl)
  · rename_i ds kk n
    obtain ⟨⟨h1, h2, h3⟩, h⟩ := chk_some h
    injection h with h; subst h
    exact pe_mono (pe_op op_rep ha hb) fun σ H Q ⟨F, E, q⟩ => ⟨F, E, fun F1 H1 v e1 E1 r1 => by
      obtain ⟨a, vs, rfl, g2, g3, g4, g5, g6⟩ := r1
      refine ⟨upd F1 a (.lst vs), E1.fix g2 g3 g4 g6, fun F2 H2 u e2 E2 r2 => ?_⟩
      have e3 : Ext F1 F2 := (Ext.lay g3).trans e2
      exact ⟨a, n, vs, rfl, of_int r2, E2.sub _ _ (e2 _ _ upd_same), h1, h2, by rw [g5.length]; exact h3, fun l hl => q F2 _ _ (e1.trans e3) (E2.lay0 hl) (E2.newL hl (reps_rep (Reps.mono e3 _ _ g5) _))⟩⟩
  · cases h
theorem ed_bin_ok {op : Operator} (ha : ED X G a ρ ρ1 s1) (hb : ED X G b ρ1 ρ2 s2) (h : binS op s1 s2 = some z) : ED X G (.BinOp a op b pos) ρ ρ2 z := by
  unfold binS at h
  split at h
  · rename_i a' b'
    have ha' := ed_fixS ha
    have hb' := ed_fixS hb
    refine ed_add ha' hb' ?_
    revert h
    generalize fixS s1 = t1
    generalize fixS s2 = t2
    intro h
    unfold addS at h
    split at h
    · injection h with h; subst h; exact .int
    · obtain ⟨h1, h2⟩ := chk_some h
      injection h2 with h2; subst h2; exact .str h1
    · obtain ⟨h1, h2⟩ := chk_some h
      injection h2 with h2; subst h2; exact .lst h1
    · cases h
  · obtain ⟨i, hi, h⟩ := bind_some' h
    obtain ⟨j, hj, h⟩ := bind_some' h
    obtain ⟨_, ha'⟩ := ed_intS ha hi
    obtain ⟨_, hb'⟩ := ed_intS hb hj
    injection h with h; subst h; exact ed_sub ha' hb'
  · exact ed_mul_ok ha hb h
  · obtain ⟨i, hi, h⟩ := bind_some' h
    obtain ⟨j, hj, h⟩ := bind_some' h
    obtain ⟨_, ha'⟩ := ed_intS ha hi
    obtain ⟨_, hb'⟩ := ed_intS hb hj
    rcases Option.or_eq_some_iff.mp h with h | ⟨_, h⟩
    · obtain ⟨h1, h⟩ := chk_some h
      injection h with h; subst h; exact ed_fdiv ha' hb' h1
    · obtain ⟨h1, h⟩ := chk_some h
      injection h with h; subst h
      exact ed_bin (fun h1 h2 => pe_op op_fdvW h1 h2) ha' hb' (vr_I (C := CDvW) h1 fun _ => rep_int.mpr rfl)
  · obtain ⟨i, hi, h⟩ := bind_some' h
    obtain ⟨j, hj, h⟩ := bind_some' h
    obtain ⟨_, ha'⟩ := ed_intS ha hi
    obtain ⟨_, hb'⟩ := ed_intS hb hj
    obtain ⟨h1, h⟩ := chk_some h
    injection h with h; subst h; exact ed_mod ha' hb' h1
  · obtain ⟨i, hi, h⟩ := bind_some' h
    obtain ⟨j, hj, h⟩ := bind_some' h
    obtain ⟨_, ha'⟩ := ed_intS ha hi
    obtain ⟨_, hb'⟩ := ed_intS hb hj
    obtain ⟨h1, h⟩ := chk_some h
    injection h with h; subst h; exact ed_pow ha' hb' h1
  · cases h
/-- and, or: the parts behind may change the frame -/
theorem ew_andT (ha : ET X G a ρ ρ1 true) (hb : EW X G (.BoolOp .And (b :: rest) pos) ρ1 ρ2 l) : EW X G (.BoolOp .And (a :: b :: rest) pos) ρ ρ2 l := by
  refine pw_mono (pw_and ha hb) fun σ H Q ⟨F, E, q⟩ => ⟨F, E, fun F1 H1 e1 E1 => ?_⟩
  show tDT X.K G ρ1 ρ2 l σ H1 Q
  exact ⟨F1, E1, fun F2 H2 e2 E2 => q F2 H2 (e1.trans e2) E2⟩
theorem ew_andF (ha : ET X G a ρ ρ1 false) : EW X G (.BoolOp .And (a :: b :: rest) pos) ρ ρ1 false := by
  refine pw_mono (pw_and (tB' := fun _ _ _ => False) ha ⟨fun _ _ _ _ _ _ _ h => h.elim⟩) fun σ H Q ⟨F, E, q⟩ => ⟨F, E, fun F1 H1 e1 E1 => ?_⟩
  show Q false H1
  exact q F1 H1 e1 E1
theorem ew_orF (ha : ET X G a ρ ρ1 false) (hb : EW X G (.BoolOp .Or (b :: rest) pos) ρ1 ρ2 l) : EW X G (.BoolOp .Or (a :: b :: rest) pos) ρ ρ2 l := by
  refine pw_mono (pw_or ha hb) fun σ H Q ⟨F, E, q⟩ => ⟨F, E, fun F1 H1 e1 E1 => ?_⟩
  show tDT X.K G ρ1 ρ2 l σ H1 Q
  exact ⟨F1, E1, fun F2 H2 e2 E2 => q F2 H2 (e1.trans e2) E2⟩
theorem ew_orT (ha : ET X G a ρ ρ1 true) : EW X G (.BoolOp .Or (a :: b :: rest) pos) ρ ρ1 true := by
  refine pw_mono (pw_or (tB' := fun _ _ _ => False) ha ⟨fun _ _ _ _ _ _ _ h => h.elim⟩) fun σ H Q ⟨F, E, q⟩ => ⟨F, E, fun F1 H1 e1 E1 => ?_⟩
  show Q true H1
  exact q F1 H1 e1 E1
end
end RL
/-! RL3: single steps. -/
namespace RL
open PySem L2 DL PyProof.Rows PySem.W
section
variable {M : Mo} {tab : Nat → Option (Str × List Str)} {Γ : Ga} {jr : Nat}
variable {X : Cx} {G : Gx} {e a b d o : Expr} {ρ ρ' ρ1 ρ2 ρ3 : DL.Env} {r s z s1 s2 : Slot} {x y w : D} {ds es : List D} {pos p p2 apos cpos : Pos} {k l k1 k2 k3 : Bool} {n : Str} {xs rest : List Expr} {i j : Nat}
theorem ed_andT (ha : ED X G a ρ ρ1 (.v k1 (.bl true))) (hb : ED X G (.BoolOp .And (b :: rest) pos) ρ1 ρ2 z) : ED X G (.BoolOp .And (a :: b :: rest) pos) ρ ρ2 z := by
  refine pe_mono (pe_and ha hb) fun σ H Q ⟨F, E, q⟩ => ⟨F, E, fun F1 H1 v e1 E1 r1 => ⟨true, of_bl r1, ?_⟩⟩
  show tD X.K G ρ1 ρ2 z σ H1 Q
  exact ⟨F1, E1, fun F2 H2 w e2 E2 r2 => q F2 H2 w (e1.trans e2) E2 r2⟩
theorem ed_andF (ha : ED X G a ρ ρ1 (.v k1 (.bl false))) : ED X G (.BoolOp .And (a :: b :: rest) pos) ρ ρ1 (.val (.bl false)) := by
  refine pe_mono (pe_and ha pe_false) fun σ H Q ⟨F, E, q⟩ => ⟨F, E, fun F1 H1 v e1 E1 r1 => ⟨false, of_bl r1, ?_⟩⟩
  show Q (.bl false) H1
  exact q F1 H1 _ e1 E1 sr_bl
theorem ed_orF (ha : ED X G a ρ ρ1 (.v k1 (.bl false))) (hb : ED X G (.BoolOp .Or (b :: rest) pos) ρ1 ρ2 z) : ED X G (.BoolOp .Or (a :: b :: rest) pos) ρ ρ2 z := by
  refine pe_mono (pe_or ha hb) fun σ H Q ⟨F, E, q⟩ => ⟨F, E, fun F1 H1 v e1 E1 r1 => ⟨false, of_bl r1, ?_⟩⟩
  show tD X.K G ρ1 ρ2 z σ H1 Q
  exact ⟨F1, E1, fun F2 H2 w e2 E2 r2 => q F2 H2 w (e1.trans e2) E2 r2⟩
theorem ed_orT (ha : ED X G a ρ ρ1 (.v k1 (.bl true))) : ED X G (.BoolOp .Or (a :: b :: rest) pos) ρ ρ1 (.val (.bl true)) := by
  refine pe_mono (pe_or ha pe_false) fun σ H Q ⟨F, E, q⟩ => ⟨F, E, fun F1 H1 v e1 E1 r1 => ⟨true, of_bl r1, ?_⟩⟩
  show Q (.bl true) H1
  exact q F1 H1 _ e1 E1 sr_bl
theorem vr_eqD {K : PySem.W.Frag} (h1 : dataD x = true) (h2 : dataD y = true) (h3 : SeqAt.shaped (pyD x) = true) (h4 : SeqAt.shaped (pyD y) = true) : VR K G ρ (rEqD K) k1 x k2 y (.val (.bl (PyData.eqv (pyD x) (pyD y)))) :=
  fun σ F H v u Q E hv hu q => ⟨pyD x, pyD y, dp_of E.atH _ _ h1 (RK.at hv), dp_of E.atH _ _ h2 (RK.at hu), h3, h4, q F H _ (Ext.refl _) E sr_bl⟩
theorem vr_neD {K : PySem.W.Frag} (h1 : dataD x = true) (h2 : dataD y = true) (h3 : SeqAt.shaped (pyD x) = true) (h4 : SeqAt.shaped (pyD y) = true) : VR K G ρ (rNeD K) k1 x k2 y (.val (.bl (!PyData.eqv (pyD x) (pyD y)))) :=
  fun σ F H v u Q E hv hu q => ⟨pyD x, pyD y, dp_of E.atH _ _ h1 (RK.at hv), dp_of E.atH _ _ h2 (RK.at hu), h3, h4, q F H _ (Ext.refl _) E sr_bl⟩
def rEqLen (K : PySem.W.Frag) (b : Bool) : R2 := fun x y H Q => ∃ p q xs ys, x = .ref p ∧ y = .ref q ∧ SqL K H p xs ∧ SqL K H q ys ∧ xs.length ≠ ys.length ∧ Q (.bl b) H
theorem op_eqLen (hu : X.A.units + 64 < cLine) : OpR X (compareOp .Eq) (rEqLen X.K false) := by
  intro pins s σ H x y v u Q I rx ry h
  obtain ⟨p, q, xs, ys, rfl, rfl, hx, hy, hne, q⟩ := h
  cases rx
  cases ry
  obtain ⟨its, rv, hl, _⟩ := I.list hx
  obtain ⟨its2, rv2, hl2, _⟩ := I.list hy
  refine SeqAt.RcAt.lists_lengths hl.isList hl2.isList ?_ (by omega) X.prog X.w _ _ ⟨.bl false, H, I, rfl, q⟩
  have h1 := rv.length
  have h2 := rv2.length
  simp only [List.size_toArray, bne_iff_ne, ne_eq]
  omega
theorem op_neLen (hu : X.A.units + 64 < cLine) : OpR X (compareOp .NotEq) (rEqLen X.K true) := by
  intro pins s σ H x y v u Q I rx ry h
  obtain ⟨p, q, xs, ys, rfl, rfl, hx, hy, hne, q⟩ := h
  cases rx
  cases ry
  obtain ⟨its, rv, hl, _⟩ := I.list hx
  obtain ⟨its2, rv2, hl2, _⟩ := I.list hy
  refine SeqAt.RcNeAt.lists_lengths hl.isList hl2.isList ?_ (by omega) X.prog X.w _ _ ⟨.bl true, H, I, rfl, q⟩
  have h1 := rv.length
  have h2 := rv2.length
  simp only [List.size_toArray, bne_iff_ne, ne_eq]
  omega
theorem vr_eqLen {K : PySem.W.Frag} {bb : Bool} (h : ds.length ≠ es.length) : VR K G ρ (rEqLen K bb) k1 (.lst ds) k2 (.lst es) (.val (.bl bb)) :=
  fun σ F H v u Q E hv hu q => by
    obtain ⟨p, xs, rfl, hp, rx⟩ := RK.lst hv
    obtain ⟨p2, ys, rfl, hp2, ry⟩ := RK.lst hu
    exact ⟨p, p2, xs, ys, rfl, rfl, sql_rd (E.atH.rd hp), sql_rd (E.atH.rd hp2), by rw [rx.length, ry.length]; exact h, q F H _ (Ext.refl _) E sr_bl⟩
theorem eqL_ok {q : Bool} (h : eqL x y = some q) : ∃ ds es, x = .lst ds ∧ y = .lst es ∧ ds.length ≠ es.length ∧ q = false := by
  unfold eqL at h
  split at h
  · obtain ⟨h1, h⟩ := chk_some h
    injection h with h
    exact ⟨_, _, rfl, rfl, h1, h.symm⟩
  · cases h
/-- tuple(x) of a tuple is x -/
theorem ed_tupleT (hg : Gl X "tuple") (hm : X.mg "tuple" = none) (ha : ED X G a ρ ρ1 (.v k (.tup ds))) (he : starEach [a] X.env = (false, eval a X.env) :: starEach [] X.env := by rfl) (hpl : (backTo pos (starEach [] X.env)).any (·.1) = false := by rfl) : ED X G (.Call (.Name "tuple" p) [a] [] pos) ρ ρ1 (.v k (.tup ds)) :=
  ed_call1T call_tupleT hg hm boot_tuple ha (fun σ F H v Q E r1 q => by
    obtain ⟨a, vs, rfl, h2, h3⟩ := RK.tup r1
    exact ⟨a, vs, rfl, E.sub.sqT h2.1, q F H _ (Ext.refl _) E r1⟩) (by decide) (by decide) he hpl
theorem one_char {x : Str} (h : x.cps.size = 1) : x = ⟨#[x.cps.getD 0 0]⟩ := by
  obtain ⟨l⟩ := x
  obtain ⟨l⟩ := l
  match l, h with
  | [c], _ => rfl
theorem cmp_ok {op : CmpOp} (hu : X.A.units + 64 < cLine) (ha : ED X G a ρ ρ1 s1) (hb : ED X G b ρ1 ρ2 s2) (h : cmpS op s1 s2 = some k) (hm : behindInMarks op b = false) :
    ED X G (.Compare a [op] [b] pos) ρ ρ2 (.val (.bl k)) ∧ ET X G (.Compare a [op] [b] pos) ρ ρ2 k := by
  have inOk : ∀ {q : Bool}, inS (fixS s1) (fixS s2) = some q → (∃ c t k1 k2, ED X G a ρ ρ1 (.v k1 (.str ⟨#[c]⟩)) ∧ ED X G b ρ1 ρ2 (.v k2 (.str t)) ∧ q = decide (c ∈ t.cps.toList)) ∨ (∃ x ds k1 s, ED X G a ρ ρ1 (.v k1 x) ∧ ED X G b ρ1 ρ2 s ∧ SeqS s ds ∧ flatD x = true ∧ ds.all flatD = true ∧ q = inD x ds) := by
    intro q hq
    have ha' := ed_fixS ha
    have hb' := ed_fixS hb
    revert hq ha' hb'
    generalize fixS s1 = t1
    generalize fixS s2 = t2
    intro hq ha' hb'
    unfold inS at hq
    split at hq
    · obtain ⟨h1, h2⟩ := chk_some hq
      injection h2 with h2
      rw [one_char h1] at ha'
      exact .inl ⟨_, _, _, _, ha', hb', h2.symm⟩
    · obtain ⟨h1, h2⟩ := chk_some hq
      injection h2 with h2
      exact .inr ⟨_, _, _, _, ha', hb', .lst, h1.1, h1.2, h2.symm⟩
    · obtain ⟨h1, h2⟩ := chk_some hq
      injection h2 with h2
      exact .inr ⟨_, _, _, _, ha', hb', .tup, h1.1, h1.2, h2.symm⟩
    · cases hq
  unfold cmpS at h
  split at h
  · rcases inOk h with ⟨c, t, k1, k2, h1, h2, rfl⟩ | ⟨x, ds, k1, s, h1, h2, h3, h4, h5, rfl⟩
    · exact ⟨cmp_sign h1 h2 hm, et_sign h1 h2 hm⟩
    · exact ⟨cmp_in h1 h2 h3 h4 h5 hm, et_in h1 h2 h3 h4 h5 hm⟩
  · obtain ⟨q, hq, rfl⟩ := Option.map_eq_some_iff.mp h
    rcases inOk hq with ⟨c, t, k1, k2, h1, h2, rfl⟩ | ⟨x, ds, k1, s, h1, h2, h3, h4, h5, rfl⟩
    · exact ⟨cmp_nsign h1 h2 hm, et_nsign h1 h2 hm⟩
    · exact ⟨cmp_nin h1 h2 h3 h4 h5 hm, et_nin h1 h2 h3 h4 h5 hm⟩
  · obtain ⟨_, ha'⟩ := ed_dat ha
    obtain ⟨_, hb'⟩ := ed_dat hb
    split at h
    · rename_i e
      rw [e] at hb'
      injection h with h; subst h
      exact ⟨ed_bin (fun h1 h2 => pe_cmpR op_isN1 h1 h2 hm) ha' hb' (vnon _ _ _ _ _ _), et_bin (fun h1 h2 => pt_cmpR op_isN1 h1 h2 hm) ha' hb' (vnon _ _ _ _ _ _)⟩
    · cases h
  · obtain ⟨_, ha'⟩ := ed_dat ha
    obtain ⟨_, hb'⟩ := ed_dat hb
    split at h
    · rename_i e
      rw [e] at hb'
      injection h with h; subst h
      exact ⟨ed_bin (fun h1 h2 => pe_cmpR op_notN1 h1 h2 hm) ha' hb' (vnotn _ _ _ _ _ _), et_bin (fun h1 h2 => pt_cmpR op_notN1 h1 h2 hm) ha' hb' (vnotn _ _ _ _ _ _)⟩
    · cases h
  · obtain ⟨_, ha'⟩ := ed_dat ha
    obtain ⟨_, hb'⟩ := ed_dat hb
    unfold eqX at h
    rcases Option.or_eq_some_iff.mp h with h | ⟨_, h⟩
    · exact ⟨ed_cmp ha' hb' (eqS_ok h) hm, et_cmp ha' hb' (eqS_ok h) hm⟩
    rcases Option.or_eq_some_iff.mp h with h | ⟨_, h⟩
    · obtain ⟨ds, es, e1, e2, hne, rfl⟩ := eqL_ok h
      rw [e1] at ha'
      rw [e2] at hb'
      exact ⟨ed_bin (fun g1 g2 => pe_cmpR (op_eqLen hu) g1 g2 hm) ha' hb' (vr_eqLen hne), et_bin (fun g1 g2 => pt_cmpR (op_eqLen hu) g1 g2 hm) ha' hb' (vr_eqLen hne)⟩
    · obtain ⟨⟨h1, h2, h3, h4⟩, h⟩ := chk_some h
      injection h with h; subst h
      exact ⟨ed_bin (fun g1 g2 => pe_cmpR (op_eqD hu) g1 g2 hm) ha' hb' (vr_eqD h1 h2 h3 h4), et_bin (fun g1 g2 => pt_cmpR (op_eqD hu) g1 g2 hm) ha' hb' (vr_eqD h1 h2 h3 h4)⟩
  · obtain ⟨_, ha'⟩ := ed_dat ha
    obtain ⟨_, hb'⟩ := ed_dat hb
    obtain ⟨q, h0, rfl⟩ := Option.map_eq_some_iff.mp h
    clear h
    have h := h0
    clear h0
    unfold eqX at h
    rcases Option.or_eq_some_iff.mp h with h | ⟨_, h⟩
    · have h' : cmpD .NotEq (datS s1) (datS s2) = some (!q) := by unfold cmpD; simp only [h, Option.map_some]
      exact ⟨ed_cmp ha' hb' (cmpD_ok h') hm, et_cmp ha' hb' (cmpD_ok h') hm⟩
    rcases Option.or_eq_some_iff.mp h with h | ⟨_, h⟩
    · obtain ⟨ds, es, e1, e2, hne, rfl⟩ := eqL_ok h
      rw [e1] at ha'
      rw [e2] at hb'
      exact ⟨ed_bin (fun g1 g2 => pe_cmpR (op_neLen hu) g1 g2 hm) ha' hb' (vr_eqLen hne), et_bin (fun g1 g2 => pt_cmpR (op_neLen hu) g1 g2 hm) ha' hb' (vr_eqLen hne)⟩
    · obtain ⟨⟨h1, h2, h3, h4⟩, h⟩ := chk_some h
      injection h with h; subst h
      exact ⟨ed_bin (fun g1 g2 => pe_cmpR (op_neD hu) g1 g2 hm) ha' hb' (vr_neD h1 h2 h3 h4), et_bin (fun g1 g2 => pt_cmpR (op_neD hu) g1 g2 hm) ha' hb' (vr_neD h1 h2 h3 h4)⟩
  · obtain ⟨_, ha'⟩ := ed_dat ha
    obtain ⟨_, hb'⟩ := ed_dat hb
    exact ⟨ed_cmp ha' hb' (cmpD_ok h) hm, et_cmp ha' hb' (cmpD_ok h) hm⟩
theorem idxS_ok {j : Int} (h : idxS s j = some z) : IxD s j z := by
  unfold idxS at h
  split at h
  · obtain ⟨d, h1, rfl⟩ := Option.map_eq_some_iff.mp h
    exact .lst h1
  · obtain ⟨d, h1, rfl⟩ := Option.map_eq_some_iff.mp h
    exact .tup h1
  · obtain ⟨c, h1, h⟩ := bind_some' h
    obtain ⟨h2, h⟩ := chk_some h
    injection h with h; subst h
    exact .str h1 h2
  · cases h
theorem ownVar_ok {f : CE} (h : ownVar f ρ = some i) : f = .var i ∧ ∃ ds, ρ[i]? = some (some (.own ds)) := by
  unfold ownVar at h
  split at h
  · split at h
    · injection h with h; subst h
      rename_i hd
      exact ⟨rfl, _, hd⟩
    · cases h
  · cases h
theorem getO_ok (h : getO ρ i = some ds) : ρ[i]? = some (some (.own ds)) := by
  unfold getO at h
  split at h
  · injection h with h; subst h; rename_i hd; exact hd
  · cases h
theorem lstK_ok (h : lstK s = some ds) : LstS s ds := by
  unfold lstK at h
  split at h
  · injection h with h; subst h; exact .own
  · injection h with h; subst h; exact .v
  · cases h
theorem lstS_ok (h : lstS s = some ds) : LstS s ds := by
  unfold lstS at h
  split at h
  · injection h with h; subst h; exact .own
  · injection h with h; subst h; exact .v
  · cases h
theorem itemsS_ok (h : itemsS s = some ds) : ∃ k, SeqK s k ds := by
  unfold itemsS at h
  split at h
  · injection h with h; subst h; exact ⟨_, .own⟩
  · injection h with h; subst h; exact ⟨_, .lst⟩
  · injection h with h; subst h; exact ⟨_, .tup⟩
  · cases h
/-- a sequence, fixed if it is new -/
theorem ed_seq {q : Bool × List D} (h : ED X G e ρ ρ' s) (g : seqS s = some q) : ∃ d, ED X G e ρ ρ' (.v q.1 d) ∧ SeqS (.v q.1 d) q.2 := by
  unfold seqS at g
  split at g
  · injection g with g; subst g; exact ⟨_, ed_fix h, .lst⟩
  · injection g with g; subst g; exact ⟨_, h, .lst⟩
  · injection g with g; subst g; exact ⟨_, h, .tup⟩
  · cases g
theorem ed_slLs {lo hi : Option Expr} {l1 l2 : Option Int} (ha : ED X G a ρ ρ1 s) (hs : lstK s = some ds) (hl : EO X G lo ρ1 ρ2 l1) (hh : EO X G hi ρ2 ρ3 l2) : ED X G (.Subscript a (.Slice lo hi none p2) pos) ρ ρ3 (.own (cutD ds l1 l2)) := by
  obtain ⟨k, ha'⟩ : ∃ k, ED X G a ρ ρ1 (.v k (.lst ds)) := by
    unfold lstK at hs
    split at hs
    · injection hs with hs; subst hs; exact ⟨true, ed_fix ha⟩
    · injection hs with hs; subst hs; exact ⟨_, ha⟩
    · cases hs
  exact pe_mono (pe_slice sl_list ha' hl hh) fun σ H Q ⟨F, E, q⟩ => ⟨F, E, fun F1 H1 v e1 E1 r1 => ⟨F1, E1, fun F2 H2 e2 E2 => ⟨F2, E2, fun F3 H3 e3 E3 => by
    obtain ⟨a, vs, rfl, h2, h3⟩ := RK.lst (RK.mono (e2.trans e3) r1)
    exact ⟨a, vs, rfl, sql_rd (E3.atH.rd h2), fun l hl => q F3 _ _ ((e1.trans e2).trans e3) (E3.lay0 hl) (E3.newL hl (reps_cut h3))⟩⟩⟩⟩
theorem sl_ok {lo hi : Option Expr} {l1 l2 : Option Int} (ha : ED X G a ρ ρ1 s) (hl : EO X G lo ρ1 ρ2 l1) (hh : EO X G hi ρ2 ρ3 l2) (h : slS s l1 l2 = some z) : ED X G (.Subscript a (.Slice lo hi none p2) pos) ρ ρ3 z := by
  unfold slS at h
  split at h
  · obtain ⟨h1, h⟩ := chk_some h
    injection h with h; subst h
    exact ed_slS ha hl hh h1
  · obtain ⟨ds, h1, h⟩ := bind_some' h
    injection h with h; subst h
    exact ed_slLs ha h1 hl hh
theorem ed_dk0 : ED X G (.Dict [] [] pos) ρ ρ (.val (.dk [] [])) :=
  pe_mono pe_dnewK fun σ H Q ⟨F, E, q⟩ p hp => q (upd F p (.dK [])) _ _ (Ext.lay (E.sub.free hp)) (E.lay hp) (by
    show Rep X.K (upd F p (.dK [])) (.dk [] []) (.ref p)
    simp only [Rep]
    exact ⟨p, [], rfl, upd_same, rfl, .nil⟩)
/-- built-ins of one argument -/
theorem fn_ok {f : Bf} {g : Str} (o : OkX M tab Γ jr X) (hb : bfN g = some f) (hg : glB Γ.sc g = true) (hn : nsB a = true) (ha : ED X G a ρ ρ1 s) (h : fnS f s = some z) : ED X G (.Call (.Name g p) [a] [] pos) ρ ρ1 z := by
  have he := star_ns (xs := []) (env := X.env) hn
  unfold bfN at hb
  repeat' split at hb
  all_goals first
    | (cases hb; done)
    | (injection hb with hb; subst hb; rename_i e; subst e; simp only [fnS] at h)
  · obtain ⟨m, h1, h⟩ := bind_some' h
    injection h with h; subst h
    refine ed_len (o.gl hg) (o.blt (by decide)) ha ?_ he rfl
    unfold lenS at h1
    split at h1 <;> first | (cases h1; done) | (injection h1 with h1; subst h1; constructor; done) | skip
    obtain ⟨h2, h1⟩ := chk_some h1
    injection h1 with h1; subst h1; exact .str h2
  · obtain ⟨m, h1, h⟩ := bind_some' h
    injection h with h; subst h
    obtain ⟨_, ha⟩ := ed_intS ha h1
    exact ed_intOf (o.gl hg) (o.blt (by decide)) ha he rfl
  · obtain ⟨m, h1, h⟩ := bind_some' h
    obtain ⟨h2, h⟩ := chk_some h
    injection h with h; subst h
    obtain ⟨_, ha⟩ := ed_intS ha h1
    exact ed_strOf (o.gl hg) (o.blt (by decide)) ha h2 he rfl
  · obtain ⟨m, h1, h⟩ := bind_some' h
    injection h with h; subst h
    obtain ⟨k, h2⟩ := itemsS_ok h1
    exact ed_list (o.gl hg) (o.blt (by decide)) ha h2 he rfl
  · unfold tupF at h
    split at h
    · injection h with h; subst h
      exact ed_tupleT (o.gl hg) (o.blt (by decide)) ha he rfl
    · obtain ⟨m, h1, h⟩ := bind_some' h
      injection h with h; subst h
      exact ed_tupleL (o.gl hg) (o.blt (by decide)) ha (lstK_ok h1) he rfl
  · obtain ⟨q, h1, h⟩ := bind_some' h
    obtain ⟨m, h2, h⟩ := bind_some' h
    injection h with h; subst h
    obtain ⟨d, h3, h4⟩ := ed_seq ha h1
    exact ed_sumE o.calm (o.gl hg) (o.blt (by decide)) h3 h4 (intsOf_eq h2) he rfl
  · obtain ⟨q, h1, h⟩ := bind_some' h
    obtain ⟨m, h2, h⟩ := bind_some' h
    injection h with h; subst h
    exact ed_all o.calm (o.gl hg) (o.blt (by decide)) ha (lstS_ok h1) (blsOf_eq h2) he rfl
  · obtain ⟨q, h1, h⟩ := bind_some' h
    obtain ⟨m, h2, h⟩ := bind_some' h
    injection h with h; subst h
    exact ed_any o.calm (o.gl hg) (o.blt (by decide)) ha (lstS_ok h1) (blsOf_eq h2) he rfl
  · obtain ⟨q, h1, h⟩ := bind_some' h
    obtain ⟨⟨h3, h4, h5, h6⟩, h⟩ := chk_some h
    injection h with h; subst h
    exact ed_sorted (by have := o.room.un; omega) (o.gl hg) (o.blt (by decide)) ha (lstK_ok h1) h3 h4 h5 h6 he rfl
theorem lenSet_ok (o : OkX M tab Γ jr X) (hg : glB Γ.sc "len" = true) (hg2 : glB Γ.sc "set" = true) (hn : nsB a = true) {q2 : Pos} (ha : ED X G a ρ ρ1 s) (h : fnS .lenSet s = some z) : ED X G (.Call (.Name "len" p) [.Call (.Name "set" p2) [a] [] q2] [] pos) ρ ρ1 z := by
  simp only [fnS] at h
  obtain ⟨q, h1, h⟩ := bind_some' h
  obtain ⟨ks, h2, h⟩ := bind_some' h
  obtain ⟨h3, h⟩ := chk_some h
  injection h with h; subst h
  obtain ⟨d, h4, h5⟩ := ed_seq ha h1
  exact ed_lenSet o.calm (o.gl hg) (o.blt (by decide)) (o.gl hg2) (o.blt (by decide)) h4 h5 (keysOf_eq h2) h3 (star_ns hn)
/-! ### targets -/
def gOf (K : PySem.W.Frag) : Tgt → TG
  | .nm i => gName i
  | .tp ix => gTup K ix.length (gNames ix)
theorem bindY_ok {K : PySem.W.Frag} {t : Tgt} {y : Yld} {f : DL.Env → DL.Env} (h : bindY t y = some f) (hm : ∀ i ∈ t.ix, G.ms[i]? ≠ some true) : TgR K G (gOf K t) t.ix y f ∧ FtOk t.ix f := by
  unfold bindY at h
  split at h
  · injection h with h; subst h
    exact ⟨tg_name (hm _ (List.mem_singleton.mpr rfl)), ft_name⟩
  · obtain ⟨h1, h⟩ := chk_some h
    injection h with h; subst h
    exact ⟨tg_tup h1 hm, setE_ft h1⟩
  · injection h with h; subst h
    exact ⟨tg_two (hm _ (List.mem_cons_self ..)) (hm _ (List.mem_cons_of_mem _ (List.mem_cons_self ..))), ft_two⟩
  · cases h
theorem st_ok (o : OkX M tab Γ jr X) (h : stB Γ n = true) : Loc X.env.scope n ∧ (X.fn n = true ∨ X.env.scope.names.lookup n = some .local) := by
  unfold stB at h
  unfold L2.Loc
  rw [o.sc]
  split at h
  · rename_i e; exact ⟨.inl e, .inr e⟩
  · rename_i e
    rcases Bool.or_eq_true_iff.mp h with h | h
    · exact ⟨.inr e, .inl (o.fn h n)⟩
    · exact ⟨.inr e, .inl (o.fnc n h)⟩
  · cases h
theorem cTgs_ok (o : OkX M tab Γ jr X) : ∀ {es : List Expr} {ix : List Nat}, cTgs Γ es = some ix → PGs X es (gNames ix) ∧ (assignEach es X.env).length = ix.length ∧ (assignEach es X.env).findIdx? (·.1) = none
  | [], ix, h => by
    injection h with h; subst h
    exact ⟨pgs_nil', rfl, rfl⟩
  | e :: es, ix, h => by
    cases e <;> first | (cases h; done) | skip
    rename_i x px
    simp only [cTgs] at h
    split at h
    · rename_i hs
      obtain ⟨i, h1, h⟩ := bind_some' h
      obtain ⟨r, h2, h⟩ := bind_some' h
      injection h with h; subst h
      obtain ⟨k1, k2, k3⟩ := cTgs_ok o h2
      obtain ⟨l1, l2⟩ := st_ok o hs
      refine ⟨pgs_cons' (pg_name (by rw [o.N]; exact o.nd) (by rw [o.N]; exact ixOf_ok h1) l1 l2) k1 rfl, ?_, ?_⟩
      · show (assignEach es X.env).length + 1 = r.length + 1
        rw [k2]
      · show List.findIdx? (·.1) ((false, _) :: assignEach es X.env) = none
        rw [List.findIdx?_cons, k3]; rfl
    · cases h
theorem cTgt_ok (o : OkX M tab Γ jr X) {t : Tgt} {tg : Expr} (h : cTgt Γ tg = some t) : PG X tg (gOf X.K t) := by
  unfold cTgt at h
  split at h
  · split at h
    · rename_i hs
      obtain ⟨i, h1, rfl⟩ := Option.map_eq_some_iff.mp h
      obtain ⟨l1, l2⟩ := st_ok o hs
      exact pg_name (by rw [o.N]; exact o.nd) (by rw [o.N]; exact ixOf_ok h1) l1 l2
    · cases h
  · obtain ⟨ix, h1, rfl⟩ := Option.map_eq_some_iff.mp h
    obtain ⟨k1, k2, k3⟩ := cTgs_ok o h1
    exact pg_tup o.calm k1 k2 k3
  · cases h
end
end RL
/-! RL4: expressions. -/
namespace RL
open PySem L2 DL PyProof.Rows PySem.W
theorem map_some' {α β : Type} {o : Option α} {f : α → β} {y : β} (h : o.map f = some y) : ∃ x, o = some x ∧ f x = y := Option.map_eq_some_iff.mp h
theorem ite_some {α : Type} {c : Bool} {x : Option α} {y : α} (h : (if c = true then x else none) = some y) : c = true ∧ x = some y := by
  split at h
  · rename_i hc; exact ⟨hc, h⟩
  · cases h
section
variable {M : Mo} {tab : Nat → Option (Str × List Str)} {Γ : Ga} {jr : Nat}
variable {X : Cx} {G : Gx} {e a b d o : Expr} {ρ ρ' ρ1 ρ2 ρ3 : DL.Env} {r s z s1 s2 : Slot} {x y w : D} {ds es : List D} {pos p p2 apos cpos : Pos} {k l k1 k2 k3 : Bool} {n : Str} {xs rest : List Expr} {i j : Nat}
theorem conj_var {f : Expr → Option CE} : ∀ {es : List Expr} {i : Nat}, cConj f es ≠ some (.var i)
  | [], i, h => by cases h
  | [e], i, h => by
    obtain ⟨x, _, h⟩ := map_some' h
    cases h
  | e :: e2 :: es, i, h => by
    obtain ⟨x, _, h⟩ := bind_some' h
    obtain ⟨x, _, h⟩ := bind_some' h
    cases h
theorem disj_var {f : Expr → Option CE} : ∀ {es : List Expr} {i : Nat}, cDisj f es ≠ some (.var i)
  | [], i, h => by cases h
  | [e], i, h => by
    obtain ⟨x, _, h⟩ := map_some' h
    cases h
  | e :: e2 :: es, i, h => by
    obtain ⟨x, _, h⟩ := bind_some' h
    obtain ⟨x, _, h⟩ := bind_some' h
    cases h
theorem meth_var {f : Expr → Option CE} {m : Str} {es : List Expr} : cMeth f Γ o m es ≠ some (.var i) := fun h => by
  unfold cMeth at h
  repeat' split at h
  all_goals simp [Option.bind_eq_some_iff, Option.map_eq_some_iff] at h
theorem call_var {f : Expr → Option CE} {g : Str} {es : List Expr} {kws : List Keyword} : cCall f Γ g es kws ≠ some (.var i) := fun h => by
  unfold cCall at h
  repeat' split at h
  all_goals simp [Option.bind_eq_some_iff, Option.map_eq_some_iff] at h
theorem comp_var {m : Nat} (h : compE m Γ e = some (.var i)) : ∃ x p, e = .Name x p ∧ cVar Γ x = some i := by
  cases m with
  | zero => cases h
  | succ m =>
    unfold compE at h
    split at h
    all_goals first
      | (exact absurd h conj_var)
      | (exact absurd h disj_var)
      | (exact absurd h call_var)
      | (cases h; done)
      | skip
    · split at h
      · obtain ⟨q, h1, h⟩ := map_some' h
        injection h with h; subst h
        exact ⟨_, _, rfl, h1⟩
      · split at h
        · simp [Option.map_eq_some_iff] at h
        · cases h
    all_goals try (simp [Option.bind_eq_some_iff, Option.map_eq_some_iff] at h; done)
    · repeat' split at h
      all_goals simp [Option.bind_eq_some_iff, Option.map_eq_some_iff] at h
    · split at h
      · exact absurd h meth_var
      · cases h
/-! ### lists of expressions, given what their parts do -/
variable {f : Expr → Option CE}
/-- what is known of the parts -/
def Parts (M : Mo) (tab : Nat → Option (Str × List Str)) (Γ : Ga) (f : Expr → Option CE) : Prop :=
  (∀ e a, f e = some a → SE M tab Γ e a ∧ ST M tab Γ e a) ∧ ∀ e i, f e = some (.var i) → ∃ x p, e = .Name x p ∧ cVar Γ x = some i
variable {c : Cs} {ms : List Bool} {A : CE}
theorem cList_ns : ∀ {es : List Expr} {A : CE}, cList f es = some A → es.all nsB = true
  | [], A, h => rfl
  | e :: es, A, h => by
    simp only [cList] at h
    obtain ⟨h1, h⟩ := ite_some h
    obtain ⟨a, h2, h⟩ := bind_some' h
    obtain ⟨r, h3, h⟩ := bind_some' h
    rw [List.all_cons, h1, cList_ns h3]; rfl
theorem cList_ok (W : Parts M tab Γ f) (o : OkX M tab Γ jr X) (hc : CalOk M tab jr c) (hm : MsOk G ms) : ∀ {es : List Expr} {A : CE} {ρ ρ' : DL.Env} {as : List ArgS}, cList f es = some A → evS c ms A ρ = some (as, ρ') → EAs X G es ρ ρ' as
  | [], A, ρ, ρ', as, h, q => by
    injection h with h; subst h
    simp only [evS] at q
    cases q; exact as_nil
  | e :: es, A, ρ, ρ', as, h, q => by
    simp only [cList] at h
    obtain ⟨h1, h⟩ := ite_some h
    obtain ⟨a, h2, h⟩ := bind_some' h
    obtain ⟨r, h3, h⟩ := bind_some' h
    injection h with h; subst h
    simp only [evS] at q
    split at q
    · rename_i i hi
      obtain ⟨rfl, ds, hd⟩ := ownVar_ok hi
      obtain ⟨x, p, rfl, hx⟩ := W.2 _ _ h2
      obtain ⟨w, q1, q⟩ := bind_some' q
      injection q with q
      obtain ⟨g1, g2, g3, g4⟩ := o.var hx
      cases q
      exact as_own g1 g2 hd (cList_ok W o hc hm h3 q1) rfl g3 g4
    · obtain ⟨u, q1, q⟩ := bind_some' q
      obtain ⟨w, q2, q⟩ := bind_some' q
      have E1 := (W.1 _ _ h2).1 X jr G c ms _ _ _ o hc hm q1
      have E2 := cList_ok W o hc hm h3 q2
      cases q
      cases hs : u.1 with
      | v k d => rw [hs] at E1; exact as_ex E1 E2 (star_ns h1)
      | own ds => rw [hs] at E1; exact as_ex (ed_fix E1) E2 (star_ns h1)
theorem cKws_ok (W : Parts M tab Γ f) (o : OkX M tab Γ jr X) (hc : CalOk M tab jr c) (hm : MsOk G ms) : ∀ {kws : List Keyword} {A : CE} {ρ ρ' : DL.Env} {as : List ArgS}, cList f (kwVals kws) = some A → evS c ms A ρ = some (as, ρ') → EKs X G kws ρ ρ' as
  | [], A, ρ, ρ', as, h, q => by
    injection h with h; subst h
    simp only [evS] at q
    cases q; exact ks_nil
  | ⟨nm, e, kp⟩ :: kws, A, ρ, ρ', as, h, q => by
    simp only [kwVals, List.map_cons, cList] at h
    obtain ⟨h1, h⟩ := ite_some h
    obtain ⟨a, h2, h⟩ := bind_some' h
    obtain ⟨r, h3, h⟩ := bind_some' h
    injection h with h; subst h
    simp only [evS] at q
    split at q
    · rename_i i hi
      obtain ⟨rfl, ds, hd⟩ := ownVar_ok hi
      obtain ⟨x, p, rfl, hx⟩ := W.2 _ _ h2
      obtain ⟨w, q1, q⟩ := bind_some' q
      obtain ⟨g1, g2, g3, g4⟩ := o.var hx
      cases q
      exact ks_own g1 g2 hd (cKws_ok W o hc hm h3 q1) g3 g4
    · obtain ⟨u, q1, q⟩ := bind_some' q
      obtain ⟨w, q2, q⟩ := bind_some' q
      have E1 := (W.1 _ _ h2).1 X jr G c ms _ _ _ o hc hm q1
      have E2 := cKws_ok W o hc hm h3 q2
      cases q
      cases hs : u.1 with
      | v k d => rw [hs] at E1; exact ks_ex E1 E2
      | own ds => rw [hs] at E1; exact ks_ex (ed_fix E1) E2
theorem cDisp_ok (W : Parts M tab Γ f) (o : OkX M tab Γ jr X) (hc : CalOk M tab jr c) (hm : MsOk G ms) : ∀ {es : List Expr} {A : CE} {ρ ρ' : DL.Env} {ds : List D}, cDisp f es = some A → evA c ms A ρ = some (ds, ρ') → EA X G es ρ ρ' ds
  | [], A, ρ, ρ', ds, h, q => by
    injection h with h; subst h
    simp only [evA] at q
    cases q; exact ea_nil
  | e :: es, A, ρ, ρ', ds, h, q => by
    unfold cDisp at h
    split at h
    · rename_i he; cases he
    · rename_i e' p' es' he
      injection he with he1 he2
      subst he1; subst he2
      obtain ⟨a, h2, h⟩ := bind_some' h
      obtain ⟨r, h3, h⟩ := bind_some' h
      injection h with h; subst h
      simp only [evA] at q
      obtain ⟨u, q1, q⟩ := bind_some' q
      obtain ⟨es, q2, q⟩ := bind_some' q
      obtain ⟨w, q3, q⟩ := bind_some' q
      have E1 := (W.1 _ _ h2).1 X jr G c ms _ _ _ o hc hm q1
      have E2 := cDisp_ok W o hc hm h3 q3
      cases q
      obtain ⟨k, g1⟩ := itemsS_ok q2
      cases hs : u.1 with
      | v k' d =>
        rw [hs] at E1 g1
        cases g1 with
        | lst => exact ea_star E1 .lst E2 rfl
        | tup => exact ea_star E1 .tup E2 rfl
      | own ds =>
        rw [hs] at E1 g1
        cases g1
        exact ea_star (ed_fix E1) .lst E2 rfl
    · rename_i e' es' hn he
      injection he with he1 he2
      subst he1; subst he2
      have hns : nsB e = true := by
        cases e <;> first | rfl | (exact (hn _ _ rfl).elim)
      obtain ⟨a, h2, h⟩ := bind_some' h
      obtain ⟨r, h3, h⟩ := bind_some' h
      injection h with h; subst h
      simp only [evA] at q
      obtain ⟨u, q1, q⟩ := bind_some' q
      obtain ⟨x, q2, q⟩ := bind_some' q
      obtain ⟨w, q3, q⟩ := bind_some' q
      have E1 := (W.1 _ _ h2).1 X jr G c ms _ _ _ o hc hm q1
      have E2 := cDisp_ok W o hc hm h3 q3
      cases q
      exact ea_cons (ed_toV E1 (toV_ok q2)) E2 (star_ns hns)
theorem cConj_ok (W : Parts M tab Γ f) (o : OkX M tab Γ jr X) (hc : CalOk M tab jr c) (hm : MsOk G ms) : ∀ {es : List Expr} {A : CE} {ρ : DL.Env}, cConj f es = some A →
    (∀ ρ' r, evE c ms A ρ = some (r, ρ') → ED X G (.BoolOp .And es pos) ρ ρ' r) ∧ ∀ ρ' b, evT c ms A ρ = some (b, ρ') → EW X G (.BoolOp .And es pos) ρ ρ' b
  | [], A, ρ, h => by cases h
  | [e], A, ρ, h => by
    obtain ⟨a, h1, rfl⟩ := map_some' h
    refine ⟨fun ρ' r q => ?_, fun ρ' b q => ?_⟩
    · simp only [evE] at q
      exact ed_one ((W.1 _ _ h1).1 X jr G c ms _ _ _ o hc hm q)
    · simp only [evT] at q
      exact ew_and1 ((W.1 _ _ h1).2 X jr G c ms _ _ _ o hc hm q)
  | e :: e2 :: es, A, ρ, h => by
    obtain ⟨a, h1, h⟩ := bind_some' h
    obtain ⟨r, h2, h⟩ := bind_some' h
    injection h with h; subst h
    refine ⟨fun ρ' z q => ?_, fun ρ' b q => ?_⟩
    · simp only [evE] at q
      obtain ⟨u, q1, q⟩ := bind_some' q
      obtain ⟨k, q2, q⟩ := bind_some' q
      obtain ⟨k1, E1⟩ := ed_blS ((W.1 _ _ h1).1 X jr G c ms _ _ _ o hc hm q1) q2
      cases k with
      | true => exact ed_andT E1 ((cConj_ok W o hc hm h2).1 _ _ q)
      | false => cases q; exact ed_andF E1
    · simp only [evT] at q
      obtain ⟨u, q1, q⟩ := bind_some' q
      have E1 := (W.1 _ _ h1).2 X jr G c ms _ _ _ o hc hm q1
      cases hk : u.1 with
      | true => rw [hk] at q E1; exact ew_andT E1 ((cConj_ok W o hc hm h2).2 _ _ q)
      | false => rw [hk] at q E1; cases q; exact ew_andF E1
theorem cDisj_ok (W : Parts M tab Γ f) (o : OkX M tab Γ jr X) (hc : CalOk M tab jr c) (hm : MsOk G ms) : ∀ {es : List Expr} {A : CE} {ρ : DL.Env}, cDisj f es = some A →
    (∀ ρ' r, evE c ms A ρ = some (r, ρ') → ED X G (.BoolOp .Or es pos) ρ ρ' r) ∧ ∀ ρ' b, evT c ms A ρ = some (b, ρ') → EW X G (.BoolOp .Or es pos) ρ ρ' b
  | [], A, ρ, h => by cases h
  | [e], A, ρ, h => by
    obtain ⟨a, h1, rfl⟩ := map_some' h
    refine ⟨fun ρ' r q => ?_, fun ρ' b q => ?_⟩
    · simp only [evE] at q
      exact ed_one ((W.1 _ _ h1).1 X jr G c ms _ _ _ o hc hm q)
    · simp only [evT] at q
      exact ew_or1 ((W.1 _ _ h1).2 X jr G c ms _ _ _ o hc hm q)
  | e :: e2 :: es, A, ρ, h => by
    obtain ⟨a, h1, h⟩ := bind_some' h
    obtain ⟨r, h2, h⟩ := bind_some' h
    injection h with h; subst h
    refine ⟨fun ρ' z q => ?_, fun ρ' b q => ?_⟩
    · simp only [evE] at q
      obtain ⟨u, q1, q⟩ := bind_some' q
      obtain ⟨k, q2, q⟩ := bind_some' q
      obtain ⟨k1, E1⟩ := ed_blS ((W.1 _ _ h1).1 X jr G c ms _ _ _ o hc hm q1) q2
      cases k with
      | false => exact ed_orF E1 ((cDisj_ok W o hc hm h2).1 _ _ q)
      | true => cases q; exact ed_orT E1
    · simp only [evT] at q
      obtain ⟨u, q1, q⟩ := bind_some' q
      have E1 := (W.1 _ _ h1).2 X jr G c ms _ _ _ o hc hm q1
      cases hk : u.1 with
      | false => rw [hk] at q E1; exact ew_orF E1 ((cDisj_ok W o hc hm h2).2 _ _ q)
      | true => rw [hk] at q E1; cases q; exact ew_orT E1
theorem cOpt_ok (W : Parts M tab Γ f) (o : OkX M tab Γ jr X) (hc : CalOk M tab jr c) (hm : MsOk G ms) {eo : Option Expr} {l : Option Int} (h : cOpt f eo = some A) (q : evO c ms A ρ = some (l, ρ')) : EO X G eo ρ ρ' l := by
  cases eo with
  | none =>
    injection h with h; subst h
    simp only [evO] at q
    cases q; exact eo_none
  | some e =>
    obtain ⟨a, h1, rfl⟩ := map_some' h
    simp only [evO] at q
    obtain ⟨u, q1, q⟩ := bind_some' q
    obtain ⟨i, q2, q⟩ := bind_some' q
    obtain ⟨k1, E1⟩ := ed_intS ((W.1 _ _ h1).1 X jr G c ms _ _ _ o hc hm q1) q2
    cases q
    exact eo_some E1
theorem wkS_ok {tg : Expr} {w : Wk} (h : ED X G e ρ ρ' s) (q : wkS s = some w) : WD X G tg e ρ ρ' w.m w.it := by
  unfold wkS at q
  split at q
  · cases q; exact wk_list (dx := .non) (ed_fix h)
  · cases q; exact wk_list (dx := .non) h
  · cases q; exact wk_tup (dx := .non) h
  · cases q; exact wk_str h
  · cases q
theorem wk_range2 {tg : Expr} {lo hi : Int} {p3 p4 : Pos} (hg : Gl X "range") (hm : X.mg "range" = none) (ha : ED X G a ρ ρ1 (.v k1 (.int lo))) (hb : ED X G b ρ1 ρ2 (.v k2 (.int hi))) (hz : -(2 ^ 62) ≤ lo ∧ lo < 2 ^ 62 ∧ -(2 ^ 62) ≤ hi ∧ hi < 2 ^ 62) (hs : starEach [a, b] X.env = [(false, eval a X.env), (false, eval b X.env)]) (hs2 : starEach [b] X.env = [(false, eval b X.env)]) :
    WD X G tg (.Call (.Name "range" p3) [a, b] [] p4) ρ ρ2 (hi - lo).toNat (fun t => .one (.val (.int (lo + (t : Int))))) :=
  pi_mono (pi_range2 hg hm (ea_two ha hb (by rw [hs, hs2]) (by rw [hs2]; rfl)) hs hs2) fun σ H R ⟨F, E, q⟩ => ⟨F, E, fun F1 H1 v u e1 E1 r1 r2 => by
    have z1 := of_int r1
    have z2 := of_int r2
    subst z1
    subst z2
    refine ⟨lo, hi, rfl, hz, q F1 H1 _ e1 E1 ⟨_, _, walk_range, fun _ _ _ => trivial, fun t H x H' ht _ _ y => ⟨y.1, ?_⟩⟩⟩
    rw [rk_int, y.2]⟩
theorem cWalk_ok (W : Parts M tab Γ f) (o : OkX M tab Γ jr X) (hc : CalOk M tab jr c) (hm : MsOk G ms) {tg it : Expr} {w : Wk} (h : cWalk f Γ.sc tg it = some A) (q : evW c ms A ρ = some (w, ρ')) :
    WD X G tg it ρ ρ' w.m w.it ∧ ∀ x, foldedSetIterable it X.env x = pure x := by
  have plain : ∀ {e : Expr}, (f e).map CE.one = some A → WD X G tg e ρ ρ' w.m w.it := fun {e} h => by
    obtain ⟨a, h1, rfl⟩ := map_some' h
    simp only [evW] at q
    obtain ⟨u, q1, q⟩ := bind_some' q
    obtain ⟨v, q2, q⟩ := bind_some' q
    cases q
    exact wkS_ok ((W.1 _ _ h1).1 X jr G c ms _ _ _ o hc hm q1) q2
  unfold cWalk at h
  split at h
  · refine ⟨?_, fun x => rfl⟩
    split at h
    · rename_i hg
      subst hg
      obtain ⟨h1, h⟩ := ite_some h
      rw [Bool.and_eq_true] at h1
      obtain ⟨a, h2, rfl⟩ := map_some' h
      simp only [evW] at q
      obtain ⟨u, q1, q⟩ := bind_some' q
      obtain ⟨i, q2, q⟩ := bind_some' q
      obtain ⟨h3, q⟩ := chk_some q
      obtain ⟨k1, E1⟩ := ed_intS ((W.1 _ _ h2).1 X jr G c ms _ _ _ o hc hm q1) q2
      cases q
      exact wk_range (o.gl h1.1) (o.blt (by decide)) E1 h3 (star_ns h1.2)
    · split at h
      · rename_i hg
        subst hg
        obtain ⟨h1, h⟩ := ite_some h
        simp only [Bool.and_eq_true] at h1
        obtain ⟨a, h2, rfl⟩ := map_some' h
        simp only [evW] at q
        obtain ⟨u, q1, q⟩ := bind_some' q
        obtain ⟨i, q2, q⟩ := bind_some' q
        obtain ⟨d, E1, E2⟩ := ed_seq ((W.1 _ _ h2).1 X jr G c ms _ _ _ o hc hm q1) q2
        cases q
        obtain ⟨⟨h3, h4⟩, h5⟩ := h1
        cases tg <;> first | (cases h5; done) | skip
        exact wk_enum (dx := .non) (o.gl h3) (o.blt (by decide)) E1 E2 (star_ns h4)
      · exact plain h
  · refine ⟨?_, fun x => rfl⟩
    split at h
    · rename_i hg
      subst hg
      obtain ⟨h1, h⟩ := ite_some h
      simp only [Bool.and_eq_true] at h1
      obtain ⟨a, h2, h⟩ := bind_some' h
      obtain ⟨b, h6, h⟩ := bind_some' h
      injection h with h; subst h
      simp only [evW] at q
      obtain ⟨u, q1, q⟩ := bind_some' q
      obtain ⟨v, q2, q⟩ := bind_some' q
      obtain ⟨i, q3, q⟩ := bind_some' q
      obtain ⟨j, q4, q⟩ := bind_some' q
      obtain ⟨d, E1, E2⟩ := ed_seq ((W.1 _ _ h2).1 X jr G c ms _ _ _ o hc hm q1) q3
      obtain ⟨d', E3, E4⟩ := ed_seq ((W.1 _ _ h6).1 X jr G c ms _ _ _ o hc hm q2) q4
      cases q
      obtain ⟨⟨⟨h3, h4⟩, h5⟩, h7⟩ := h1
      cases tg <;> first | (cases h7; done) | skip
      exact wk_zip (dx := .non) (o.gl h3) (o.blt (by decide)) E1 E3 E2 E4 rfl (star_ns h4) (star_ns h5) (any_ns (by rw [List.all_cons, h5]; rfl))
    · split at h
      · rename_i hg
        subst hg
        obtain ⟨h1, h⟩ := ite_some h
        simp only [Bool.and_eq_true] at h1
        obtain ⟨a, h2, h⟩ := bind_some' h
        obtain ⟨b, h6, h⟩ := bind_some' h
        injection h with h; subst h
        simp only [evW] at q
        obtain ⟨u, q1, q⟩ := bind_some' q
        obtain ⟨v, q2, q⟩ := bind_some' q
        obtain ⟨i, q3, q⟩ := bind_some' q
        obtain ⟨j, q4, q⟩ := bind_some' q
        obtain ⟨hz, q⟩ := chk_some q
        obtain ⟨_, E1⟩ := ed_intS ((W.1 _ _ h2).1 X jr G c ms _ _ _ o hc hm q1) q3
        obtain ⟨_, E2⟩ := ed_intS ((W.1 _ _ h6).1 X jr G c ms _ _ _ o hc hm q2) q4
        cases q
        obtain ⟨⟨h3, h4⟩, h5⟩ := h1
        exact wk_range2 (o.gl h3) (o.blt (by decide)) E1 E2 hz (by rw [star_ns h4, star_ns h5]; rfl) (by rw [star_ns h5]; rfl)
      · exact plain h
  · cases h
  · rename_i hn1 hn2 hn3
    refine ⟨plain h, fun x => ?_⟩
    cases it <;> first | rfl | (exact (hn3 _ _ _ rfl).elim)
end
end RL
/-! RL5: calls, comprehensions, all expressions. -/
namespace RL
open PySem L2 DL PyProof.Rows PySem.W
section
variable {M : Mo} {tab : Nat → Option (Str × List Str)} {Γ : Ga} {jr : Nat}
variable {X : Cx} {G : Gx} {e a b d o : Expr} {ρ ρ' ρ1 ρ2 ρ3 : DL.Env} {r s z s1 s2 : Slot} {x y w : D} {ds es : List D} {pos p p2 apos cpos : Pos} {k l k1 k2 k3 : Bool} {n : Str} {xs rest : List Expr} {i j : Nat}
variable {f : Expr → Option CE} {c : Cs} {ms : List Bool} {A : CE}
theorem argTo_ok {m : Bool} {aa : ArgS} (h : argTo ρ m aa = some s) : ArgTo ρ aa s := by
  unfold argTo at h
  split at h
  · injection h with h; subst h
    rename_i k d
    cases hs : isSc d with
    | true => exact .sc hs
    | false =>
      cases k with
      | true => exact .val
      | false => exact .view
  · split at h
    · injection h with h; subst h; rename_i hd; exact .own hd
    · cases h
  · split at h
    · injection h with h; subst h; rename_i hd; exact .bor hd
    · cases h
  · cases h
theorem argsTo_ok : ∀ {mm : List Bool} {as : List ArgS} {args : List Slot}, argsTo ρ mm as = some args → ArgsTo ρ as args
  | [], [], args, h => by cases h; exact .nil
  | m :: mm, a :: as, args, h => by
    simp only [argsTo] at h
    obtain ⟨s, h1, h⟩ := bind_some' h
    obtain ⟨r, h2, h⟩ := bind_some' h
    cases h
    exact .cons (argTo_ok h1) (argsTo_ok h2)
  | [], a :: as, args, h => by cases h
  | m :: mm, [], args, h => by cases h
theorem callS_ok {g : Nat} {q : List ArgS × DL.Env} {u : Slot × DL.Env} (h : callS c g q = some u) : ∃ args outs, ArgsTo q.2 q.1 args ∧ (varsOf q.1).Nodup ∧ c.C g args = some (u.1, outs) ∧ u.2 = backE q.2 q.1 outs := by
  unfold callS at h
  obtain ⟨args, h1, h⟩ := bind_some' h
  obtain ⟨h2, h⟩ := chk_some h
  obtain ⟨w, h3, h⟩ := bind_some' h
  cases h
  exact ⟨args, w.2, argsTo_ok h1, h2, h3, rfl⟩
theorem kw_all {kws : List Keyword} {ps : List Str} {env : PySem.Env} (h : kwNames kws = ps.map some) : (backToKw pos (keywordEach kws env)).all (·.1.isSome) = true ∧ (backToKw pos (keywordEach kws env)).filterMap (·.1) = ps ∧ (backToKw pos (keywordEach kws env)).any (·.1.isNone) = false := by
  induction kws generalizing ps with
  | nil =>
    cases ps with
    | nil => exact ⟨rfl, rfl, rfl⟩
    | cons _ _ => cases h
  | cons k kws ih =>
    obtain ⟨nm, v, kp⟩ := k
    cases ps with
    | nil => cases h
    | cons p ps =>
      unfold kwNames at h
      rw [List.map_cons, List.map_cons] at h
      injection h with h1 h2
      have h1 : nm = some p := h1
      subst h1
      obtain ⟨i1, i2, i3⟩ := ih h2
      refine ⟨?_, ?_, ?_⟩
      · show (true && (backToKw pos (keywordEach kws env)).all (·.1.isSome)) = true
        rw [i1]; rfl
      · show p :: (backToKw pos (keywordEach kws env)).filterMap (·.1) = p :: ps
        rw [i2]
      · show (false || (backToKw pos (keywordEach kws env)).any (·.1.isNone)) = false
        rw [i3]; rfl
theorem tyN_blt {n : Str} {T : String} (h : tyN n = some T) : n ∈ bltN := by
  unfold tyN at h
  repeat' split at h
  all_goals first | (cases h; done) | (rename_i e; subst e; decide)
theorem isi1_ok {T : String} {pT : Pos} (o : OkX M tab Γ jr X) (hg1 : glB Γ.sc "isinstance" = true) (E : ED X G a ρ ρ1 s) (hp : plainD (datS s) = true) (ht : tyN n = some T) (hgn : glB Γ.sc n = true) (hn : nsB a = true) :
    ED X G (.Call (.Name "isinstance" p) [a, .Name n pT] [] pos) ρ ρ1 (.val (.bl (isiL (datS s) [T]))) := by
  obtain ⟨t1, t2, t3, t4⟩ := tyN_ok ht
  obtain ⟨k, E1⟩ := ed_dat E
  exact ed_isi (o.gl hg1) (o.blt (by decide)) E1 hp (o.gl hgn) (o.blt (tyN_blt ht)) t1 t2 t3 t4 (star_ns hn) rfl rfl
theorem isi2_ok {T T2 : String} {n2 : Str} {pT pT2 pt : Pos} {tk : Nat} (o : OkX M tab Γ jr X) (hg1 : glB Γ.sc "isinstance" = true) (E : ED X G a ρ ρ1 s) (hp : plainD (datS s) = true) (ht : tyN n = some T) (hgn : glB Γ.sc n = true) (ht2 : tyN n2 = some T2) (hgn2 : glB Γ.sc n2 = true) (hn : nsB a = true) :
    ED X G (.Call (.Name "isinstance" p) [a, .Tuple [.Name n pT, .Name n2 pT2] tk pt] [] pos) ρ ρ1 (.val (.bl (isiL (datS s) [T, T2]))) := by
  obtain ⟨t1, t2, t3, t4⟩ := tyN_ok ht
  obtain ⟨u1, u2, u3, u4⟩ := tyN_ok ht2
  obtain ⟨k, E1⟩ := ed_dat E
  exact ed_isi2 (o.gl hg1) (o.blt (by decide)) E1 hp (o.gl hgn) (o.blt (tyN_blt ht)) t1 t2 (o.gl hgn2) (o.blt (tyN_blt ht2)) u1 u2 t3 t4 u3 u4 (star_ns hn) rfl rfl rfl rfl
/-- what stands in a call's place -/
def isCallE : Expr → Bool
  | .Call .. => true
  | _ => false
theorem cCall_ok (W : Parts M tab Γ f) (o : OkX M tab Γ jr X) (hc : CalOk M tab jr c) (hm : MsOk G ms) {g : Str} {es : List Expr} {kws : List Keyword} (h : cCall f Γ g es kws = some A) :
    (∀ ρ' r, evE c ms A ρ = some (r, ρ') → ED X G (.Call (.Name g p) es kws pos) ρ ρ' r) ∧ ∀ b ρ', evT c ms A ρ = some (b, ρ') → ∃ k, ED X G (.Call (.Name g p) es kws pos) ρ ρ' (.v k (.bl b)) := by
  have fromCall : ∀ {j : Nat} {B : CE}, (∀ ρ' r, evE c ms (.call j B) ρ = some (r, ρ') → ED X G (.Call (.Name g p) es kws pos) ρ ρ' r) → ∀ b ρ', evT c ms (.call j B) ρ = some (b, ρ') → ∃ k, ED X G (.Call (.Name g p) es kws pos) ρ ρ' (.v k (.bl b)) := by
    intro j B H b ρ' q
    simp only [evT] at q
    obtain ⟨u, q1, q⟩ := bind_some' q
    obtain ⟨v, q2, q⟩ := bind_some' q
    obtain ⟨b', q3, q⟩ := bind_some' q
    cases q
    exact ed_blS (H v.2 v.1 (by simp only [evE, q1, Option.bind_some, q2])) q3
  have fromFn : ∀ {bf : Bf} {B : CE}, (∀ ρ' r, evE c ms (.fn bf B) ρ = some (r, ρ') → ED X G (.Call (.Name g p) es kws pos) ρ ρ' r) → (∀ ρ' r, (evE c ms B ρ).bind (fun p => (fnS bf p.1).bind fun z => some (z, p.2)) = some (r, ρ') → ED X G (.Call (.Name g p) es kws pos) ρ ρ' r) → ∀ b ρ', evT c ms (.fn bf B) ρ = some (b, ρ') → ∃ k, ED X G (.Call (.Name g p) es kws pos) ρ ρ' (.v k (.bl b)) := by
    intro bf B _ H b ρ' q
    simp only [evT] at q
    obtain ⟨u, q1, q⟩ := bind_some' q
    obtain ⟨v, q2, q⟩ := bind_some' q
    obtain ⟨b', q3, q⟩ := bind_some' q
    cases q
    exact ed_blS (H u.2 v (by simp only [q1, Option.bind_some, q2])) q3
  unfold cCall at h
  obtain ⟨hg, h0⟩ := ite_some h
  clear h
  have h := h0
  clear h0
  rw [Bool.and_eq_true] at hg
  obtain ⟨hg1, hg2⟩ := hg
  obtain ⟨hd1, hd2⟩ := okN_ok hg2
  split at h
  · rename_i j ps hf
    have htab := o.fns _ _ _ hf
    split at h
    · obtain ⟨h1, h⟩ := ite_some h
      rw [Bool.and_eq_true] at h1
      obtain ⟨B, h2, rfl⟩ := map_some' h
      have H : ∀ ρ' r, evE c ms (.call j B) ρ = some (r, ρ') → ED X G (.Call (.Name g p) [] kws pos) ρ ρ' r := by
        intro ρ' r q
        simp only [evE] at q
        obtain ⟨u, q1, q⟩ := bind_some' q
        obtain ⟨args, outs, k1, k2, k3, k4⟩ := callS_ok q
        obtain ⟨x, ps', t1, t2, t3, t4⟩ := hc _ _ _ _ k3
        rw [htab] at t1
        cases t1
        obtain ⟨w1, w2, w3⟩ := kw_all (pos := pos) (env := X.env) (of_decide_eq_true h1.2)
        have k4 : ρ' = backE u.2 u.1 outs := k4
        rw [k4]
        rw [← o.prog, ← o.w, ← o.K, ← o.mg, ← o.base] at t2
        exact ed_calK t2 o.room (Nat.le_refl _) (o.gl hg1) (cKws_ok W o hc hm h2 q1) k1 k2 t4 t3 w1 w2 hd1 (by rw [w3]; rfl)
      exact ⟨H, fromCall H⟩
    · rename_i hne
      obtain ⟨B, h2, rfl⟩ := map_some' h
      have H : ∀ ρ' r, evE c ms (.call j B) ρ = some (r, ρ') → ED X G (.Call (.Name g p) es [] pos) ρ ρ' r := by
        intro ρ' r q
        simp only [evE] at q
        obtain ⟨u, q1, q⟩ := bind_some' q
        obtain ⟨args, outs, k1, k2, k3, k4⟩ := callS_ok q
        obtain ⟨x, ps', t1, t2, t3, t4⟩ := hc _ _ _ _ k3
        rw [htab] at t1
        cases t1
        have k4 : ρ' = backE u.2 u.1 outs := k4
        rw [k4]
        rw [← o.prog, ← o.w, ← o.K, ← o.mg, ← o.base] at t2
        have hns := cList_ns h2
        match es, hne, h2, hns with
        | [], hne, _, _ => exact (hne rfl).elim
        | a :: es, _, h2, hns =>
          rw [List.all_cons, Bool.and_eq_true] at hns
          exact ed_cal t2 o.room (Nat.le_refl _) (o.gl hg1) (cList_ok W o hc hm h2 q1) k1 k2 t4 t3 hd1 (star_ns hns.1) (any_ns hns.2)
      exact ⟨H, fromCall H⟩
    · cases h
  · have fnCase : ∀ {a : Expr} {bf : Bf} {B : CE}, es = [a] → kws = [] → nsB a = true → bfN g = some bf → f a = some B → A = .fn bf B → (∀ ρ' r, evE c ms A ρ = some (r, ρ') → ED X G (.Call (.Name g p) es kws pos) ρ ρ' r) ∧ ∀ b ρ', evT c ms A ρ = some (b, ρ') → ∃ k, ED X G (.Call (.Name g p) es kws pos) ρ ρ' (.v k (.bl b)) := by
      intro a bf B e1 e2 hn hb hB eA
      subst e1; subst e2; subst eA
      have base : ∀ ρ' r, (evE c ms B ρ).bind (fun p => (fnS bf p.1).bind fun z => some (z, p.2)) = some (r, ρ') → ED X G (.Call (.Name g p) [a] [] pos) ρ ρ' r := by
        intro ρ' r q
        obtain ⟨u, q1, q⟩ := bind_some' q
        obtain ⟨v, q2, q⟩ := bind_some' q
        cases q
        exact fn_ok o hb hg1 hn ((W.1 _ _ hB).1 X jr G c ms _ _ _ o hc hm q1) q2
      have H : ∀ ρ' r, evE c ms (.fn bf B) ρ = some (r, ρ') → ED X G (.Call (.Name g p) [a] [] pos) ρ ρ' r := by
        intro ρ' r q
        simp only [evE] at q
        split at q
        · rename_i i hi
          obtain ⟨rfl, ds, hd⟩ := ownVar_ok hi
          obtain ⟨x, px, rfl, hx⟩ := W.2 _ _ hB
          obtain ⟨g1, g2, g3, g4⟩ := o.var hx
          obtain ⟨ds', q1, q⟩ := bind_some' q
          cases q
          have hl : g = "len" := by
            unfold bfN at hb
            split at hb
            · assumption
            · repeat' split at hb
              all_goals cases hb
          subst hl
          exact ed_lenO (o.gl hg1) (o.blt (by decide)) g1 g2 (getO_ok q1) rfl rfl g3 g4
        · exact base _ _ q
      exact ⟨H, fromFn H base⟩
    split at h
    · split at h
      · rename_i h1
        obtain ⟨rfl, rfl⟩ := h1
        obtain ⟨h2, h⟩ := ite_some h
        rw [Bool.and_eq_true] at h2
        obtain ⟨B, h3, rfl⟩ := map_some' h
        refine ⟨fun ρ' r q => ?_, fun b ρ' q => ?_⟩
        · simp only [evE] at q
          obtain ⟨u, q1, q⟩ := bind_some' q
          obtain ⟨v, q2, q⟩ := bind_some' q
          cases q
          exact lenSet_ok o hg1 h2.1 h2.2 ((W.1 _ _ h3).1 X jr G c ms _ _ _ o hc hm q1) q2
        · simp only [evT] at q
          obtain ⟨u, q1, q⟩ := bind_some' q
          obtain ⟨v, q2, q⟩ := bind_some' q
          obtain ⟨b', q3, q⟩ := bind_some' q
          cases q
          exact ed_blS (lenSet_ok o hg1 h2.1 h2.2 ((W.1 _ _ h3).1 X jr G c ms _ _ _ o hc hm q1) q2) q3
      · obtain ⟨bf, h1, h⟩ := bind_some' h
        obtain ⟨B, h2, rfl⟩ := map_some' h
        exact fnCase rfl rfl rfl h1 h2 rfl
    · obtain ⟨h0, h⟩ := ite_some h
      obtain ⟨bf, h1, h⟩ := bind_some' h
      obtain ⟨B, h2, rfl⟩ := map_some' h
      exact fnCase rfl rfl h0 h1 h2 rfl
    · split at h
      · rename_i hg0
        subst hg0
        obtain ⟨h1, h⟩ := ite_some h
        rw [Bool.and_eq_true] at h1
        obtain ⟨T, h2, h⟩ := bind_some' h
        obtain ⟨B, h3, rfl⟩ := map_some' h
        refine ⟨fun ρ' r q => ?_, fun b ρ' q => ?_⟩
        · simp only [evE] at q
          obtain ⟨u, q1, q⟩ := bind_some' q
          obtain ⟨q2, q⟩ := chk_some q
          cases q
          exact isi1_ok o hg1 ((W.1 _ _ h3).1 X jr G c ms _ _ _ o hc hm q1) q2 h2 h1.2 h1.1
        · simp only [evT] at q
          obtain ⟨u, q1, q⟩ := bind_some' q
          obtain ⟨q2, q⟩ := chk_some q
          cases q
          exact ⟨_, isi1_ok o hg1 ((W.1 _ _ h3).1 X jr G c ms _ _ _ o hc hm q1) q2 h2 h1.2 h1.1⟩
      · cases h
    · split at h
      · rename_i hg0
        subst hg0
        obtain ⟨h1, h⟩ := ite_some h
        simp only [Bool.and_eq_true] at h1
        obtain ⟨T, h2, h⟩ := bind_some' h
        obtain ⟨T2, h4, h⟩ := bind_some' h
        obtain ⟨B, h3, rfl⟩ := map_some' h
        refine ⟨fun ρ' r q => ?_, fun b ρ' q => ?_⟩
        · simp only [evE] at q
          obtain ⟨u, q1, q⟩ := bind_some' q
          obtain ⟨q2, q⟩ := chk_some q
          cases q
          exact isi2_ok o hg1 ((W.1 _ _ h3).1 X jr G c ms _ _ _ o hc hm q1) q2 h2 h1.1.2 h4 h1.2 h1.1.1
        · simp only [evT] at q
          obtain ⟨u, q1, q⟩ := bind_some' q
          obtain ⟨q2, q⟩ := chk_some q
          cases q
          exact ⟨_, isi2_ok o hg1 ((W.1 _ _ h3).1 X jr G c ms _ _ _ o hc hm q1) q2 h2 h1.1.2 h4 h1.2 h1.1.1⟩
      · cases h
    · cases h
theorem cOwnVar_ok (o : OkX M tab Γ jr X) (h : cOwnVar Γ e = some i) : ∃ x p, e = .Name x p ∧ X.N[i]? = some x ∧ Vis X.env.scope x ∧ (x == ("__debug__" : Str)) = false ∧ (x == ("__classdict__" : Str)) = false := by
  unfold cOwnVar at h
  split at h
  · exact ⟨_, _, rfl, o.var h⟩
  · cases h
/-- x.insert(e, e'), the place within the list -/
theorem ed_insert {b : Expr} {jj : Int} {es ds : List DL.D} {x : DL.D} (hN : X.N[i]? = some n) (hv : Vis X.env.scope n) (h0 : ρ[i]? = some (some (.own es))) (ha : ED X G a ρ ρ1 (.v k1 (.int jj))) (hb : ED X G b ρ1 ρ2 s) (hd : ToV s x) (h1 : ρ2[i]? = some (some (.own ds))) (hj : 0 ≤ jj ∧ jj ≤ ds.length ∧ ds.length < sizeLine)
    (hdb : (n == ("__debug__" : Str)) = false) (hcd : (n == ("__classdict__" : Str)) = false) (hbase : attributeBase (.Name n p) "insert" X.env (eval (.Name n p) X.env) = eval (.Name n p) X.env)
    (hna : nsB a = true) (hnb : nsB b = true) (hline : (apos.endLine == cpos.line) = true) : ED X G (.Call (.Attribute (.Name n p) "insert" apos) [a, b] [] cpos) ρ (ρ2.set i (some (.own (ds.take jj.toNat ++ x :: ds.drop jj.toNat)))) (.val .non) :=
  pe_mono (pe_bm PySem.F.plainAttrs_list PySem.F.slot_list_insert PySem.F.type_list_insert mt_insert (pe_var hN hv hdb hcd) (ea_two ha (ed_toV hb hd) (star_ns hna) (star_ns hnb)) hbase (by rw [star_ns hna, star_ns hnb]; rfl) hline (star_ns hna) (by rw [star_ns hnb]; rfl)) fun σ H Q ⟨F, E, q⟩ => by
    obtain ⟨A, vs, g1, g2, g3, g4, g5⟩ := E.own i es h0
    refine ⟨_, g1, .inl ⟨rfl, vs, SqL.of g2⟩, F, E, fun F2 H2 v u e2 E2 r1 r2 => ?_⟩
    obtain ⟨A', vs', m1, m2, m3, m4, m5⟩ := E2.own i ds h1
    rw [g1] at m1; cases m1
    have hu : Rep X.K F2 x u := r2
    have hl : (sizeLine : Nat) < 2 ^ 63 := by decide
    refine ⟨A, vs', jj, u, rfl, by rw [of_int r1], m2, by rw [m5.length]; exact hj.2.2, hj.1, by omega, ?_⟩
    refine q F2 _ _ e2 (E2.write h1 g1 ?_) sr_non
    rw [List.append_assoc]
    exact (m5.take _).append (.cons hu (m5.drop _))
theorem cMeth_ok (W : Parts M tab Γ f) (ox : OkX M tab Γ jr X) (hc : CalOk M tab jr c) (hm : MsOk G ms) {m : Str} {es : List Expr} (hl : (apos.endLine == cpos.line) = true) (h : cMeth f Γ o m es = some A) :
    (∀ ρ' r, evE c ms A ρ = some (r, ρ') → ED X G (.Call (.Attribute o m apos) es [] cpos) ρ ρ' r) ∧ ∀ b ρ', evT c ms A ρ ≠ some (b, ρ') := by
  unfold cMeth at h
  split at h
  · split at h
    · rename_i hm'
      subst hm'
      obtain ⟨i, h1, rfl⟩ := map_some' h
      obtain ⟨x, p, rfl, g1, g2, g3, g4⟩ := cOwnVar_ok ox h1
      refine ⟨fun ρ' r q => ?_, fun b ρ' q => by simp only [evT] at q; cases q⟩
      simp only [evE] at q
      obtain ⟨ds, q1, q⟩ := bind_some' q
      cases q
      exact ed_reverse g1 g2 (getO_ok q1) g3 g4 rfl hl
    · cases h
  · obtain ⟨hn, h0⟩ := ite_some h
    clear h
    have h := h0
    clear h0
    split at h
    · rename_i hm'
      subst hm'
      obtain ⟨i, h1, h⟩ := bind_some' h
      obtain ⟨B, h2, rfl⟩ := map_some' h
      obtain ⟨x, p, rfl, g1, g2, g3, g4⟩ := cOwnVar_ok ox h1
      refine ⟨fun ρ' r q => ?_, fun b ρ' q => by simp only [evT] at q; cases q⟩
      simp only [evE] at q
      obtain ⟨es, q1, q⟩ := bind_some' q
      obtain ⟨u, q2, q⟩ := bind_some' q
      obtain ⟨d, q3, q⟩ := bind_some' q
      obtain ⟨ds, q4, q⟩ := bind_some' q
      obtain ⟨q5, q⟩ := chk_some q
      cases q
      exact ed_append g1 g2 (getO_ok q1) ((W.1 _ _ h2).1 X jr G c ms _ _ _ ox hc hm q2) (toV_ok q3) (getO_ok q4) q5 g3 g4 rfl (star_ns hn) rfl hl (few_ok hn)
    · split at h
      · rename_i hm'
        subst hm'
        obtain ⟨i, h1, h⟩ := bind_some' h
        obtain ⟨B, h2, rfl⟩ := map_some' h
        obtain ⟨x, p, rfl, g1, g2, g3, g4⟩ := cOwnVar_ok ox h1
        refine ⟨fun ρ' r q => ?_, fun b ρ' q => by simp only [evT] at q; cases q⟩
        simp only [evE] at q
        obtain ⟨es, q1, q⟩ := bind_some' q
        obtain ⟨u, q2, q⟩ := bind_some' q
        obtain ⟨d, q3, q⟩ := bind_some' q
        obtain ⟨ds, q4, q⟩ := bind_some' q
        split at q
        · obtain ⟨q5, q⟩ := chk_some q
          cases q
          exact ed_extend g1 g2 (getO_ok q1) ((W.1 _ _ h2).1 X jr G c ms _ _ _ ox hc hm q2) (toV_ok q3) (getO_ok q4) q5 g3 g4 rfl (star_ns hn) rfl hl (few_ok hn)
        · cases q
      · split at h
        · rename_i hm'
          subst hm'
          obtain ⟨i, h1, h⟩ := bind_some' h
          obtain ⟨B, h2, rfl⟩ := map_some' h
          obtain ⟨x, p, rfl, g1, g2, g3, g4⟩ := cOwnVar_ok ox h1
          refine ⟨fun ρ' r q => ?_, fun b ρ' q => by simp only [evT] at q; cases q⟩
          simp only [evE] at q
          obtain ⟨es, q1, q⟩ := bind_some' q
          obtain ⟨u, q2, q⟩ := bind_some' q
          obtain ⟨j, q3, q⟩ := bind_some' q
          obtain ⟨ds, q4, q⟩ := bind_some' q
          obtain ⟨q5, q⟩ := chk_some q
          obtain ⟨d, q6, q⟩ := bind_some' q
          obtain ⟨k, E1⟩ := ed_intS ((W.1 _ _ h2).1 X jr G c ms _ _ _ ox hc hm q2) q3
          cases q
          exact ed_popAt g1 g2 (getO_ok q1) E1 (getO_ok q4) (by omega) q6 q5.2 g3 g4 rfl (star_ns hn) rfl hl (few_ok hn)
        · split at h
          · rename_i hm'
            subst hm'
            obtain ⟨hr, h⟩ := ite_some h
            obtain ⟨B, h1, h⟩ := bind_some' h
            obtain ⟨B2, h2, rfl⟩ := map_some' h
            refine ⟨fun ρ' r q => ?_, fun b ρ' q => by simp only [evT] at q; cases q⟩
            simp only [evE] at q
            obtain ⟨u, q1, q⟩ := bind_some' q
            obtain ⟨v, q2, q⟩ := bind_some' q
            obtain ⟨w, q3, q⟩ := bind_some' q
            obtain ⟨q4, q⟩ := chk_some q
            obtain ⟨d, E1, E2⟩ := ed_seq ((W.1 _ _ h1).1 X jr G c ms _ _ _ ox hc hm q1) q3
            obtain ⟨k, E3⟩ := ed_dat ((W.1 _ _ h2).1 X jr G c ms _ _ _ ox hc hm q2)
            cases q
            cases E2 with
            | lst => exact ed_countL E1 E3 q4.1 q4.2 (recv_ok hr) (star_ns hn) rfl hl (few_ok hn)
            | tup => exact ed_countT E1 E3 q4.1 q4.2 (recv_ok hr) (star_ns hn) rfl hl (few_ok hn)
          · split at h
            · rename_i hm'
              subst hm'
              obtain ⟨hr, h⟩ := ite_some h
              obtain ⟨B, h1, h⟩ := bind_some' h
              obtain ⟨B2, h2, rfl⟩ := map_some' h
              refine ⟨fun ρ' r q => ?_, fun b ρ' q => by simp only [evT] at q; cases q⟩
              simp only [evE] at q
              obtain ⟨u, q1, q⟩ := bind_some' q
              obtain ⟨v, q2, q⟩ := bind_some' q
              obtain ⟨t, q3, q⟩ := bind_some' q
              obtain ⟨ds, q4, q⟩ := bind_some' q
              obtain ⟨ss, q5, q⟩ := bind_some' q
              obtain ⟨q6, q⟩ := chk_some q
              obtain ⟨k, E1⟩ := ed_strS ((W.1 _ _ h1).1 X jr G c ms _ _ _ ox hc hm q1) q3
              cases q
              exact ed_join E1 ((W.1 _ _ h2).1 X jr G c ms _ _ _ ox hc hm q2) (lstS_ok q4) (strsOf_eq q5) q6 (recv_ok hr) (star_ns hn) rfl hl (few_ok hn)
            · cases h
  · rename_i a b
    obtain ⟨h0, gg⟩ := ite_some h
    clear h
    simp only [Bool.and_eq_true, decide_eq_true_eq] at h0
    obtain ⟨⟨hna, hnb⟩, hm'⟩ := h0
    subst hm'
    obtain ⟨i, h1, h⟩ := bind_some' gg
    obtain ⟨B, h2, h⟩ := bind_some' h
    obtain ⟨B2, h3, rfl⟩ := map_some' h
    obtain ⟨x, p, rfl, g1, g2, g3, g4⟩ := cOwnVar_ok ox h1
    refine ⟨fun ρ' r q => ?_, fun b ρ' q => by simp only [evT] at q; cases q⟩
    simp only [evE] at q
    obtain ⟨es, q1, q⟩ := bind_some' q
    obtain ⟨u, q2, q⟩ := bind_some' q
    obtain ⟨jj, q3, q⟩ := bind_some' q
    obtain ⟨v, q4, q⟩ := bind_some' q
    obtain ⟨d, q5, q⟩ := bind_some' q
    obtain ⟨ds, q6, q⟩ := bind_some' q
    obtain ⟨q7, q⟩ := chk_some q
    obtain ⟨k, E1⟩ := ed_intS ((W.1 _ _ h2).1 X jr G c ms _ _ _ ox hc hm q2) q3
    cases q
    exact ed_insert g1 g2 (getO_ok q1) E1 ((W.1 _ _ h3).1 X jr G c ms _ _ _ ox hc hm q4) (toV_ok q5) (getO_ok q6) q7 g3 g4 rfl hna hnb hl
  · cases h
end
end RL
/-! RL6: comprehensions; all expressions. -/
namespace RL
open PySem L2 DL PyProof.Rows PySem.W
theorem compL_some {f : Nat → DL.Env → Option (Option D × DL.Env)} : ∀ {k t : Nat} {ρ : DL.Env} {acc : List D} {z : List D × DL.Env}, compL f t k ρ acc = some z → ∀ i, t ≤ i → i < t + k → ∃ ρ' q, f i ρ' = some q
  | 0, t, ρ, acc, z, h, i, h1, h2 => by omega
  | k + 1, t, ρ, acc, z, h, i, h1, h2 => by
    obtain ⟨q, h3, h4⟩ := bind_some' h
    by_cases e : t = i
    · subst e; exact ⟨_, _, h3⟩
    · exact compL_some h4 i (by omega) (by omega)
section
variable {M : Mo} {tab : Nat → Option (Str × List Str)} {Γ : Ga} {jr : Nat}
variable {X : Cx} {G : Gx} {e a b d o : Expr} {ρ ρ' ρ1 ρ2 ρ3 : DL.Env} {r s z s1 s2 : Slot} {x y : D} {ds es : List D} {pos p p2 apos cpos : Pos} {k l k1 k2 k3 : Bool} {n : Str} {xs rest : List Expr} {i j : Nat}
variable {f : Expr → Option CE} {c : Cs} {ms : List Bool} {A : CE}
noncomputable def compF (c : Cs) (e : CE) (tg : Tgt) (vs : List Nat) (it : Nat → Yld) (t : Nat) (ρ' : DL.Env) : Option (Option D × DL.Env) :=
  (bindY tg (it t)).bind fun g => (evE c (maskE (g (wipeE ρ' vs))) e (g (wipeE ρ' vs))).bind fun q => (toV q.1).bind fun x => some (some x, mergeE 0 ρ' q.2 vs)
noncomputable def compIF (c : Cs) (e t : CE) (tg : Tgt) (vs : List Nat) (it : Nat → Yld) (i : Nat) (ρ' : DL.Env) : Option (Option D × DL.Env) :=
  (bindY tg (it i)).bind fun g => (evT c (maskE (g (wipeE ρ' vs))) t (g (wipeE ρ' vs))).bind fun b => chk (b.2 = g (wipeE ρ' vs)) (
      if b.1 then (evE c (maskE (g (wipeE ρ' vs))) e (g (wipeE ρ' vs))).bind fun q => (toV q.1).bind fun x => some (some x, mergeE 0 ρ' q.2 vs) else some (none, mergeE 0 ρ' (g (wipeE ρ' vs)) vs))
theorem comp_ok (ox : OkX M tab Γ jr X) (hc : CalOk M tab jr c) (hm : MsOk G ms) {sc : Scope} {elt tg it : Expr} {w : Wk} {g : Tgt} {E : CE} {z : List D × DL.Env}
    (hb : DL.blkC Γ.N Γ.sc sc (cOwn Γ.N sc) = true) (hw : WD X G tg it ρ ρ1 w.m w.it ∧ ∀ x, foldedSetIterable it X.env x = pure x) (ht : cTgt { Γ with sc := relS sc Γ.sc, top := false, cl := fun x => sc.names.lookup x == some .cell } tg = some g)
    (hix : g.ix.all (fun i => decide (i ∈ (cOwn Γ.N sc).map (·.2))) = true) (he : SE M tab { Γ with sc := relS sc Γ.sc, top := false, cl := fun x => sc.names.lookup x == some .cell } elt E) (hz : w.m ≤ sizeLine) (hfr : ((cOwn Γ.N sc).map (·.2)).all (frB ms) = true)
    (q : compL (compF c E g ((cOwn Γ.N sc).map (·.2)) w.it) 0 w.m ρ1 [] = some z) : CD X G (.ListComp elt [⟨tg, it, [], 0⟩] sc pos) ρ z.2 z.1 := by
  have hmv : ∀ i ∈ (cOwn Γ.N sc).map (·.2), G.ms[i]? ≠ some true := fun i hi => hm i (List.all_eq_true.mp hfr i hi)
  have hiv : ∀ i ∈ g.ix, i ∈ (cOwn Γ.N sc).map (·.2) := fun i hi => of_decide_eq_true (List.all_eq_true.mp hix i hi)
  have hok : BlkOk X.N X.env.scope sc (cOwn Γ.N sc) := by rw [ox.N, ox.sc]; exact DL.blk_by hb
  have hbind : ∀ t, t < w.m → ∃ f, bindY g (w.it t) = some f := fun t h => by
    obtain ⟨ρ', u, h1⟩ := compL_some q t (Nat.zero_le _) (by omega)
    obtain ⟨f, h2, _⟩ := bind_some' h1
    exact ⟨f, h2⟩
  refine cd_lc (ρ1 := ρ1) (g := gOf X.K g) (ix := g.ix) (vs := (cOwn Γ.N sc).map (·.2)) (it := w.it) (ft := fun t => (bindY g (w.it t)).getD id) (m := w.m) (fun t ρ' acc => compL (compF c E g ((cOwn Γ.N sc).map (·.2)) w.it) t (w.m - t) ρ' acc = some z ∧ acc.length ≤ t) hok rfl ox.calm (by rw [ox.N]; exact ox.nd) hw.1 (fun s H C cl fp => ?_) (fun t h => ?_) hiv hmv hz ⟨by simpa using q, Nat.le_refl _⟩ (fun t ρ' acc h => h.2) (fun t ρ' acc h hj => ?_) (fun ρ' acc' hj => ?_) hw.2
  · exact cTgt_ok (ox.blk s H sc cl C fp) ht
  · obtain ⟨f, h1⟩ := hbind t h
    simp only [h1, Option.getD_some]
    exact bindY_ok h1 fun i hi => hmv i (hiv i hi)
  · obtain ⟨hj, hl⟩ := hj
    rw [show w.m - t = (w.m - (t + 1)) + 1 by omega] at hj
    obtain ⟨u, h1, h2⟩ := bind_some' hj
    unfold compF at h1
    obtain ⟨f, h3, h1⟩ := bind_some' h1
    obtain ⟨v, h4, h1⟩ := bind_some' h1
    obtain ⟨x, h5, h1⟩ := bind_some' h1
    cases h1
    simp only [h3, Option.getD_some]
    refine ⟨v.2, x, fun s H C cl fp F1 H1 ws => ?_, h2, by rw [List.length_append, List.length_singleton]; omega⟩
    exact ed_toV (he _ jr _ c _ _ _ _ (ox.blk s H sc cl C fp) hc msOk_mask h4) (toV_ok h5)
  · obtain ⟨hj, _⟩ := hj
    rw [Nat.sub_self] at hj
    cases hj
    exact ⟨rfl, rfl⟩
theorem compI_ok (ox : OkX M tab Γ jr X) (hc : CalOk M tab jr c) (hm : MsOk G ms) {sc : Scope} {elt tg it t : Expr} {w : Wk} {g : Tgt} {E T : CE} {z : List D × DL.Env}
    (hb : DL.blkC Γ.N Γ.sc sc (cOwn Γ.N sc) = true) (hw : WD X G tg it ρ ρ1 w.m w.it ∧ ∀ x, foldedSetIterable it X.env x = pure x) (ht : cTgt { Γ with sc := relS sc Γ.sc, top := false, cl := fun x => sc.names.lookup x == some .cell } tg = some g)
    (hix : g.ix.all (fun i => decide (i ∈ (cOwn Γ.N sc).map (·.2))) = true) (he : SE M tab { Γ with sc := relS sc Γ.sc, top := false, cl := fun x => sc.names.lookup x == some .cell } elt E) (hT : ST M tab { Γ with sc := relS sc Γ.sc, top := false, cl := fun x => sc.names.lookup x == some .cell } t T) (hz : w.m ≤ sizeLine) (hfr : ((cOwn Γ.N sc).map (·.2)).all (frB ms) = true)
    (q : compL (compIF c E T g ((cOwn Γ.N sc).map (·.2)) w.it) 0 w.m ρ1 [] = some z) : CD X G (.ListComp elt [⟨tg, it, [t], 0⟩] sc pos) ρ z.2 z.1 := by
  have hmv : ∀ i ∈ (cOwn Γ.N sc).map (·.2), G.ms[i]? ≠ some true := fun i hi => hm i (List.all_eq_true.mp hfr i hi)
  have hiv : ∀ i ∈ g.ix, i ∈ (cOwn Γ.N sc).map (·.2) := fun i hi => of_decide_eq_true (List.all_eq_true.mp hix i hi)
  have hok : BlkOk X.N X.env.scope sc (cOwn Γ.N sc) := by rw [ox.N, ox.sc]; exact DL.blk_by hb
  have hbind : ∀ t, t < w.m → ∃ f, bindY g (w.it t) = some f := fun t h => by
    obtain ⟨ρ', u, h1⟩ := compL_some q t (Nat.zero_le _) (by omega)
    obtain ⟨f, h2, _⟩ := bind_some' h1
    exact ⟨f, h2⟩
  refine cd_lcI (ρ1 := ρ1) (g := gOf X.K g) (ix := g.ix) (vs := (cOwn Γ.N sc).map (·.2)) (it := w.it) (ft := fun t => (bindY g (w.it t)).getD id) (m := w.m) (fun t ρ' acc => compL (compIF c E T g ((cOwn Γ.N sc).map (·.2)) w.it) t (w.m - t) ρ' acc = some z ∧ acc.length ≤ t) hok rfl ox.calm (by rw [ox.N]; exact ox.nd) hw.1 (fun s H C cl fp => ?_) (fun t h => ?_) hiv hmv hz ⟨by simpa using q, Nat.le_refl _⟩ (fun t ρ' acc h => h.2) (fun i ρ' acc h hj => ?_) (fun ρ' acc' hj => ?_) hw.2
  · exact cTgt_ok (ox.blk s H sc cl C fp) ht
  · obtain ⟨f, h1⟩ := hbind t h
    simp only [h1, Option.getD_some]
    exact bindY_ok h1 fun i hi => hmv i (hiv i hi)
  · obtain ⟨hj, hl⟩ := hj
    rw [show w.m - i = (w.m - (i + 1)) + 1 by omega] at hj
    obtain ⟨u, h1, h2⟩ := bind_some' hj
    unfold compIF at h1
    obtain ⟨f, h3, h1⟩ := bind_some' h1
    obtain ⟨b, h6, h1⟩ := bind_some' h1
    obtain ⟨h7, h1⟩ := chk_some h1
    simp only [h3, Option.getD_some]
    refine ⟨b.1, fun s H C cl fp F1 H1 ws => ?_, fun hbt => ?_, fun hbf => ?_⟩
    · have := hT _ jr ⟨F1, H1, ws, maskE (f (wipeE ρ' ((cOwn Γ.N sc).map (·.2))))⟩ c _ _ b.2 b.1 (ox.blk s H sc cl C fp) hc msOk_mask h6
      rw [h7] at this; exact this
    · rw [hbt, if_pos rfl] at h1
      obtain ⟨v, h4, h1⟩ := bind_some' h1
      obtain ⟨x, h5, h1⟩ := bind_some' h1
      cases h1
      refine ⟨v.2, x, fun s H C cl fp F1 H1 ws => ?_, h2, by rw [List.length_append, List.length_singleton]; omega⟩
      exact ed_toV (he _ jr _ c _ _ _ _ (ox.blk s H sc cl C fp) hc msOk_mask h4) (toV_ok h5)
    · rw [hbf, if_neg Bool.false_ne_true] at h1
      cases h1
      exact ⟨h2, by omega⟩
  · obtain ⟨hj, _⟩ := hj
    rw [Nat.sub_self] at hj
    cases hj
    exact ⟨rfl, rfl⟩
theorem comp_main (W : Parts M tab Γ f) (ox : OkX M tab Γ jr X) (hc : CalOk M tab jr c) (hm : MsOk G ms) {sc : Scope} {elt tg it : Expr} {w : CE} {g : Tgt} {E : CE}
    (hb : DL.blkC Γ.N Γ.sc sc (cOwn Γ.N sc) = true) (h1 : cWalk f Γ.sc tg it = some w) (ht : cTgt { Γ with sc := relS sc Γ.sc, top := false, cl := fun x => sc.names.lookup x == some .cell } tg = some g)
    (hix : g.ix.all (fun i => decide (i ∈ (cOwn Γ.N sc).map (·.2))) = true) (he : SE M tab { Γ with sc := relS sc Γ.sc, top := false, cl := fun x => sc.names.lookup x == some .cell } elt E)
    (q : evE c ms (.comp E w g ((cOwn Γ.N sc).map (·.2))) ρ = some (r, ρ')) : ∃ acc, r = .own acc ∧ CD X G (.ListComp elt [⟨tg, it, [], 0⟩] sc pos) ρ ρ' acc := by
  simp only [evE] at q
  obtain ⟨u, q1, q⟩ := bind_some' q
  obtain ⟨⟨q2, q3⟩, q⟩ := chk_some q
  obtain ⟨z, q4, q⟩ := bind_some' q
  cases q
  exact ⟨_, rfl, comp_ok ox hc hm hb (cWalk_ok W ox hc hm h1 q1) ht hix he q2 q3 q4⟩
theorem compI_main (W : Parts M tab Γ f) (ox : OkX M tab Γ jr X) (hc : CalOk M tab jr c) (hm : MsOk G ms) {sc : Scope} {elt tg it t : Expr} {w : CE} {g : Tgt} {E T : CE}
    (hb : DL.blkC Γ.N Γ.sc sc (cOwn Γ.N sc) = true) (h1 : cWalk f Γ.sc tg it = some w) (ht : cTgt { Γ with sc := relS sc Γ.sc, top := false, cl := fun x => sc.names.lookup x == some .cell } tg = some g)
    (hix : g.ix.all (fun i => decide (i ∈ (cOwn Γ.N sc).map (·.2))) = true) (he : SE M tab { Γ with sc := relS sc Γ.sc, top := false, cl := fun x => sc.names.lookup x == some .cell } elt E) (hT : ST M tab { Γ with sc := relS sc Γ.sc, top := false, cl := fun x => sc.names.lookup x == some .cell } t T)
    (q : evE c ms (.compI E T w g ((cOwn Γ.N sc).map (·.2))) ρ = some (r, ρ')) : ∃ acc, r = .own acc ∧ CD X G (.ListComp elt [⟨tg, it, [t], 0⟩] sc pos) ρ ρ' acc := by
  simp only [evE] at q
  obtain ⟨u, q1, q⟩ := bind_some' q
  obtain ⟨⟨q2, q3⟩, q⟩ := chk_some q
  obtain ⟨z, q4, q⟩ := bind_some' q
  cases q
  exact ⟨_, rfl, compI_ok ox hc hm hb (cWalk_ok W ox hc hm h1 q1) ht hix he hT q2 q3 q4⟩
/-- what a walk's text is, in any frame -/
theorem cWalk_fold {sc : Scope} {tg it : Expr} (h : cWalk f sc tg it = some A) (env : PySem.Env) (x : Value) : foldedSetIterable it env x = pure x := by
  unfold cWalk at h
  split at h
  · rfl
  · rfl
  · cases h
  · rename_i hn1 hn2 hn3
    cases it <;> first | rfl | (exact (hn3 _ _ _ rfl).elim)
theorem reps_emp {K : PySem.W.Frag} {F : Hp} {vs : List V} (h : Reps K F ds vs) : (!ds.isEmpty) = !vs.isEmpty := by
  have e := h.length
  cases ds <;> cases vs <;> first | rfl | (cases e; done)
/-- a list's truth -/
theorem et_lst (ha : ED X G a ρ ρ1 (.v k (.lst ds))) (he : ∀ whole, isTrue a X.env whole = (do let v ← whole; standAt a.pos; holding [v] (truthy v)) := by intro _; rfl) : ET X G a ρ ρ1 (!ds.isEmpty) :=
  pt_mono (pt_truth ha he) fun σ H Q ⟨F, E, q⟩ => ⟨F, E, fun F1 H1 v e1 E1 r1 => by
    obtain ⟨p, vs, rfl, h2, h3⟩ := RK.lst r1
    exact ⟨_, .inl ⟨vs, sql_rd (E1.atH.rd h2), reps_emp h3⟩, q F1 H1 e1 E1⟩⟩
theorem et_lstO {pos' : Pos} (hN : X.N[i]? = some n) (hv : Vis X.env.scope n) (h0 : ρ[i]? = some (some (.own ds))) (hd : (n == ("__debug__" : Str)) = false) (hcd : (n == ("__classdict__" : Str)) = false) : ET X G (.Name n pos') ρ ρ (!ds.isEmpty) :=
  pt_mono (pt_truth (pe_var hN hv hd hcd) (by intro _; rfl)) fun σ H Q ⟨F, E, q⟩ => by
    obtain ⟨A, vs, g1, g2, g3, g4, g5⟩ := E.own i ds h0
    exact ⟨_, g1, _, .inl ⟨vs, SqL.of g2, reps_emp g5⟩, q F H (Ext.refl _) E⟩
/-- x != [] -/
theorem own_nem {pos' p' : Pos} (hu : X.A.units + 64 < cLine) (hN : X.N[i]? = some n) (hv : Vis X.env.scope n) (h0 : ρ[i]? = some (some (.own ds))) (hd : (n == ("__debug__" : Str)) = false) (hcd : (n == ("__classdict__" : Str)) = false) :
    ED X G (.Compare (.Name n pos') [.NotEq] [.List [] p'] pos) ρ ρ (.val (.bl (!ds.isEmpty))) ∧ ET X G (.Compare (.Name n pos') [.NotEq] [.List [] p'] pos) ρ ρ (!ds.isEmpty) := by
  have nl : ED X G (.List [] p') ρ ρ (.own []) := ed_lst ea_nil (Nat.zero_le _)
  cases ds with
  | nil =>
    have key : ∀ {σ : L2.St} {F H F1 H1 : Hp} {a : Addr} {vs : List V} {u : V} {Q : VK}, ER X.K G F H σ ρ → σ[i]? = some (some (.ref a)) → ER X.K G F1 H1 σ ρ → SR X.K G F1 H1 σ ρ (.own []) u → Q (.bl false) H1 → rNeD X.K (.ref a) u H1 Q := fun {σ F H F1 H1 a vs u Q} E g1 E1 r1 q => by
      obtain ⟨a', vs', k1, k2, k3, k4, k5⟩ := E1.own i [] h0
      rw [g1] at k1; cases k1
      obtain ⟨b, ws, rfl, m2, m3, m4, m5, m6⟩ := r1
      rw [k5.nil_of] at k2
      rw [m5.nil_of] at m2
      exact ⟨.list [], .list [], .lst (SqL.of k2) .nil, .lst (SqL.of m2) .nil, rfl, rfl, q⟩
    refine ⟨pe_mono (pe_cmpR (op_neD hu) (pe_var hN hv hd hcd) nl (nomark _)) fun σ H Q ⟨F, E, q⟩ => ?_, pt_mono (pt_cmpR (op_neD hu) (pe_var hN hv hd hcd) nl (nomark _)) fun σ H Q ⟨F, E, q⟩ => ?_⟩
    · obtain ⟨a, vs, g1, _⟩ := E.own i [] h0
      exact ⟨_, g1, F, E, fun F1 H1 u e1 E1 r1 => key (vs := vs) E g1 E1 r1 (q F1 H1 _ e1 E1 sr_bl)⟩
    · obtain ⟨a, vs, g1, _⟩ := E.own i [] h0
      exact ⟨_, g1, F, E, fun F1 H1 u e1 E1 r1 => key (vs := vs) E g1 E1 r1 ⟨false, rfl, q F1 H1 e1 E1⟩⟩
  | cons d ds =>
    have key : ∀ {σ : L2.St} {F H F1 H1 : Hp} {a : Addr} {vs : List V} {u : V} {Q : VK}, ER X.K G F H σ ρ → σ[i]? = some (some (.ref a)) → ER X.K G F1 H1 σ ρ → SR X.K G F1 H1 σ ρ (.own []) u → Q (.bl true) H1 → rEqLen X.K true (.ref a) u H1 Q := fun {σ F H F1 H1 a vs u Q} E g1 E1 r1 q => by
      obtain ⟨a', vs', k1, k2, k3, k4, k5⟩ := E1.own i _ h0
      rw [g1] at k1; cases k1
      obtain ⟨b, ws, rfl, m2, m3, m4, m5, m6⟩ := r1
      exact ⟨_, b, vs', ws, rfl, rfl, SqL.of k2, SqL.of m2, by rw [k5.length, m5.length]; simp, q⟩
    refine ⟨pe_mono (pe_cmpR (op_neLen hu) (pe_var hN hv hd hcd) nl (nomark _)) fun σ H Q ⟨F, E, q⟩ => ?_, pt_mono (pt_cmpR (op_neLen hu) (pe_var hN hv hd hcd) nl (nomark _)) fun σ H Q ⟨F, E, q⟩ => ?_⟩
    · obtain ⟨a, vs, g1, _⟩ := E.own i _ h0
      exact ⟨_, g1, F, E, fun F1 H1 u e1 E1 r1 => key (vs := vs) E g1 E1 r1 (q F1 H1 _ e1 E1 sr_bl)⟩
    · obtain ⟨a, vs, g1, _⟩ := E.own i _ h0
      exact ⟨_, g1, F, E, fun F1 H1 u e1 E1 r1 => key (vs := vs) E g1 E1 r1 ⟨true, rfl, q F1 H1 e1 E1⟩⟩
theorem val_nem {pos' p' : Pos} {z : Bool} (hu : X.A.units + 64 < cLine) (hN : X.N[i]? = some n) (hv : Vis X.env.scope n) (h0 : ρ[i]? = some (some (.v k x))) (hd : (n == ("__debug__" : Str)) = false) (hcd : (n == ("__classdict__" : Str)) = false) (hz : eqX x (.lst []) = some z) :
    ED X G (.Compare (.Name n pos') [.NotEq] [.List [] p'] pos) ρ ρ (.val (.bl (!z))) ∧ ET X G (.Compare (.Name n pos') [.NotEq] [.List [] p'] pos) ρ ρ (!z) :=
  cmp_ok hu (ed_var hN hv h0 hd hcd) (ed_lst ea_nil (by show 0 ≤ sizeLine; exact Nat.zero_le _)) (by show (eqX x (.lst [])).map (!·) = _; rw [hz]; rfl) (nomark _)
theorem wkF_ok {tg : Expr} {w : Wk} (h : ED X G e ρ ρ' s) (q : wkF s = some w) : WF X G tg e ρ ρ' w.m w.it := by
  unfold wkF at q
  split at q
  · cases q; exact wf_list (dx := .non) h
  · cases q; exact wf_tup (dx := .non) h
  · cases q; exact wf_str h
  · cases q
theorem cWalkF_ok (W : Parts M tab Γ f) (o : OkX M tab Γ jr X) (hc : CalOk M tab jr c) {F1 H1 : Hp} {tg it : Expr} {w : Wk} (h : cWalk f Γ.sc tg it = some A) (q : evWF c A ρ = some w) : WF X (pG F1 H1) tg it ρ ρ w.m w.it := by
  have hm : MsOk (pG F1 H1) [] := fun i _ h => by cases h
  have plain : ∀ {e : Expr}, (f e).map CE.one = some A → WF X (pG F1 H1) tg e ρ ρ w.m w.it := fun {e} h => by
    obtain ⟨a, h1, rfl⟩ := map_some' h
    simp only [evWF] at q
    obtain ⟨u, q1, q⟩ := bind_some' q
    obtain ⟨q2, q⟩ := chk_some q
    have E1 := (W.1 _ _ h1).1 X jr (pG F1 H1) c [] _ _ _ o hc hm q1
    rw [q2] at E1
    exact wkF_ok E1 q
  unfold cWalk at h
  split at h
  · split at h
    · rename_i hg
      subst hg
      obtain ⟨h1, h⟩ := ite_some h
      rw [Bool.and_eq_true] at h1
      obtain ⟨a, h2, rfl⟩ := map_some' h
      simp only [evWF] at q
      obtain ⟨u, q1, q⟩ := bind_some' q
      obtain ⟨q2, q⟩ := chk_some q
      obtain ⟨i, q3, q⟩ := bind_some' q
      obtain ⟨h3, q⟩ := chk_some q
      have E0 := (W.1 _ _ h2).1 X jr (pG F1 H1) c [] _ _ _ o hc hm q1
      rw [q2] at E0
      obtain ⟨k1, E1⟩ := ed_intS E0 q3
      cases q
      exact wf_range (o.gl h1.1) (o.blt (by decide)) E1 h3 (star_ns h1.2)
    · split at h
      · obtain ⟨h1, h⟩ := ite_some h
        obtain ⟨a, h2, rfl⟩ := map_some' h
        simp only [evWF] at q
        cases q
      · exact plain h
  · split at h
    · obtain ⟨h1, h⟩ := ite_some h
      obtain ⟨a, h2, h⟩ := bind_some' h
      obtain ⟨b, h6, h⟩ := bind_some' h
      injection h with h; subst h
      simp only [evWF] at q
      cases q
    · split at h
      · obtain ⟨h1, h⟩ := ite_some h
        obtain ⟨a, h2, h⟩ := bind_some' h
        obtain ⟨b, h6, h⟩ := bind_some' h
        injection h with h; subst h
        simp only [evWF] at q
        cases q
      · exact plain h
  · cases h
  · exact plain h
theorem pairL_some {f : Nat → Option (List D)} : ∀ {m : Nat} {l : List D}, pairL f m = some l → (∀ t, t < m → ∃ k, f t = some k) ∧ preL (fun t => (f t).getD []) m = l
  | 0, l, h => by
    cases h
    exact ⟨fun t ht => absurd ht (Nat.not_lt_zero _), rfl⟩
  | m + 1, l, h => by
    obtain ⟨l1, h1, h⟩ := bind_some' h
    obtain ⟨k, h2, h⟩ := bind_some' h
    cases h
    obtain ⟨i1, i2⟩ := pairL_some h1
    refine ⟨fun t ht => ?_, ?_⟩
    · by_cases e : t = m
      · subst e; exact ⟨k, h2⟩
      · exact i1 t (by omega)
    · rw [preL_succ, i2, h2]; rfl
theorem preL_congr {f g : Nat → List D} : ∀ {m : Nat}, (∀ t, t < m → f t = g t) → preL f m = preL g m
  | 0, _ => rfl
  | m + 1, h => by rw [preL_succ, preL_succ, preL_congr fun t ht => h t (by omega), h m (by omega)]
theorem inL_one {x : Nat → D} : ∀ {m : Nat}, preL (fun j => [x j]) m = inL x (fun _ => true) m
  | 0 => rfl
  | m + 1 => by rw [preL_succ, inL_succ, if_pos rfl, inL_one]
theorem comp2_main (W : Parts M tab Γ f) (ox : OkX M tab Γ jr X) (hc : CalOk M tab jr c) (hm : MsOk G ms) {f' : Expr → Option CE} {sc : Scope} {elt tg it tg1 it1 : Expr} {w w1 : CE} {g g1 : Tgt} {E : CE} (W' : Parts M tab { Γ with sc := relS sc Γ.sc, top := false, cl := fun x => sc.names.lookup x == some .cell } f')
    (hb : DL.blkC Γ.N Γ.sc sc (cOwn Γ.N sc) = true) (h1 : cWalk f Γ.sc tg it = some w) (ht : cTgt { Γ with sc := relS sc Γ.sc, top := false, cl := fun x => sc.names.lookup x == some .cell } tg = some g) (h2 : cWalk f' (relS sc Γ.sc) tg1 it1 = some w1) (ht1 : cTgt { Γ with sc := relS sc Γ.sc, top := false, cl := fun x => sc.names.lookup x == some .cell } tg1 = some g1)
    (hix : g.ix.all (fun i => decide (i ∈ (cOwn Γ.N sc).map (·.2))) = true) (he : SE M tab { Γ with sc := relS sc Γ.sc, top := false, cl := fun x => sc.names.lookup x == some .cell } elt E)
    (q : evE c ms (.comp2 E w w1 g g1 ((cOwn Γ.N sc).map (·.2)) g1.ix) ρ = some (r, ρ')) : ∃ acc, r = .own acc ∧ CD X G (.ListComp elt [⟨tg, it, [], 0⟩, ⟨tg1, it1, [], 0⟩] sc pos) ρ ρ' acc := by
  simp only [evE] at q
  obtain ⟨u, q1, q⟩ := bind_some' q
  obtain ⟨⟨hfr, hv1⟩, q⟩ := chk_some q
  obtain ⟨acc, q2, q⟩ := bind_some' q
  obtain ⟨hz, q⟩ := chk_some q
  cases q
  refine ⟨_, rfl, ?_⟩
  have hmv : ∀ i ∈ (cOwn Γ.N sc).map (·.2), G.ms[i]? ≠ some true := fun i hi => hm i (List.all_eq_true.mp hfr i hi)
  have hiv : ∀ i ∈ g.ix, i ∈ (cOwn Γ.N sc).map (·.2) := fun i hi => of_decide_eq_true (List.all_eq_true.mp hix i hi)
  have hok : BlkOk X.N X.env.scope sc (cOwn Γ.N sc) := by rw [ox.N, ox.sc]; exact DL.blk_by hb
  obtain ⟨W1, W2⟩ := cWalk_ok W ox hc hm h1 q1
  obtain ⟨p1, p2⟩ := pairL_some q2
  let vs := (cOwn Γ.N sc).map (·.2)
  let ft : Nat → DL.Env → DL.Env := fun t => (bindY g (u.1.it t)).getD id
  let ρt : Nat → DL.Env := fun t => noOwn (ft t (wipeE u.2 vs))
  let wk : Nat → Wk := fun t => (evWF c w1 (ρt t)).getD ⟨0, fun _ => .one (.val .non)⟩
  let ft1 : Nat → Nat → DL.Env → DL.Env := fun t j => (bindY g1 ((wk t).it j)).getD id
  let xe : Nat → Nat → D := fun t j => ((evE c [] E (ft1 t j (wipeE (ρt t) g1.ix))).bind fun v => toV v.1).getD .non
  have key : ∀ t, t < u.1.m → (∃ gf, bindY g (u.1.it t) = some gf) ∧ evWF c w1 (ρt t) = some (wk t) ∧ ∀ j, j < (wk t).m → (∃ gf, bindY g1 ((wk t).it j) = some gf) ∧ ∃ s, evE c [] E (ft1 t j (wipeE (ρt t) g1.ix)) = some (s, ft1 t j (wipeE (ρt t) g1.ix)) ∧ toV s = some (xe t j) := by
    intro t h
    obtain ⟨k, hk⟩ := p1 t h
    obtain ⟨gf, k1, k2⟩ := bind_some' hk
    obtain ⟨wv, k3, k4⟩ := bind_some' k2
    have e1 : ft t = gf := by show (bindY g (u.1.it t)).getD id = gf; rw [k1]; rfl
    have e2 : ρt t = noOwn (gf (wipeE u.2 vs)) := by show noOwn (ft t (wipeE u.2 vs)) = _; rw [e1]
    have e3 : evWF c w1 (ρt t) = some wv := by rw [e2]; exact k3
    have e4 : wk t = wv := by show (evWF c w1 (ρt t)).getD _ = wv; rw [e3]; rfl
    refine ⟨⟨gf, k1⟩, by rw [e3, e4], fun j hj => ?_⟩
    rw [e4] at hj
    obtain ⟨l, hl⟩ := (pairL_some k4).1 j hj
    obtain ⟨gf1, m1, m2⟩ := bind_some' hl
    obtain ⟨v, m3, m4⟩ := bind_some' m2
    obtain ⟨m5, m6⟩ := chk_some m4
    obtain ⟨d, m7, _⟩ := bind_some' m6
    have e5 : ft1 t j = gf1 := by show (bindY g1 ((wk t).it j)).getD id = gf1; rw [e4, m1]; rfl
    refine ⟨⟨gf1, by rw [e4]; exact m1⟩, v.1, ?_, ?_⟩
    · rw [e5, e2, m3]
      rw [← m5]
    · have : xe t j = d := by
        show ((evE c [] E (ft1 t j (wipeE (ρt t) g1.ix))).bind fun v => toV v.1).getD .non = d
        rw [e5, e2, m3, Option.bind_some, m7]; rfl
      rw [this]; exact m7
  have ms0 : ∀ {F1 H1 : Hp}, MsOk (pG F1 H1) [] := fun i _ h => by cases h
  refine cd_lc2 (ρ1 := u.2) (g := gOf X.K g) (g1 := gOf X.K g1) (ix := g.ix) (ix1 := g1.ix) (vs := vs) (vs1 := g1.ix) (it := u.1.it) (m := u.1.m) (ft := ft) (m1 := fun t => (wk t).m) (it1 := fun t => (wk t).it) (ft1 := ft1) (ρt := ρt) (bt := fun _ => true) (b1 := fun _ _ => true) (xe := xe)
    hok rfl (fun i hi => of_decide_eq_true (List.all_eq_true.mp hv1 i hi)) ox.calm (by rw [ox.N]; exact ox.nd) W1 (fun s H C cl fp => cTgt_ok (ox.blk s H sc cl C fp) ht) (fun t h => ?_) hiv hmv (fun t _ => rfl) (fun t _ => rfl) (fun t h _ s H C cl fp F1 H1 => ?_) (fun s H C cl fp => cTgt_ok (ox.blk s H sc cl C fp) ht1) (fun t j F1 H1 h hj => ?_) (fun i hi => hi) (fun t j _ _ _ => rfl) (fun t j h _ hj _ s H C cl fp F1 H1 => ?_) ?_ hz W2 (fun env x => cWalk_fold h2 env x)
  · obtain ⟨⟨gf, k1⟩, _⟩ := key t h
    show TgR X.K G (gOf X.K g) g.ix (u.1.it t) ((bindY g (u.1.it t)).getD id)
    simp only [k1, Option.getD_some]
    exact (bindY_ok k1 fun i hi => hmv i (hiv i hi)).1
  · obtain ⟨_, k2, _⟩ := key t h
    exact cWalkF_ok W' (ox.blk s H sc cl C fp) hc h2 k2
  · obtain ⟨_, _, k3⟩ := key t h
    obtain ⟨⟨gf, k1⟩, _⟩ := k3 j hj
    show TgR X.K (pG F1 H1) (gOf X.K g1) g1.ix ((wk t).it j) ((bindY g1 ((wk t).it j)).getD id)
    simp only [k1, Option.getD_some]
    exact (bindY_ok k1 fun i hi => pG_ms).1
  · obtain ⟨_, _, k3⟩ := key t h
    obtain ⟨_, s', k4, k5⟩ := k3 j hj
    exact ed_toV (he _ jr _ c _ _ _ _ (ox.blk s H sc cl C fp) hc ms0 k4) (toV_ok k5)
  · rw [← p2]
    refine preL_congr fun t h => ?_
    rw [if_pos rfl]
    obtain ⟨k, hk⟩ := p1 t h
    rw [hk]
    show _ = k
    obtain ⟨gf, k1, k2⟩ := bind_some' hk
    obtain ⟨wv, k3, k4⟩ := bind_some' k2
    have e1 : ft t = gf := by show (bindY g (u.1.it t)).getD id = gf; rw [k1]; rfl
    have e2 : ρt t = noOwn (gf (wipeE u.2 vs)) := by show noOwn (ft t (wipeE u.2 vs)) = _; rw [e1]
    have e4 : wk t = wv := by show (evWF c w1 (ρt t)).getD _ = wv; rw [e2, k3]; rfl
    obtain ⟨n1, n2⟩ := pairL_some k4
    rw [← inL_one, ← n2, e4]
    refine preL_congr fun j hj => ?_
    obtain ⟨l, hl⟩ := n1 j hj
    rw [hl]
    obtain ⟨gf1, m1, m2⟩ := bind_some' hl
    obtain ⟨v, m3, m4⟩ := bind_some' m2
    obtain ⟨m5, m6⟩ := chk_some m4
    obtain ⟨d, m7, m8⟩ := bind_some' m6
    cases m8
    have e5 : ft1 t j = gf1 := by show (bindY g1 ((wk t).it j)).getD id = gf1; rw [e4, m1]; rfl
    have : xe t j = d := by
      show ((evE c [] E (ft1 t j (wipeE (ρt t) g1.ix))).bind fun v => toV v.1).getD .non = d
      rw [e5, e2, m3, Option.bind_some, m7]; rfl
    rw [this]; rfl
/-- a comprehension, as it may be given to a name -/
def SC (M : Mo) (tab : Nat → Option (Str × List Str)) (Γ : Ga) (e : Expr) (a : CE) : Prop :=
  ∀ (elt : Expr) (gs : List Comprehension) (sc : Scope) (pos : Pos), e = .ListComp elt gs sc pos → ∀ (X : Cx) (j : Nat) (G : Gx) (c : Cs) (ms : List Bool) (ρ ρ' : DL.Env) (r : Slot), OkX M tab Γ j X → CalOk M tab j c → MsOk G ms → evE c ms a ρ = some (r, ρ') → ∃ acc, r = .own acc ∧ CD X G e ρ ρ' acc
theorem all_ok : ∀ (m : Nat) (Γ : Ga) (e : Expr) (a : CE), compE m Γ e = some a → SE M tab Γ e a ∧ ST M tab Γ e a ∧ SC M tab Γ e a := by
  intro m
  induction m with
  | zero => intro Γ e a h; cases h
  | succ m ih =>
    intro Γ e a h
    have W : Parts M tab Γ (compE m Γ) := ⟨fun e a h => ⟨(ih Γ e a h).1, (ih Γ e a h).2.1⟩, fun e i h => comp_var h⟩
    have noC : (∀ elt gs sc pos, e ≠ .ListComp elt gs sc pos) → SC M tab Γ e a := fun h elt gs sc pos he => (h _ _ _ _ he).elim
    have noT : (∀ c ms ρ, evT c ms a ρ = none) → ST M tab Γ e a := fun h X j G c ms ρ ρ' r ox hc hm q => by rw [h] at q; cases q
    unfold compE at h
    split at h
    · cases h
      exact ⟨fun X j G c ms ρ ρ' r ox hc hm q => by simp only [evE] at q; cases q; exact ed_int, noT fun c ms ρ => by simp only [evT], noC fun _ _ _ _ h => by cases h⟩
    · cases h
      exact ⟨fun X j G c ms ρ ρ' r ox hc hm q => by simp only [evE] at q; cases q; exact ed_str, noT fun c ms ρ => by simp only [evT], noC fun _ _ _ _ h => by cases h⟩
    · cases h
      exact ⟨fun X j G c ms ρ ρ' r ox hc hm q => by simp only [evE] at q; cases q; exact ed_bl, noT fun c ms ρ => by simp only [evT], noC fun _ _ _ _ h => by cases h⟩
    · cases h
      exact ⟨fun X j G c ms ρ ρ' r ox hc hm q => by simp only [evE] at q; cases q; exact ed_non, noT fun c ms ρ => by simp only [evT], noC fun _ _ _ _ h => by cases h⟩
    · -- a name
      split at h
      · obtain ⟨i, h1, rfl⟩ := map_some' h
        refine ⟨fun X j G c ms ρ ρ' r ox hc hm q => ?_, fun X j G c ms ρ ρ' r ox hc hm q => ?_, noC fun _ _ _ _ h => by cases h⟩
        · obtain ⟨g1, g2, g3, g4⟩ := ox.var h1
          simp only [evE] at q
          split at q
          · rename_i hd
            cases q
            exact ed_var g1 g2 hd g3 g4
          · rename_i hd
            obtain ⟨q1, q⟩ := chk_some q
            cases q
            exact ed_varF g1 g2 hd (hm _ q1) g3 g4
          · cases q
        · obtain ⟨g1, g2, g3, g4⟩ := ox.var h1
          simp only [evT] at q
          split at q
          · rename_i hd
            cases q
            exact et_val (ed_var g1 g2 hd g3 g4)
          · rename_i hd
            cases q
            exact et_lst (ed_var g1 g2 hd g3 g4)
          · rename_i hd
            cases q
            exact et_lstO g1 g2 hd g3 g4
          · cases q
      · obtain ⟨h1, h⟩ := ite_some h
        rw [Bool.and_eq_true] at h1
        obtain ⟨d, h2, rfl⟩ := map_some' h
        refine ⟨fun X j G c ms ρ ρ' r ox hc hm q => ?_, noT fun c ms ρ => by simp only [evT], noC fun _ _ _ _ h => by cases h⟩
        simp only [evE] at q
        cases q
        obtain ⟨v, u, k1, k2, k3⟩ := ox.cst _ _ h2
        exact ed_glob (v := v) (ox.gl h1.1) (by rw [ox.mg]; exact k1) k2 (fun F => by rw [ox.K]; exact k3 F) (okN_ok h1.2).1
    · obtain ⟨A, h1, h⟩ := bind_some' h
      obtain ⟨B, h2, h⟩ := bind_some' h
      cases h
      refine ⟨fun X j G c ms ρ ρ' r ox hc hm q => ?_, noT fun c ms ρ => by simp only [evT], noC fun _ _ _ _ h => by cases h⟩
      simp only [evE] at q
      obtain ⟨u, q1, q⟩ := bind_some' q
      obtain ⟨v, q2, q⟩ := bind_some' q
      obtain ⟨t, q3, q⟩ := bind_some' q
      cases q
      exact ed_bin_ok ((W.1 _ _ h1).1 X j G c ms _ _ _ ox hc hm q1) ((W.1 _ _ h2).1 X j G c ms _ _ _ ox hc hm q2) q3
    · obtain ⟨A, h1, rfl⟩ := map_some' h
      refine ⟨fun X j G c ms ρ ρ' r ox hc hm q => ?_, fun X j G c ms ρ ρ' r ox hc hm q => ?_, noC fun _ _ _ _ h => by cases h⟩
      · simp only [evE] at q
        obtain ⟨u, q1, q⟩ := bind_some' q
        obtain ⟨k, q2, q⟩ := bind_some' q
        obtain ⟨_, E1⟩ := ed_blS ((W.1 _ _ h1).1 X j G c ms _ _ _ ox hc hm q1) q2
        cases q
        exact ed_not E1
      · simp only [evT] at q
        obtain ⟨u, q1, q⟩ := bind_some' q
        cases q
        exact et_not ((W.1 _ _ h1).2 X j G c ms _ _ _ ox hc hm q1)
    · obtain ⟨A, h1, rfl⟩ := map_some' h
      refine ⟨fun X j G c ms ρ ρ' r ox hc hm q => ?_, noT fun c ms ρ => by simp only [evT], noC fun _ _ _ _ h => by cases h⟩
      simp only [evE] at q
      obtain ⟨u, q1, q⟩ := bind_some' q
      obtain ⟨i, q2, q⟩ := bind_some' q
      obtain ⟨_, E1⟩ := ed_intS ((W.1 _ _ h1).1 X j G c ms _ _ _ ox hc hm q1) q2
      cases q
      exact ed_neg E1
    · refine ⟨fun X j G c ms ρ ρ' r ox hc hm q => (cConj_ok W ox hc hm h).1 _ _ q, fun X j G c ms ρ ρ' r ox hc hm q => ET.of ((cConj_ok W ox hc hm h).2 _ _ q), noC fun _ _ _ _ h => by cases h⟩
    · refine ⟨fun X j G c ms ρ ρ' r ox hc hm q => (cDisj_ok W ox hc hm h).1 _ _ q, fun X j G c ms ρ ρ' r ox hc hm q => ET.of ((cDisj_ok W ox hc hm h).2 _ _ q), noC fun _ _ _ _ h => by cases h⟩
    · -- x != []
      obtain ⟨h0, h⟩ := ite_some h
      obtain ⟨i, h1, rfl⟩ := map_some' h
      refine ⟨fun X j G c ms ρ ρ' r ox hc hm q => ?_, fun X j G c ms ρ ρ' r ox hc hm q => ?_, noC fun _ _ _ _ h => by cases h⟩
      · obtain ⟨g1, g2, g3, g4⟩ := ox.var h1
        simp only [evE] at q
        split at q
        · rename_i hd
          cases q
          exact (own_nem (by have := ox.room.un; omega) g1 g2 hd g3 g4).1
        · rename_i hd
          obtain ⟨z, q1, q⟩ := bind_some' q
          cases q
          exact (val_nem (by have := ox.room.un; omega) g1 g2 hd g3 g4 q1).1
        · cases q
      · obtain ⟨g1, g2, g3, g4⟩ := ox.var h1
        simp only [evT] at q
        split at q
        · rename_i hd
          cases q
          exact (own_nem (by have := ox.room.un; omega) g1 g2 hd g3 g4).2
        · rename_i hd
          obtain ⟨z, q1, q⟩ := bind_some' q
          cases q
          exact (val_nem (by have := ox.room.un; omega) g1 g2 hd g3 g4 q1).2
        · cases q
    · split at h
      · cases h
      · rename_i hb
        have hb := Bool.eq_false_iff.mpr hb
        obtain ⟨A, h1, h⟩ := bind_some' h
        obtain ⟨B, h2, h⟩ := bind_some' h
        cases h
        refine ⟨fun X j G c ms ρ ρ' r ox hc hm q => ?_, fun X j G c ms ρ ρ' r ox hc hm q => ?_, noC fun _ _ _ _ h => by cases h⟩
        · simp only [evE] at q
          obtain ⟨u, q1, q⟩ := bind_some' q
          obtain ⟨v, q2, q⟩ := bind_some' q
          obtain ⟨t, q3, q⟩ := bind_some' q
          cases q
          exact (cmp_ok (by have := ox.room.un; omega) ((W.1 _ _ h1).1 X j G c ms _ _ _ ox hc hm q1) ((W.1 _ _ h2).1 X j G c ms _ _ _ ox hc hm q2) q3 hb).1
        · simp only [evT] at q
          obtain ⟨u, q1, q⟩ := bind_some' q
          obtain ⟨v, q2, q⟩ := bind_some' q
          obtain ⟨t, q3, q⟩ := bind_some' q
          cases q
          exact (cmp_ok (by have := ox.room.un; omega) ((W.1 _ _ h1).1 X j G c ms _ _ _ ox hc hm q1) ((W.1 _ _ h2).1 X j G c ms _ _ _ ox hc hm q2) q3 hb).2
    · split at h
      · cases h
      · rename_i hb
        have hb := Bool.eq_false_iff.mpr hb
        obtain ⟨A, h1, h⟩ := bind_some' h
        obtain ⟨B, h2, h⟩ := bind_some' h
        obtain ⟨Dd, h3, h⟩ := bind_some' h
        cases h
        refine ⟨fun X j G c ms ρ ρ' r ox hc hm q => (by simp only [evE] at q; cases q), fun X j G c ms ρ ρ' r ox hc hm q => ?_, noC fun _ _ _ _ h => by cases h⟩
        simp only [evT] at q
        obtain ⟨u, q1, q⟩ := bind_some' q
        obtain ⟨v, q2, q⟩ := bind_some' q
        obtain ⟨t, q3, q⟩ := bind_some' q
        obtain ⟨_, E1⟩ := ed_dat ((W.1 _ _ h1).1 X j G c ms _ _ _ ox hc hm q1)
        obtain ⟨_, E2⟩ := ed_dat ((W.1 _ _ h2).1 X j G c ms _ _ _ ox hc hm q2)
        cases t with
        | true =>
          rw [if_pos rfl] at q
          obtain ⟨w, q4, q⟩ := bind_some' q
          obtain ⟨q5, q⟩ := chk_some q
          obtain ⟨y, q6, q⟩ := bind_some' q
          have E3 := (W.1 _ _ h3).1 X j G c ms _ _ _ ox hc hm q4
          rw [q5] at E3
          obtain ⟨_, E3⟩ := ed_dat E3
          cases q
          exact et_chain (l := r) E1 E2 (cmpD_ok q3) (fun _ => E3) (fun _ => cmpD_ok q6) hb
        | false =>
          rw [if_neg Bool.false_ne_true] at q
          cases q
          exact et_chain (l := true) (k3 := true) (w := .non) E1 E2 (cmpD_ok q3) (fun h => by cases h) (fun h => by cases h) hb
    · obtain ⟨T, h1, h⟩ := bind_some' h
      obtain ⟨A, h2, h⟩ := bind_some' h
      obtain ⟨B, h3, h⟩ := bind_some' h
      cases h
      refine ⟨fun X j G c ms ρ ρ' r ox hc hm q => ?_, noT fun c ms ρ => by simp only [evT], noC fun _ _ _ _ h => by cases h⟩
      simp only [evE] at q
      obtain ⟨u, q1, q⟩ := bind_some' q
      have E1 := (W.1 _ _ h1).2 X j G c ms _ _ _ ox hc hm q1
      cases hk : u.1 with
      | true => rw [hk] at q E1; exact ed_ifT E1 ((W.1 _ _ h2).1 X j G c ms _ _ _ ox hc hm q)
      | false => rw [hk] at q E1; exact ed_ifF E1 ((W.1 _ _ h3).1 X j G c ms _ _ _ ox hc hm q)
    · obtain ⟨A, h1, h⟩ := bind_some' h
      obtain ⟨L, h2, h⟩ := bind_some' h
      obtain ⟨Hh, h3, h⟩ := bind_some' h
      cases h
      refine ⟨fun X j G c ms ρ ρ' r ox hc hm q => ?_, noT fun c ms ρ => by simp only [evT], noC fun _ _ _ _ h => by cases h⟩
      simp only [evE] at q
      obtain ⟨u, q1, q⟩ := bind_some' q
      obtain ⟨l, q2, q⟩ := bind_some' q
      obtain ⟨hh, q3, q⟩ := bind_some' q
      have E1 := (W.1 _ _ h1).1 X j G c ms _ _ _ ox hc hm q1
      have E2 := cOpt_ok W ox hc hm h2 q2
      have E3 := cOpt_ok W ox hc hm h3 q3
      obtain ⟨z, q4, q⟩ := bind_some' q
      cases q
      exact sl_ok E1 E2 E3 q4
    · obtain ⟨h0, h⟩ := ite_some h
      obtain ⟨A, h1, h⟩ := bind_some' h
      obtain ⟨B, h2, h⟩ := bind_some' h
      cases h
      refine ⟨fun X j G c ms ρ ρ' r ox hc hm q => ?_, noT fun c ms ρ => by simp only [evT], noC fun _ _ _ _ h => by cases h⟩
      simp only [evE] at q
      split at q
      · rename_i i hi
        obtain ⟨rfl, ds, hd⟩ := ownVar_ok hi
        obtain ⟨x, px, rfl, hx⟩ := W.2 _ _ h1
        obtain ⟨g1, g2, g3, g4⟩ := ox.var hx
        obtain ⟨v, q2, q⟩ := bind_some' q
        obtain ⟨jj, q3, q⟩ := bind_some' q
        obtain ⟨es, q4, q⟩ := bind_some' q
        obtain ⟨d, q5, q⟩ := bind_some' q
        obtain ⟨_, E2⟩ := ed_intS ((W.1 _ _ h2).1 X j G c ms _ _ _ ox hc hm q2) q3
        cases q
        exact ed_ixO g1 g2 hd E2 (getO_ok q4) q5 (plain_ok h0) g3 g4
      · obtain ⟨u, q1, q⟩ := bind_some' q
        obtain ⟨v, q2, q⟩ := bind_some' q
        obtain ⟨jj, q3, q⟩ := bind_some' q
        obtain ⟨t, q4, q⟩ := bind_some' q
        obtain ⟨_, E2⟩ := ed_intS ((W.1 _ _ h2).1 X j G c ms _ _ _ ox hc hm q2) q3
        cases q
        exact ed_ix (ed_fixS ((W.1 _ _ h1).1 X j G c ms _ _ _ ox hc hm q1)) E2 (idxS_ok q4) (plain_ok h0)
    · cases h
      refine ⟨fun X j G c ms ρ ρ' r ox hc hm q => ?_, noT fun c ms ρ => by simp only [evT], noC fun _ _ _ _ h => by cases h⟩
      simp only [evE] at q
      cases q
      exact ed_dk0
    · obtain ⟨A, h1, rfl⟩ := map_some' h
      refine ⟨fun X j G c ms ρ ρ' r ox hc hm q => ?_, noT fun c ms ρ => by simp only [evT], noC fun _ _ _ _ h => by cases h⟩
      simp only [evE] at q
      obtain ⟨u, q1, q⟩ := bind_some' q
      obtain ⟨q2, q⟩ := chk_some q
      cases q
      exact ed_lst (cDisp_ok W ox hc hm h1 q1) q2
    · obtain ⟨A, h1, rfl⟩ := map_some' h
      refine ⟨fun X j G c ms ρ ρ' r ox hc hm q => ?_, noT fun c ms ρ => by simp only [evT], noC fun _ _ _ _ h => by cases h⟩
      simp only [evE] at q
      obtain ⟨u, q1, q⟩ := bind_some' q
      obtain ⟨q2, q⟩ := chk_some q
      cases q
      exact ed_tup (cDisp_ok W ox hc hm h1 q1) q2
    · -- a comprehension
      split at h
      · rename_i hcnd
        obtain ⟨hia, hblk⟩ := hcnd
        subst hia
        obtain ⟨w, h1, h⟩ := bind_some' h
        obtain ⟨g, h2, h⟩ := bind_some' h
        obtain ⟨E, h3, h⟩ := bind_some' h
        obtain ⟨hix, h⟩ := ite_some h
        split at h
        · cases h
          refine ⟨fun X j G c ms ρ ρ' r ox hc hm q => ?_, noT fun c ms ρ => by simp only [evT], fun elt gs sc pos he X j G c ms ρ ρ' r ox hc hm q => comp_main W ox hc hm hblk h1 h2 hix (ih _ _ _ h3).1 q⟩
          obtain ⟨acc, rfl, k⟩ := comp_main (pos := _) W ox hc hm hblk h1 h2 hix (ih _ _ _ h3).1 q
          exact ed_of k
        · obtain ⟨T, h4, h⟩ := bind_some' h
          cases h
          refine ⟨fun X j G c ms ρ ρ' r ox hc hm q => ?_, noT fun c ms ρ => by simp only [evT], fun elt gs sc pos he X j G c ms ρ ρ' r ox hc hm q => compI_main W ox hc hm hblk h1 h2 hix (ih _ _ _ h3).1 (ih _ _ _ h4).2.1 q⟩
          obtain ⟨acc, rfl, k⟩ := compI_main (pos := _) W ox hc hm hblk h1 h2 hix (ih _ _ _ h3).1 (ih _ _ _ h4).2.1 q
          exact ed_of k
        · cases h
      · cases h
    · split at h
      · rename_i hcnd
        obtain ⟨hia, hib, hblk⟩ := hcnd
        subst hia
        subst hib
        obtain ⟨w, h1, h⟩ := bind_some' h
        obtain ⟨g, h2, h⟩ := bind_some' h
        obtain ⟨w1, h3, h⟩ := bind_some' h
        obtain ⟨g1, h4, h⟩ := bind_some' h
        obtain ⟨E, h5, h⟩ := bind_some' h
        obtain ⟨hix, h⟩ := ite_some h
        cases h
        have W' : ∀ Γ', Parts M tab Γ' (compE m Γ') := fun Γ' => ⟨fun e a h => ⟨(ih Γ' e a h).1, (ih Γ' e a h).2.1⟩, fun e i h => comp_var h⟩
        refine ⟨fun X j G c ms ρ ρ' r ox hc hm q => ?_, noT fun c ms ρ => by simp only [evT], fun elt gs sc pos he X j G c ms ρ ρ' r ox hc hm q => comp2_main W ox hc hm (W' _) hblk h1 h2 h3 h4 hix (ih _ _ _ h5).1 q⟩
        obtain ⟨acc, rfl, k⟩ := comp2_main (pos := _) W ox hc hm (W' _) hblk h1 h2 h3 h4 hix (ih _ _ _ h5).1 q
        exact ed_of k
      · cases h
    · refine ⟨fun X j G c ms ρ ρ' r ox hc hm q => (cCall_ok W ox hc hm h).1 _ _ q, fun X j G c ms ρ ρ' r ox hc hm q => ?_, noC fun _ _ _ _ h => by cases h⟩
      obtain ⟨k, E1⟩ := (cCall_ok W ox hc hm h).2 _ _ q
      exact et_val E1
    · obtain ⟨hl, h⟩ := ite_some h
      exact ⟨fun X j G c ms ρ ρ' r ox hc hm q => (cMeth_ok W ox hc hm hl h).1 _ _ q, fun X j G c ms ρ ρ' r ox hc hm q => ((cMeth_ok W ox hc hm (apos := _) hl h).2 _ _ q).elim, noC fun _ _ _ _ h => by cases h⟩
    · cases h
end
end RL
/-! RL7: statements, blocks, defs. -/
namespace RL
open PySem L2 DL PyProof.Rows PySem.W
inductive CS where
  | nil
  | seq (s r : CS)
  | set (fx : Bool) (i : Nat) (e : CE)
  | setIx (i : Nat) (b e : CE)
  | set2 (i j : Nat) (a b : CE)
  | aug (i : Nat) (e : CE)
  | setTp (ix : List Nat) (e : CE)
  | set2o (i j : Nat) (a : CE) (z : Int)
  | swp (l : Nat) (b1 b2 e : CE)
  | expr (e : CE)
  | ret (e : CE)
  | retN
  | ife (t : CE) (a b : CS)
  | for (tg : Tgt) (w : CE) (b : CS)
  | pass
  | brk
  | cont
  | raise (k : Nat) (a : CE)
/-- a value that is given away: a name's own list goes with it -/
noncomputable def evM (c : Cs) (ms : List Bool) (e : CE) (ρ : DL.Env) : Option (Slot × DL.Env) :=
  match ownVar e ρ with
  | some i => chk (frB ms i = true) ((getO ρ i).bind fun ds => some (.own ds, ρ.set i none))
  | none => evE c ms e ρ
def forL (f : Nat → DL.Env → Option Out) : Nat → Nat → DL.Env → Option Out
  | _, 0, ρ => some (.nx ρ)
  | t, k + 1, ρ => (f t ρ).bind fun o => match o with
    | .nx ρ' => forL f (t + 1) k ρ'
    | .ct ρ' => forL f (t + 1) k ρ'
    | .bk ρ' => some (.nx ρ')
    | .ret r ρ' => some (.ret r ρ')
def nvS : Slot → Slot
  | .v k d => .v (k || isSc d) d
  | .own ds => .own ds
def intAt (ρ : DL.Env) (i : Nat) : Option Int := match ρ[i]? with
  | some (some (.v _ (.int a))) => some a
  | _ => none
def tupS : Slot → Option (List D)
  | .v _ (.tup ds) => some ds
  | _ => none
def tup2S : Slot → Option (D × D)
  | .v _ (.tup [d1, d2]) => some (d1, d2)
  | _ => none
noncomputable def evB (c : Cs) (ms : List Bool) : CS → DL.Env → Option Out
  | .nil, ρ => some (.nx ρ)
  | .seq s r, ρ => (evB c ms s ρ).bind fun o => match o with
    | .nx ρ' => evB c ms r ρ'
    | .ct ρ' => some (.ct ρ')
    | .bk ρ' => some (.bk ρ')
    | .ret v ρ' => some (.ret v ρ')
  | .set fx i e, ρ => (evM c ms e ρ).bind fun p => chk (frB ms i = true) (some (.nx (p.2.set i (some (if fx then fixS p.1 else p.1)))))
  | .setIx i b e, ρ => (evE c ms e ρ).bind fun p => (toV p.1).bind fun d => (evE c ms b p.2).bind fun q => chk (q.2 = p.2) ((intS q.1).bind fun jj => (getO p.2 i).bind fun ds => (ixN ds.length jj).bind fun k => some (.nx (p.2.set i (some (.own (ds.set k d))))))
  | .set2 i j a b, ρ => (evE c ms a ρ).bind fun p => (evE c ms b p.2).bind fun q => chk (frB ms i = true ∧ frB ms j = true) (some (.nx ((q.2.set i (some (fixS p.1))).set j (some (fixS q.1)))))
  | .aug i e, ρ => (intAt ρ i).bind fun a => (evE c ms e ρ).bind fun p => (intS p.1).bind fun b => chk (frB ms i = true) (some (.nx (p.2.set i (some (.val (.int (a + b)))))))
  | .setTp ix e, ρ => (evE c ms e ρ).bind fun p => (tupS p.1).bind fun ds => chk (ix.all (frB ms) = true ∧ ix.length = ds.length) (some (.nx (setE p.2 ix true ds)))
  | .set2o i j a z, ρ => (evE c ms a ρ).bind fun p => chk (frB ms i = true ∧ frB ms j = true) (some (.nx ((p.2.set i (some p.1)).set j (some (.val (.int z))))))
  | .swp l b1 b2 e, ρ => (evE c ms e ρ).bind fun p => (tup2S p.1).bind fun d => (evE c ms b1 p.2).bind fun q => chk (q.2 = p.2) ((intS q.1).bind fun j1 => (getO p.2 l).bind fun ds => (ixN ds.length j1).bind fun k1 =>
      (evE c ms b2 (p.2.set l (some (.own (ds.set k1 d.1))))).bind fun w => chk (w.2 = p.2.set l (some (.own (ds.set k1 d.1)))) ((intS w.1).bind fun j2 => (ixN ds.length j2).bind fun k2 => some (.nx (p.2.set l (some (.own ((ds.set k1 d.1).set k2 d.2)))))))
  | .expr e, ρ => (evE c ms e ρ).bind fun p => some (.nx p.2)
  | .ret e, ρ => (evM c ms e ρ).bind fun p => some (.ret (nvS p.1) p.2)
  | .retN, ρ => some (.ret (.val .non) ρ)
  | .ife t a b, ρ => (evT c ms t ρ).bind fun p => if p.1 then evB c ms a p.2 else evB c ms b p.2
  | .for tg w b, ρ => (evW c ms w ρ).bind fun p => chk (tg.ix.all (frB ms) = true) (forL (fun t ρ' => (bindY tg (p.1.it t)).bind fun g => evB c ms b (g ρ')) 0 p.1.m p.2)
  | .pass, ρ => some (.nx ρ)
  | .brk, ρ => some (.bk ρ)
  | .cont, ρ => some (.ct ρ)
  | .raise _ _, _ => none
/-! ### from the text -/
def lcB : Expr → Bool
  | .ListComp .. => true
  | .SetComp .. => true
  | .DictComp .. => true
  | _ => false
def loB (Γ : Ga) (n : Str) : Bool := match Γ.sc.names.lookup n with
  | some .local => true
  | _ => false
def cBlk (f : Stmt → Option CS) : List Stmt → Option CS
  | [] => some .nil
  | s :: r => (f s).bind fun a => (cBlk f r).bind fun b => some (.seq a b)
def sameLine (p q : Pos) : Bool := p.line == q.line
def compS (mu : List Nat) : Nat → Ga → Stmt → Option CS
  | 0, _, _ => none
  | m + 1, Γ, st => match st with
    | .Assign [.Name x p] e _ => if stB Γ x && (!(lcB e) || (loB Γ x && (match e with | .ListComp .. => true | _ => false))) then (ixOf Γ.N x).bind fun i => (compE m Γ e).bind fun a => some (.set (!(mu.contains i)) i a) else none
    | .Assign [.Subscript (.Name x _) b _] e _ => if plainB b then (cVar Γ x).bind fun i => (compE m Γ e).bind fun a => (compE m Γ b).bind fun b' => some (.setIx i b' a) else none
    | .Assign [.Tuple [.Name x px, .Name y py] _ _] (.Tuple [a, b] _ _) _ =>
      if loB Γ x && loB Γ y && nsB a && nsB b && !(x == y) && sameLine px py && !(foldedForSure 8 a && foldedForSure 8 b) && !(constantsAlone 8 a && constantsAlone 8 b) then
        (ixOf Γ.N x).bind fun i => (ixOf Γ.N y).bind fun j => (compE m Γ a).bind fun a' => (compE m Γ b).bind fun b' => some (.set2 i j a' b') else
      if loB Γ x && loB Γ y then none else
      if stB Γ x && stB Γ y && nsB a && nsB b && !(x == y) then
        match b with
        | .Constant (.int z) _ _ => (ixOf Γ.N x).bind fun i => (ixOf Γ.N y).bind fun j => (compE m Γ a).bind fun a' => some (.set2o i j a' z)
        | b => (ixOf Γ.N x).bind fun i => (ixOf Γ.N y).bind fun j => (compE m Γ a).bind fun a' => (compE m Γ b).bind fun b' => some (.setTp [i, j] (.tup (.cons a' (.cons b' .nil))))
      else none
    | .Assign [.Tuple [.Subscript (.Name x _) b1 _, .Subscript (.Name y _) b2 _] _ _] (.Tuple [a, b] _ _) _ =>
      if x == y && plainB b1 && plainB b2 && nsB a && nsB b then
        (cVar Γ x).bind fun i => (compE m Γ b1).bind fun b1' => (compE m Γ b2).bind fun b2' => (compE m Γ a).bind fun a' => (compE m Γ b).bind fun b' => some (.swp i b1' b2' (.tup (.cons a' (.cons b' .nil)))) else none
    | .Assign [.Tuple es k pt] (.Call g as kws pc) _ =>
      (cTgs Γ es).bind fun ix => (compE m Γ (.Call g as kws pc)).bind fun e' => some (.setTp ix e')
    | .AugAssign (.Name x _) .Add e _ => if stB Γ x then (ixOf Γ.N x).bind fun i => (compE m Γ e).map (.aug i) else none
    | .Expr e _ => if lcB e then none else (compE m Γ e).map .expr
    | .Return (some e) _ => (compE m Γ e).map .ret
    | .Return none _ => some .retN
    | .If t a b _ => (compE m Γ t).bind fun t' => (cBlk (compS mu m Γ) a).bind fun a' => (cBlk (compS mu m Γ) b).bind fun b' => some (.ife t' a' b')
    | .For tg it b [] _ => (cWalk (compE m Γ) Γ.sc tg it).bind fun w => (cTgt Γ tg).bind fun g => (cBlk (compS mu m Γ) b).bind fun b' => some (.for g w b')
    | .Pass _ => some .pass
    | .Break _ => some .brk
    | .Continue _ => some .cont
    | .Raise (some (.Call (.Name x _) es [] _)) none _ => if glB Γ.sc x && okN x then (Γ.cls x).bind fun k => (cList (compE m Γ) es).map (.raise k) else none
    | _ => none
section
variable {M : Mo} {tab : Nat → Option (Str × List Str)} {Γ : Ga} {jr : Nat}
variable {X : Cx} {G : Gx} {e a b d o : Expr} {ρ ρ' ρ1 ρ2 ρ3 : DL.Env} {r s z s1 s2 : Slot} {x y : D} {ds es : List D} {pos p p2 apos cpos : Pos} {k l k1 k2 k3 : Bool} {n : Str} {xs rest : List Expr} {i j : Nat}
variable {f : Expr → Option CE} {c : Cs} {ms : List Bool} {A : CE} {P : Out → Prop} {u : Out} {mu : List Nat}
/-- what a def's own frame bears besides -/
structure OkT (M : Mo) (tab : Nat → Option (Str × List Str)) (Γ : Ga) (j : Nat) (X : Cx) : Prop extends OkX M tab Γ j X where
  top : Γ.top = true
  pass : PassesOwn (model X.prog X.w) X.A X.env X.xe
  bk : X.env.blockKind = .function
def SS (M : Mo) (tab : Nat → Option (Str × List Str)) (Γ : Ga) (st : Stmt) (a : CS) : Prop :=
  ∀ (X : Cx) (j : Nat) (G : Gx) (c : Cs) (ms : List Bool) (ρ : DL.Env) (u : Out) (P : Out → Prop), OkT M tab Γ j X → CalOk M tab j c → MsOk G ms → evB c ms a ρ = some u → P u → SD X G st ρ P
def SB (M : Mo) (tab : Nat → Option (Str × List Str)) (Γ : Ga) (st : List Stmt) (a : CS) : Prop :=
  ∀ (X : Cx) (j : Nat) (G : Gx) (c : Cs) (ms : List Bool) (ρ : DL.Env) (u : Out) (P : Out → Prop), OkT M tab Γ j X → CalOk M tab j c → MsOk G ms → evB c ms a ρ = some u → P u → BD X G st ρ P
theorem evM_ok {m : Nat} (ox : OkX M tab Γ jr X) (hc : CalOk M tab jr c) (hm : MsOk G ms) (h : compE m Γ e = some A) (q : evM c ms A ρ = some (r, ρ')) : ED X G e ρ ρ' r := by
  unfold evM at q
  split at q
  · rename_i i hi
    obtain ⟨rfl, ds, hd⟩ := ownVar_ok hi
    obtain ⟨x, p, rfl, hx⟩ := comp_var h
    obtain ⟨g1, g2, g3, g4⟩ := ox.var hx
    obtain ⟨q1, q⟩ := chk_some q
    obtain ⟨es, q2, q⟩ := bind_some' q
    cases q
    exact ed_varM g1 g2 (getO_ok q2) (hm _ q1) g3 g4
  · exact (all_ok m Γ e A h).1 X jr G c ms _ _ _ ox hc hm q
theorem ed_nv (h : ED X G e ρ ρ' r) : ED X G e ρ ρ' (nvS r) := by
  cases r with
  | own ds => exact h
  | v k d =>
    cases hs : isSc d with
    | true =>
      have : nvS (.v k d) = .val d := by show Slot.v (k || isSc d) d = _; rw [hs, Bool.or_true]
      rw [this]
      exact ed_toV h (.sc hs)
    | false =>
      have : nvS (.v k d) = .v k d := by show Slot.v (k || isSc d) d = _; rw [hs, Bool.or_false]
      rw [this]; exact h
theorem lc_no {line : Nat} {tg : Option Expr} {env : PySem.Env} (h : lcB e = false) : swapsWith e tg line env = pure false := by
  cases e <;> first | rfl | (cases h; done)
theorem lc_pure {elt : Expr} {gs : List Comprehension} {sc : Scope} {pos' pe : Pos} {env : PySem.Env} {line : Nat} : swapsWith (.ListComp elt gs sc pe) (some (.Name n pos')) line env = pure (env.blockKind == .function && env.kindOf n == some .local && pos'.line == pe.line && !(sc.names.any fun (q : Str × NameKind) => q.1 == n && (q.2 == .local || q.2 == .cell))) := rfl
theorem loB_ok (ox : OkX M tab Γ jr X) (h : loB Γ n = true) : X.env.scope.names.lookup n = some .local := by
  unfold loB at h
  rw [ox.sc]
  split at h
  · assumption
  · cases h
theorem blk_ok {f : Stmt → Option CS} (W : ∀ st a, f st = some a → SS M tab Γ st a) : ∀ {sts : List Stmt} {a : CS}, cBlk f sts = some a → SB M tab Γ sts a
  | [], a, h => by
    cases h
    intro X j G c ms ρ u P ox hc hm q hp
    simp only [evB] at q
    cases q
    exact bd_nil hp
  | s :: r, a, h => by
    obtain ⟨A, h1, h⟩ := bind_some' h
    obtain ⟨B, h2, h⟩ := bind_some' h
    cases h
    intro X j G c ms ρ u P ox hc hm q hp
    simp only [evB] at q
    obtain ⟨o, q1, q⟩ := bind_some' q
    refine bd_cons ((W _ _ h1) X j G c ms ρ o _ ox hc hm q1 ?_)
    cases o with
    | nx ρ' => exact blk_ok W h2 X j G c ms ρ' u P ox hc hm q hp
    | ct ρ' => cases q; exact hp
    | bk ρ' => cases q; exact hp
    | ret v ρ' => cases q; exact hp
theorem forL_some {f : Nat → DL.Env → Option Out} : ∀ {k t : Nat} {ρ : DL.Env} {o : Out}, forL f t (k + 1) ρ = some o → ∃ ρ' q, f t ρ' = some q
  | k, t, ρ, o, h => by
    obtain ⟨q, h1, _⟩ := bind_some' h
    exact ⟨_, _, h1⟩
/-- a, b = x, y -/
theorem sd_set2 {x y : Str} {px py pt : Pos} {kt k2 : Nat} {pt2 : Pos} {D1 D2 : DL.D} (hc : X.calm = true) (hN : X.N.Nodup) (hi : X.N[i]? = some x) (hj : X.N[j]? = some y) (hij : i ≠ j) (hx : X.env.scope.names.lookup x = some .local) (hy : X.env.scope.names.lookup y = some .local)
    (ha : ED X G a ρ ρ1 (.v k1 D1)) (hb : ED X G b ρ1 ρ2 (.v l D2)) (na : nsB a = true) (nb : nsB b = true) (hm1 : G.ms[i]? ≠ some true) (hm2 : G.ms[j]? ≠ some true)
    (hw : swappedStores [.Tuple [.Name x px, .Name y py] kt pt] (.Tuple [a, b] k2 pt2) X.env = pure (some [x, y])) (hp : P (.nx ((ρ2.set i (some (.v k1 D1))).set j (some (.v l D2))))) :
    SD X G (.Assign [.Tuple [.Name x px, .Name y py] kt pt] (.Tuple [a, b] k2 pt2) pos) ρ P :=
  ps_mono (ps_par hc hN hi hj hij hx hy (ea_two ha hb (star_ns na) (star_ns nb)) hw) fun D σ H ⟨F, E, q1, _⟩ => ⟨F, E, fun F1 H1 v u e1 E1 r1 r2 => ⟨v, u, rfl, q1 _ F1 H1 _ hp e1 ((E1.put (r := .v k1 D1) r1 hm1).put (r := .v l D2) (show RK X.K G F1 l D2 u from r2) hm2)⟩⟩
/-- name += int -/
theorem sd_aug {x : Str} {pos' : Pos} {ai bi : Int} (hN : X.N.Nodup) (hi : X.N[i]? = some x) (hx : Loc X.env.scope x) (h0 : ρ[i]? = some (some (.v k (.int ai)))) (he : ED X G e ρ ρ1 (.v l (.int bi))) (hm : G.ms[i]? ≠ some true) (hp : P (.nx (ρ1.set i (some (.val (.int (ai + bi)))))))
    (hf : X.fn x = true ∨ X.env.scope.names.lookup x = some .local) : SD X G (.AugAssign (.Name x pos') .Add e pos) ρ P :=
  ps_mono (ps_aug hN hi hx he ip_add hf) fun D σ H ⟨F, E, q1, _⟩ => by
    obtain ⟨v, h1, h2⟩ := E.val i k _ h0
    exact ⟨v, h1, F, E, fun F1 H1 w e1 E1 r1 => ⟨ai, bi, rk_int.mp h2, of_int r1, q1 _ F1 H1 _ hp e1 (E1.put (r := .val (.int (ai + bi))) sr_int hm)⟩⟩
/-- names = a tuple -/
theorem sd_setTp {tg : Expr} {ix : List Nat} (hg : PG X tg (gTup X.K ix.length (gNames ix))) (he : ED X G e ρ ρ1 (.v k (.tup ds))) (hl : ix.length = ds.length) (hm : ∀ i ∈ ix, G.ms[i]? ≠ some true) (hp : P (.nx (setE ρ1 ix true ds)))
    (hs : swapsWithSole [tg] e pos.line X.env = pure false) (hw : swappedStores [tg] e X.env = pure none) (h1 : (assignEach [tg] X.env).map (·.2) = [assign tg X.env]) : SD X G (.Assign [tg] e pos) ρ P :=
  ps_mono (ps_asg he hg hs hw h1) fun D σ H ⟨F, E, q1, _⟩ => ⟨F, E, fun F1 H1 v e1 E1 r1 => tg_tup hl hm F1 F1 H1 H1 σ ρ1 v _ (Ext.refl _) E1 ⟨rfl, r1⟩ fun H2 ws e2 E2 => q1 _ F1 H2 _ hp e1 E2⟩
/-- names = a new list, an int -/
theorem sd_set2o {tg : Expr} {s : Slot} {z : Int} {jz : Nat} {pz pt : Pos} {kt : Nat} (hg : PG X tg (gTup X.K 2 (gNames [i, j]))) (ha : ED X G a ρ ρ1 s) (na : nsB a = true) (hm1 : G.ms[i]? ≠ some true) (hm2 : G.ms[j]? ≠ some true) (hp : P (.nx ((ρ1.set i (some s)).set j (some (.val (.int z))))))
    (hs : swapsWithSole [tg] (.Tuple [a, .Constant (.int z) jz pz] kt pt) pos.line X.env = pure false) (hw : swappedStores [tg] (.Tuple [a, .Constant (.int z) jz pz] kt pt) X.env = pure none) (h1 : (assignEach [tg] X.env).map (·.2) = [assign tg X.env]) : SD X G (.Assign [tg] (.Tuple [a, .Constant (.int z) jz pz] kt pt) pos) ρ P :=
  ps_mono (ps_asg (pe_tupX (pa_cons ha (pa_cons pe_int pa_nil rfl) (star_ns na))) hg hs hw h1) fun D σ H ⟨F, E, q1, _⟩ => ⟨F, E, fun F1 H1 v e1 E1 r1 => by
    refine ⟨by show 2 ≤ sizeLine; decide, fun p o hp' ho => ?_⟩
    refine ⟨p, [v, .int z], rfl, .inl (.inr ⟨o, upd_same⟩), rfl, v, [.int z], rfl, .int z, [], rfl, rfl, ?_⟩
    have r2 : SR X.K G F1 (upd H1 p (.frz o (.tup [v, .int z]))) σ ρ1 s v := by
      cases s with
      | v k d => exact r1
      | own ds =>
        obtain ⟨A, vs, rfl, g2, g3, g4, g5, g6⟩ := r1
        exact ⟨A, vs, rfl, by rw [upd_ne (ne_of_none g2 hp')]; exact g2, g3, g4, g5, g6⟩
    exact q1 _ F1 _ _ hp e1 (((E1.lay0 (o := .frz o (.tup [v, .int z])) hp').put r2 hm1).put (r := .val (.int z)) sr_int hm2)⟩
/-- two items of a list exchanged, or set at once -/
theorem sd_swp {b1 b2 : Expr} {x : Str} {px1 px2 ps1 ps2 pt : Pos} {kt : Nat} {j1 j2 : Int} {q1 q2 : Nat} {d1 d2 : DL.D} {i : Nat} (hc : X.calm = true) (hN : X.N[i]? = some x) (hv : Vis X.env.scope x) (he : ED X G e ρ ρ1 (.v k (.tup [d1, d2]))) (hb1 : ED X G b1 ρ1 ρ1 (.v k1 (.int j1))) (h1 : ρ1[i]? = some (some (.own ds))) (hj1 : ixN ds.length j1 = some q1)
    (hb2 : ED X G b2 (ρ1.set i (some (.own (ds.set q1 d1)))) (ρ1.set i (some (.own (ds.set q1 d1)))) (.v k2 (.int j2))) (hj2 : ixN ds.length j2 = some q2) (hp : P (.nx (ρ1.set i (some (.own ((ds.set q1 d1).set q2 d2)))))) (hdb : (x == ("__debug__" : Str)) = false) (hcd : (x == ("__classdict__" : Str)) = false)
    (h01 : plainB b1 = true) (h02 : plainB b2 = true) (hs : swapsWithSole [.Tuple [.Subscript (.Name x px1) b1 ps1, .Subscript (.Name x px2) b2 ps2] kt pt] e pos.line X.env = pure false) (hw : swappedStores [.Tuple [.Subscript (.Name x px1) b1 ps1, .Subscript (.Name x px2) b2 ps2] kt pt] e X.env = pure none) :
    SD X G (.Assign [.Tuple [.Subscript (.Name x px1) b1 ps1, .Subscript (.Name x px2) b2 ps2] kt pt] e pos) ρ P := by
  have a1 : ∀ v, assign (.Subscript (.Name x px1) b1 ps1) X.env v = (do let ov ← holding [v] (eval (.Name x px1) X.env); let iv ← holding [v, ov] (eval b1 X.env); standAt ps1; holding [v, ov, iv] (setItem ov iv v); release [v, ov, iv] []) := fun v => by
    cases b1 <;> first | rfl | (cases h01; done)
  have a2 : ∀ v, assign (.Subscript (.Name x px2) b2 ps2) X.env v = (do let ov ← holding [v] (eval (.Name x px2) X.env); let iv ← holding [v, ov] (eval b2 X.env); standAt ps2; holding [v, ov, iv] (setItem ov iv v); release [v, ov, iv] []) := fun v => by
    cases b2 <;> first | rfl | (cases h02; done)
  refine ps_mono (ps_asg he (pg_tup (n := 2) hc (pgs_cons (pg_sub (pe_var hN hv hdb hcd) hb1 set_list a1) (pgs_cons (pg_sub (pe_var hN hv hdb hcd) hb2 set_list a2) pgs_nil rfl) rfl) rfl rfl) hs hw rfl) fun D σ H ⟨F, E, qq, _⟩ => ⟨F, E, fun F1 H1 v e1 E1 r1 => ?_⟩
  obtain ⟨A, vs, rfl, g2, g3⟩ := RK.tup r1
  obtain ⟨v1, t1, rfl, m1, g3⟩ := g3.cons_of
  obtain ⟨v2, t2, rfl, m2, g3⟩ := g3.cons_of
  have ez := g3.nil_of
  subst ez
  refine ⟨A, [v1, v2], rfl, E1.sub.sqT g2.1, rfl, v1, [v2], rfl, ?_⟩
  obtain ⟨B, ws, n1, n2, n3, n4, n5⟩ := E1.own i ds h1
  refine ⟨_, n1, F1, E1, fun F2 H2 w e2 E2 r2 => ?_⟩
  obtain ⟨B', ws', o1, o2, o3, o4, o5⟩ := E2.own i ds h1
  rw [n1] at o1; cases o1
  refine ⟨B, ws', _, q1, rfl, of_int r2, o2, by rw [o5.length]; exact hj1, ?_⟩
  have E3 := E2.write h1 n1 (o5.set q1 (Rep.mono e2 _ _ m1))
  refine ⟨v2, [], rfl, ?_⟩
  have hil : i < ρ1.length := (List.getElem?_eq_some_iff.mp h1).1
  have h1' : (ρ1.set i (some (Slot.own (ds.set q1 d1))))[i]? = some (some (.own (ds.set q1 d1))) := by rw [List.getElem?_set, if_pos rfl, if_pos hil]
  refine ⟨_, n1, F2, E3, fun F4 H4 w4 e4 E4 r4 => ?_⟩
  obtain ⟨B4, ws4, s1, s2, s3, s4, s5⟩ := E4.own i _ h1'
  rw [n1] at s1; cases s1
  refine ⟨B, ws4, _, q2, rfl, of_int r4, s2, by rw [s5.length, List.length_set]; exact hj2, rfl, ?_⟩
  have E5 := E4.write h1' n1 (s5.set q2 (Rep.mono (e2.trans e4) _ _ m2))
  rw [List.set_set] at E5
  exact qq _ F4 _ σ hp ((e1.trans e2).trans e4) E5
theorem sw_ok {x y : Str} {px py pt : Pos} {kt k2 : Nat} {pt2 : Pos} {env : PySem.Env} (hbk : env.blockKind = .function) (hx : env.kindOf x = some .local) (hy : env.kindOf y = some .local) (na : nsB a = true) (nb : nsB b = true) (hxy : (x == y) = false) (hl : px.line = py.line)
    (h1 : (foldedForSure 8 a && foldedForSure 8 b) = false) (h2 : (constantsAlone 8 a && constantsAlone 8 b) = false) : swappedStores [.Tuple [.Name x px, .Name y py] kt pt] (.Tuple [a, b] k2 pt2) env = pure (some [x, y]) := by
  have hs : ([a, b].any fun | .Starred .. => true | _ => false) = false := by
    cases a <;> cases b <;> first | rfl | (cases na; done) | (cases nb; done)
  have e1 : (py.line == px.line) = true := by rw [hl]; exact beq_self_eq_true _
  have e2 : ([x, y].eraseDups.length != [x, y].length) = false := by
    have : (y == x) = false := by rw [Bool.eq_false_iff] at hxy ⊢; intro q; exact hxy (by rw [eq_of_beq q]; exact beq_self_eq_true _)
    simp [List.eraseDups_cons, this]
  have e3 : (y = x) = False := by
    rw [Bool.eq_false_iff] at hxy
    exact eq_false fun q => hxy (by rw [q]; exact beq_self_eq_true _)
  unfold swappedStores
  simp only [List.length_cons, List.length_nil, hbk, hx, hy, hs]
  simp [h1, h2, hl, hs, hx, hy, hxy, List.filterMap_cons, PySem.Expr.pos, List.eraseDups_cons, e3]
  intro hh
  exfalso
  rcases hh with hh | hh
  · cases a <;> first | (cases na; done) | (cases hh; done)
  · cases b <;> first | (cases nb; done) | (cases hh; done)
theorem sw_none {x y : Str} {px py pt : Pos} {kt k2 : Nat} {pt2 : Pos} {env : PySem.Env} (h : ¬ (env.kindOf x = some .local ∧ env.kindOf y = some .local)) : swappedStores [.Tuple [.Name x px, .Name y py] kt pt] (.Tuple [a, b] k2 pt2) env = pure none := by
  unfold swappedStores
  by_cases hx : env.kindOf x = some .local
  · have hy : ¬ env.kindOf y = some .local := fun q => h ⟨hx, q⟩
    by_cases hb : env.blockKind = .function <;> cases hs : ([a, b].any fun | .Starred .. => true | _ => false) <;> by_cases hl : py.line = px.line <;> simp [hb, hs, hx, hy, hl, List.filterMap_cons, PySem.Expr.pos]
  · by_cases hb : env.blockKind = .function <;> cases hs : ([a, b].any fun | .Starred .. => true | _ => false) <;> by_cases hy : env.kindOf y = some .local <;> by_cases hl : py.line = px.line <;> simp [hb, hs, hx, hy, hl, List.filterMap_cons, PySem.Expr.pos]
theorem sw_none2 {b1 b2 : Expr} {x y : Str} {px1 px2 ps1 ps2 pt : Pos} {kt k2 : Nat} {pt2 : Pos} {env : PySem.Env} : swappedStores [.Tuple [.Subscript (.Name x px1) b1 ps1, .Subscript (.Name y px2) b2 ps2] kt pt] (.Tuple [a, b] k2 pt2) env = pure none := by
  unfold swappedStores
  by_cases hb : env.blockKind = .function <;> cases hs : ([a, b].any fun | .Starred .. => true | _ => false) <;> simp [hb, hs, List.filterMap_cons]
/-- x = [..], fixed at once -/
theorem sd_setCF {acc : List D} {y : Str} {py spos : Pos} (hi : X.N[i]? = some y) (hl : X.env.scope.names.lookup y = some .local) (h : CD X G e ρ ρ' acc) (hm : G.ms[i]? ≠ some true) (q : P (.nx (ρ'.set i (some (.val (.lst acc))))))
    (hs : swapsWith e (some (.Name y py)) spos.line X.env = pure true) : SD X G (.Assign [.Name y py] e spos) ρ P :=
  ps_mono (h.set hi hl hs) fun D σ H ⟨F, E, q1, _⟩ => ⟨F, E, fun F1 H1 v e1 E1 r1 => by
    obtain ⟨a, vs, rfl, h2, h3, h4, h5, h6⟩ := r1
    exact q1 _ _ H1 _ q (e1.trans (Ext.lay h3)) ((E1.fix h2 h3 h4 h6).put (r := .val (.lst acc)) (rep_lst.mpr ⟨a, vs, rfl, .inl upd_same, Reps.mono (Ext.lay h3) _ _ h5⟩) hm)⟩
theorem set_ok {m : Nat} {x : Str} {px : Pos} (ox : OkT M tab Γ jr X) (hc : CalOk M tab jr c) (hm : MsOk G ms) (h0 : stB Γ x = true) (h01 : (!(lcB e) || (loB Γ x && (match e with | .ListComp .. => true | _ => false))) = true)
    (h1 : ixOf Γ.N x = some i) (h2 : compE m Γ e = some A) {v : Slot × DL.Env} (q1 : evM c ms A ρ = some v) {fx : Bool} (q2 : frB ms i = true) (hp : P (.nx (v.2.set i (some (if fx then fixS v.1 else v.1))))) : SD X G (.Assign [.Name x px] e pos) ρ P := by
  obtain ⟨l1, l2⟩ := st_ok ox.toOkX h0
  have hi : X.N[i]? = some x := by rw [ox.N]; exact ixOf_ok h1
  have hN : X.N.Nodup := by rw [ox.N]; exact ox.nd
  cases hl : lcB e with
  | false =>
    cases fx with
    | true => exact sd_set hN hi l1 (ed_fixS (evM_ok ox.toOkX hc hm h2 q1)) (hm _ q2) hp (lc_no hl) l2
    | false => exact sd_set hN hi l1 (evM_ok ox.toOkX hc hm h2 q1) (hm _ q2) hp (lc_no hl) l2
  | true =>
    rw [hl] at h01
    simp only [Bool.not_true, Bool.false_or, Bool.and_eq_true] at h01
    obtain ⟨h02, h03⟩ := h01
    split at h03
    · rename_i elt gs sc pe
      have q1' : evE c ms A ρ = some v := by
        unfold evM at q1
        split at q1
        · rename_i i' hi'
          obtain ⟨rfl, _⟩ := ownVar_ok hi'
          obtain ⟨x', p', he, _⟩ := comp_var h2
          cases he
        · exact q1
      obtain ⟨acc, hacc, k⟩ := (all_ok m Γ _ A h2).2.2 _ _ _ _ rfl X jr G c ms ρ v.2 v.1 ox.toOkX hc hm q1'
      rw [hacc] at hp
      have hsw := lc_pure (n := x) (elt := elt) (gs := gs) (sc := sc) (pos' := px) (pe := pe) (env := X.env) (line := pos.line)
      cases hb : (X.env.blockKind == .function && X.env.kindOf x == some .local && px.line == pe.line && !(sc.names.any fun (q : Str × NameKind) => q.1 == x && (q.2 == .local || q.2 == .cell))) with
      | true =>
        cases fx with
        | true => exact sd_setCF hi (loB_ok ox.toOkX h02) k (hm _ q2) hp (by rw [hsw, hb])
        | false => exact sd_setC hi (loB_ok ox.toOkX h02) k (hm _ q2) hp (by rw [hsw, hb])
      | false =>
        cases fx with
        | true => exact sd_set hN hi l1 (ed_fix (ed_of k)) (hm _ q2) hp (by rw [hsw, hb]) l2
        | false => exact sd_set hN hi l1 (ed_of k) (hm _ q2) hp (by rw [hsw, hb]) l2
    · cases h03
theorem setIx_ok {m : Nat} {x : Str} {px ps : Pos} {jj : Int} {B : CE} {k : Nat} (ox : OkT M tab Γ jr X) (hc : CalOk M tab jr c) (hm : MsOk G ms) (h0 : plainB b = true)
    (h1 : cVar Γ x = some i) (h2 : compE m Γ e = some A) (h3 : compE m Γ b = some B) {v w : Slot × DL.Env} (q1 : evE c ms A ρ = some v) (q2 : toV v.1 = some y) (q3 : evE c ms B v.2 = some w) (q4 : w.2 = v.2) (q5 : intS w.1 = some jj) (q6 : getO v.2 i = some ds) (q7 : ixN ds.length jj = some k)
    (hp : P (.nx (v.2.set i (some (.own (ds.set k y)))))) : SD X G (.Assign [.Subscript (.Name x px) b ps] e pos) ρ P := by
  obtain ⟨g1, g2, g3, g4⟩ := ox.var h1
  have E2 := (all_ok m Γ b B h3).1 X jr G c ms _ _ _ ox.toOkX hc hm q3
  rw [q4] at E2
  obtain ⟨_, E2⟩ := ed_intS E2 q5
  refine sd_setO g1 g2 ((all_ok m Γ e A h2).1 X jr G c ms _ _ _ ox.toOkX hc hm q1) (toV_ok q2) E2 (getO_ok q6) q7 hp g3 g4 ?_ ?_ ?_
  · show swapsWith e (some (.Subscript (.Name x px) b ps)) pos.line X.env = pure false
    cases e <;> rfl
  · rfl
  · intro v
    cases b <;> first | rfl | (cases h0; done)
theorem set2_ok {m i2 : Nat} {x y : Str} {px py pt : Pos} {kt k2 : Nat} {pt2 : Pos} {B : CE} (ox : OkT M tab Γ jr X) (hc : CalOk M tab jr c) (hm : MsOk G ms) (h01 : loB Γ x = true) (h02 : loB Γ y = true) (h03 : nsB a = true) (h04 : nsB b = true) (h05 : (x == y) = false) (h06 : px.line = py.line)
    (h07 : (foldedForSure 8 a && foldedForSure 8 b) = false) (h08 : (constantsAlone 8 a && constantsAlone 8 b) = false) (h1 : ixOf Γ.N x = some i) (h2 : ixOf Γ.N y = some i2) (h3 : compE m Γ a = some A) (h4 : compE m Γ b = some B) {v w : Slot × DL.Env} (q1 : evE c ms A ρ = some v) (q2 : evE c ms B v.2 = some w) (q3 : frB ms i = true ∧ frB ms i2 = true)
    (hp : P (.nx ((w.2.set i (some (fixS v.1))).set i2 (some (fixS w.1))))) : SD X G (.Assign [.Tuple [.Name x px, .Name y py] kt pt] (.Tuple [a, b] k2 pt2) pos) ρ P := by
  have E1 := ed_fixS ((all_ok m Γ a A h3).1 X jr G c ms _ _ _ ox.toOkX hc hm q1)
  have E2 := ed_fixS ((all_ok m Γ b B h4).1 X jr G c ms _ _ _ ox.toOkX hc hm q2)
  have hN : X.N.Nodup := by rw [ox.N]; exact ox.nd
  have hi : X.N[i]? = some x := by rw [ox.N]; exact ixOf_ok h1
  have hj : X.N[i2]? = some y := by rw [ox.N]; exact ixOf_ok h2
  have hij : i ≠ i2 := fun e => by
    subst e
    rw [hi] at hj
    injection hj with hj
    rw [hj, Bool.eq_false_iff] at h05
    exact h05 (beq_self_eq_true _)
  have lx := loB_ok ox.toOkX h01
  have ly := loB_ok ox.toOkX h02
  have fx : ∀ s : Slot, ∃ k d, fixS s = .v k d := fun s => by
    cases s with
    | v k d => exact ⟨k, d, rfl⟩
    | own ds => exact ⟨true, .lst ds, rfl⟩
  obtain ⟨k1, D1, e1⟩ := fx v.1
  obtain ⟨k2, D2, e2⟩ := fx w.1
  rw [e1] at E1
  rw [e2] at E2
  rw [e1, e2] at hp
  exact sd_set2 ox.calm hN hi hj hij lx ly E1 E2 h03 h04 (hm _ q3.1) (hm _ q3.2) (sw_ok ox.bk lx ly h03 h04 h05 h06 h07 h08) hp
/-- for over anything; only turns that are reached count -/
theorem sd_forW' {sts : List Stmt} {tg iter : Expr} {g : TG} {ix : List Nat} {it : Nat → Yld} {ft : Nat → DL.Env → DL.Env} {m : Nat} (J : Nat → DL.Env → Prop) (hw : WD X G tg iter ρ ρ1 m it) (hg : PG X tg g) (hy : ∀ t ρ', t < m → J t ρ' → TgR X.K G g ix (it t) (ft t)) (h0 : J 0 ρ1)
    (ht : ∀ t ρ', t < m → J t ρ' → BD X G sts (ft t ρ') (turnP (J (t + 1)) P)) (hd : ∀ ρ', J m ρ' → P (.nx ρ')) (hp : PassesOwn (model X.prog X.w) X.A X.env X.xe) (hc : X.calm = true) (hs : ∀ x, foldedSetIterable iter X.env x = pure x) : SD X G (.For tg iter sts [] pos) ρ P := by
  have hb : PSs X sts (tTurnW X.K G m ft J P) := pss_any fun q hq => ht q.1 q.2 hq.1 hq.2
  refine ps_mono (ps_for hp hc hw hg hb hs) fun D σ H ⟨F, E, q1, q2, q3, q4⟩ => ⟨F, E, fun F1 H1 Jt e1 E1 wk => ?_⟩
  obtain ⟨Gd, Y, W, hG, hY⟩ := wk
  refine for_it W (g := g) (tb := tTurnW X.K G m ft J P) (D := D) (fun t σ' H' => ∃ F' ρ', J t ρ' ∧ Ext F1 F' ∧ ER X.K G F' H' σ' ρ') ⟨F1, ρ1, h0, Ext.refl _, E1⟩ ?_ ?_ ?_
  · rintro t σ' H' _ ⟨F', ρ', _, e2, E2⟩
    exact hG H' (e2.trans E2.sub) E2.keep
  · rintro t x σ' H' H2 hx ⟨F', ρ', hj, e2, E2⟩ y
    refine hy t ρ' hx hj F1 F' H' H2 σ' ρ' x _ e2 E2 (hY t H' x H2 hx (e2.trans E2.sub) E2.keep y) fun H3 ws _ E3 => ?_
    refine ⟨(t, ρ'), ⟨hx, hj⟩, F', E3, ?_, ?_, ?_, ?_⟩
    · exact fun ρ4 F4 H4 σ4 h4 e4 E4 => ⟨F4, ρ4, h4, e2.trans e4, E4⟩
    · exact fun r ρ4 F4 H4 σ4 v h4 e4 E4 r4 => q2 r ρ4 F4 H4 σ4 v h4 ((e1.trans e2).trans e4) E4 r4
    · exact fun ρ4 F4 H4 σ4 h4 e4 E4 => q1 ρ4 F4 H4 σ4 h4 ((e1.trans e2).trans e4) E4
    · exact fun ρ4 F4 H4 σ4 h4 e4 E4 => ⟨F4, ρ4, h4, e2.trans e4, E4⟩
  · rintro σ' H' ⟨F', ρ', hj, e2, E2⟩
    exact q1 ρ' F' H' σ' (hd ρ' hj) (e1.trans e2) E2
theorem for_ok {sts : List Stmt} {tg it : Expr} {w : Wk} {g : Tgt} {f : DL.Env → Option Out} (ox : OkT M tab Γ jr X) (W1 : WD X G tg it ρ ρ1 w.m w.it) (W2 : ∀ x, foldedSetIterable it X.env x = pure x) (ht : PG X tg (gOf X.K g)) (hmv : ∀ i ∈ g.ix, G.ms[i]? ≠ some true)
    (hb : ∀ ρ u (P : Out → Prop), f ρ = some u → P u → BD X G sts ρ P) (q : forL (fun t ρ' => (bindY g (w.it t)).bind fun g => f (g ρ')) 0 w.m ρ1 = some u) (hp : P u) : SD X G (.For tg it sts [] pos) ρ P := by
  refine sd_forW' (g := gOf X.K g) (ix := g.ix) (ft := fun t => (bindY g (w.it t)).getD id) (J := fun t ρ' => forL (fun t ρ' => (bindY g (w.it t)).bind fun g => f (g ρ')) t (w.m - t) ρ' = some u) W1 ht (fun t ρ' h hj => ?_) q (fun t ρ' h hj => ?_) (fun ρ' hj => ?_) ox.pass ox.calm W2
  · rw [show w.m - t = (w.m - (t + 1)) + 1 by omega] at hj
    obtain ⟨o, h1, _⟩ := bind_some' hj
    obtain ⟨gf, h2, _⟩ := bind_some' h1
    simp only [h2, Option.getD_some]
    exact (bindY_ok h2 hmv).1
  · rw [show w.m - t = (w.m - (t + 1)) + 1 by omega] at hj
    obtain ⟨o, h1, h3⟩ := bind_some' hj
    obtain ⟨gf, h2, h1⟩ := bind_some' h1
    simp only [h2, Option.getD_some]
    refine hb _ o _ h1 ?_
    cases o with
    | nx ρ2 => exact h3
    | ct ρ2 => exact h3
    | bk ρ2 => cases h3; exact hp
    | ret r ρ2 => cases h3; exact hp
  · rw [Nat.sub_self] at hj
    cases hj
    exact hp
theorem tup2_ev {c : Cs} {ms : List Bool} {A B : CE} {ρ : DL.Env} {v : Slot × DL.Env} (h : evE c ms (.tup (.cons A (.cons B .nil))) ρ = some v) : ∃ p q d1 d2, evE c ms A ρ = some p ∧ toV p.1 = some d1 ∧ evE c ms B p.2 = some q ∧ toV q.1 = some d2 ∧ v = (.val (.tup [d1, d2]), q.2) := by
  simp only [evE, evA] at h
  obtain ⟨w, h1, h⟩ := bind_some' h
  obtain ⟨_, h⟩ := chk_some h
  cases h
  obtain ⟨p, h2, h1⟩ := bind_some' h1
  obtain ⟨d1, h3, h1⟩ := bind_some' h1
  obtain ⟨r, h4, h1⟩ := bind_some' h1
  cases h1
  obtain ⟨q, h5, h4⟩ := bind_some' h4
  obtain ⟨d2, h6, h4⟩ := bind_some' h4
  obtain ⟨z, h7, h4⟩ := bind_some' h4
  cases h7
  cases h4
  exact ⟨p, q, d1, d2, h2, h3, h5, h6, rfl⟩
theorem tup2_ed {m : Nat} {A B : CE} {v : Slot × DL.Env} {k2 : Nat} {pt2 : Pos} (ox : OkX M tab Γ jr X) (hc : CalOk M tab jr c) (hm : MsOk G ms) (h3 : compE m Γ a = some A) (h4 : compE m Γ b = some B) (na : nsB a = true) (nb : nsB b = true) (h : evE c ms (.tup (.cons A (.cons B .nil))) ρ = some v) : ∃ d1 d2, v.1 = .val (.tup [d1, d2]) ∧ ED X G (.Tuple [a, b] k2 pt2) ρ v.2 (.val (.tup [d1, d2])) := by
  obtain ⟨p, q, d1, d2, h5, h6, h7, h8, rfl⟩ := tup2_ev h
  have E1 := ed_toV ((all_ok m Γ a A h3).1 X jr G c ms _ _ _ ox hc hm h5) (toV_ok h6)
  have E2 := ed_toV ((all_ok m Γ b B h4).1 X jr G c ms _ _ _ ox hc hm h7) (toV_ok h8)
  exact ⟨d1, d2, rfl, ed_tup (ea_cons E1 (ea_cons E2 ea_nil (star_ns nb)) (star_ns na)) (by show 2 ≤ sizeLine; decide)⟩
theorem setT_ok {m : Nat} {x y : Str} {px py pt : Pos} {kt k2 : Nat} {pt2 spos : Pos} {st : CS} (W : Parts M tab Γ (compE m Γ)) (hlo : ¬ (loB Γ x && loB Γ y) = true) (s1 : stB Γ x = true) (s2 : stB Γ y = true)
    (h : (match b with
        | .Constant (.int z) _ _ => (ixOf Γ.N x).bind fun i => (ixOf Γ.N y).bind fun j => (compE m Γ a).bind fun a' => some (CS.set2o i j a' z)
        | b => (ixOf Γ.N x).bind fun i => (ixOf Γ.N y).bind fun j => (compE m Γ a).bind fun a' => (compE m Γ b).bind fun b' => some (CS.setTp [i, j] (.tup (.cons a' (.cons b' .nil))))) = some st) (na : nsB a = true) (nb : nsB b = true) :
    SS M tab Γ (.Assign [.Tuple [.Name x px, .Name y py] kt pt] (.Tuple [a, b] k2 pt2) spos) st := by
  intro X j G c ms ρ u P ox hc hm q hp
  have nk : ¬ (X.env.kindOf x = some .local ∧ X.env.kindOf y = some .local) := fun ⟨q1, q2⟩ => hlo (by
    have e1 : Γ.sc.names.lookup x = some .local := by rw [← ox.sc]; exact q1
    have e2 : Γ.sc.names.lookup y = some .local := by rw [← ox.sc]; exact q2
    unfold loB; rw [e1, e2]; rfl)
  split at h
  · obtain ⟨i, h1, h⟩ := bind_some' h
    obtain ⟨i2, h2, h⟩ := bind_some' h
    obtain ⟨A, h3, h⟩ := bind_some' h
    cases h
    simp only [evB] at q
    obtain ⟨v, q1, q⟩ := bind_some' q
    obtain ⟨q2, q⟩ := chk_some q
    cases q
    have E1 := (all_ok m Γ a A h3).1 X j G c ms _ _ _ ox.toOkX hc hm q1
    have hg : PG X (.Tuple [.Name x px, .Name y py] kt pt) (gOf X.K (.tp [i, i2])) := cTgt_ok ox.toOkX (by show (cTgs Γ _).map Tgt.tp = _; simp only [cTgs, s1, s2, h1, h2, if_true]; rfl)
    exact sd_set2o hg E1 na (hm _ q2.1) (hm _ q2.2) hp rfl (sw_none nk) rfl
  · obtain ⟨i, h1, h⟩ := bind_some' h
    obtain ⟨i2, h2, h⟩ := bind_some' h
    obtain ⟨A, h3, h⟩ := bind_some' h
    obtain ⟨B, h4, h⟩ := bind_some' h
    cases h
    simp only [evB] at q
    obtain ⟨v, q1, q⟩ := bind_some' q
    obtain ⟨ds, q2, q⟩ := bind_some' q
    obtain ⟨q3, q⟩ := chk_some q
    cases q
    obtain ⟨d1, d2, e1, E1⟩ := tup2_ed (k2 := k2) (pt2 := pt2) ox.toOkX hc hm h3 h4 na nb q1
    rw [e1] at q2
    cases q2
    have hg : PG X (.Tuple [.Name x px, .Name y py] kt pt) (gOf X.K (.tp [i, i2])) := cTgt_ok ox.toOkX (by show (cTgs Γ _).map Tgt.tp = _; simp only [cTgs, s1, s2, h1, h2, if_true]; rfl)
    exact sd_setTp hg E1 rfl (fun i hi => hm i (List.all_eq_true.mp q3.1 i hi)) hp rfl (sw_none nk) rfl
theorem swp_ok {m : Nat} {x : Str} {b1 b2 : Expr} {px1 px2 ps1 ps2 pt : Pos} {kt k2 : Nat} {pt2 spos : Pos} {B1 B2 A B : CE} (h1 : cVar Γ x = some i) (h2 : compE m Γ b1 = some B1) (h3 : compE m Γ b2 = some B2) (h4 : compE m Γ a = some A) (h5 : compE m Γ b = some B) (p1 : plainB b1 = true) (p2 : plainB b2 = true) (na : nsB a = true) (nb : nsB b = true) :
    SS M tab Γ (.Assign [.Tuple [.Subscript (.Name x px1) b1 ps1, .Subscript (.Name x px2) b2 ps2] kt pt] (.Tuple [a, b] k2 pt2) spos) (.swp i B1 B2 (.tup (.cons A (.cons B .nil)))) := by
  intro X j G c ms ρ u P ox hc hm q hp
  simp only [evB] at q
  obtain ⟨v, q1, q⟩ := bind_some' q
  obtain ⟨d, q2, q⟩ := bind_some' q
  obtain ⟨w, q3, q⟩ := bind_some' q
  obtain ⟨q4, q⟩ := chk_some q
  obtain ⟨j1, q5, q⟩ := bind_some' q
  obtain ⟨ds, q6, q⟩ := bind_some' q
  obtain ⟨k1, q7, q⟩ := bind_some' q
  obtain ⟨w2, q8, q⟩ := bind_some' q
  obtain ⟨q9, q⟩ := chk_some q
  obtain ⟨j2, q10, q⟩ := bind_some' q
  obtain ⟨k2', q11, q⟩ := bind_some' q
  cases q
  obtain ⟨d1, d2, e1, E1⟩ := tup2_ed (k2 := k2) (pt2 := pt2) ox.toOkX hc hm h4 h5 na nb q1
  rw [e1] at q2
  cases q2
  obtain ⟨g1, g2, g3, g4⟩ := ox.var h1
  have E2 := (all_ok m Γ b1 B1 h2).1 X j G c ms _ _ _ ox.toOkX hc hm q3
  rw [q4] at E2
  obtain ⟨_, E2⟩ := ed_intS E2 q5
  have E3 := (all_ok m Γ b2 B2 h3).1 X j G c ms _ _ _ ox.toOkX hc hm q8
  rw [q9] at E3
  obtain ⟨_, E3⟩ := ed_intS E3 q10
  exact sd_swp ox.calm g1 g2 E1 E2 (getO_ok q6) q7 E3 q11 hp g3 g4 p1 p2 rfl sw_none2
theorem stm_ok (mu : List Nat) : ∀ (m : Nat) (Γ : Ga) (st : Stmt) (a : CS), compS mu m Γ st = some a → SS M tab Γ st a := by
  intro m
  induction m with
  | zero => intro Γ st a h; cases h
  | succ m ih =>
    intro Γ st a h
    have W : Parts M tab Γ (compE m Γ) := ⟨fun e a h => ⟨(all_ok m Γ e a h).1, (all_ok m Γ e a h).2.1⟩, fun e i h => comp_var h⟩
    unfold compS at h
    split at h
    · -- a name is set
      obtain ⟨h0, h⟩ := ite_some h
      rw [Bool.and_eq_true] at h0
      obtain ⟨i, h1, h⟩ := bind_some' h
      obtain ⟨A, h2, h⟩ := bind_some' h
      cases h
      intro X j G c ms ρ u P ox hc hm q hp
      simp only [evB] at q
      obtain ⟨v, q1, q⟩ := bind_some' q
      obtain ⟨q2, q⟩ := chk_some q
      cases q
      exact set_ok ox hc hm h0.1 h0.2 h1 h2 q1 q2 hp
    · -- an item is set
      obtain ⟨h0, h⟩ := ite_some h
      obtain ⟨i, h1, h⟩ := bind_some' h
      obtain ⟨A, h2, h⟩ := bind_some' h
      obtain ⟨B, h3, h⟩ := bind_some' h
      cases h
      intro X j G c ms ρ u P ox hc hm q hp
      simp only [evB] at q
      obtain ⟨v, q1, q⟩ := bind_some' q
      obtain ⟨d, q2, q⟩ := bind_some' q
      obtain ⟨w, q3, q⟩ := bind_some' q
      obtain ⟨q4, q⟩ := chk_some q
      obtain ⟨jj, q5, q⟩ := bind_some' q
      obtain ⟨ds, q6, q⟩ := bind_some' q
      obtain ⟨k, q7, q⟩ := bind_some' q
      cases q
      exact setIx_ok ox hc hm h0 h1 h2 h3 q1 q2 q3 q4 q5 q6 q7 hp
    · -- two names
      split at h
      · rename_i h0
        simp only [Bool.and_eq_true, Bool.not_eq_true'] at h0
        obtain ⟨⟨⟨⟨⟨⟨⟨h01, h02⟩, h03⟩, h04⟩, h05⟩, h06⟩, h07⟩, h08⟩ := h0
        obtain ⟨i, h1, h⟩ := bind_some' h
        obtain ⟨i2, h2, h⟩ := bind_some' h
        obtain ⟨A, h3, h⟩ := bind_some' h
        obtain ⟨B, h4, h⟩ := bind_some' h
        cases h
        intro X j G c ms ρ u P ox hc hm q hp
        simp only [evB] at q
        obtain ⟨v, q1, q⟩ := bind_some' q
        obtain ⟨w, q2, q⟩ := bind_some' q
        obtain ⟨q3, q⟩ := chk_some q
        cases q
        exact set2_ok ox hc hm h01 h02 h03 h04 h05 (eq_of_beq h06) h07 h08 h1 h2 h3 h4 q1 q2 q3 hp
      · split at h
        · cases h
        · rename_i hlo
          obtain ⟨h0, h⟩ := ite_some h
          simp only [Bool.and_eq_true, Bool.not_eq_true'] at h0
          obtain ⟨⟨⟨⟨s1, s2⟩, na⟩, nb⟩, hxy⟩ := h0
          exact setT_ok W hlo s1 s2 h na nb
    · -- two items are set at once
      obtain ⟨h0, gg⟩ := ite_some h
      clear h
      simp only [Bool.and_eq_true] at h0
      obtain ⟨⟨⟨⟨hxy, p1⟩, p2⟩, na⟩, nb⟩ := h0
      have hxy := eq_of_beq hxy
      subst hxy
      obtain ⟨i, h1, h⟩ := bind_some' gg
      obtain ⟨B1, h2, h⟩ := bind_some' h
      obtain ⟨B2, h3, h⟩ := bind_some' h
      obtain ⟨A, h4, h⟩ := bind_some' h
      obtain ⟨B, h5, h⟩ := bind_some' h
      cases h
      exact swp_ok h1 h2 h3 h4 h5 p1 p2 na nb
    · -- names are set from a call
      obtain ⟨ix, h1, h⟩ := bind_some' h
      obtain ⟨A, h2, h⟩ := bind_some' h
      cases h
      intro X j G c ms ρ u P ox hc hm q hp
      simp only [evB] at q
      obtain ⟨v, q1, q⟩ := bind_some' q
      obtain ⟨ds, q2, q⟩ := bind_some' q
      obtain ⟨q3, q⟩ := chk_some q
      cases q
      unfold tupS at q2
      split at q2
      · rename_i k ds' hv
        cases q2
        have E1 := (all_ok m Γ _ A h2).1 X j G c ms _ _ _ ox.toOkX hc hm q1
        rw [hv] at E1
        exact sd_setTp (cTgt_ok ox.toOkX (t := .tp ix) (by show (cTgs Γ _).map Tgt.tp = _; rw [h1]; rfl)) E1 q3.2 (fun i hi => hm i (List.all_eq_true.mp q3.1 i hi)) hp rfl rfl rfl
      · cases q2
    · -- name += int
      obtain ⟨h0, h⟩ := ite_some h
      obtain ⟨i, h1, h⟩ := bind_some' h
      obtain ⟨A, h2, rfl⟩ := map_some' h
      intro X j G c ms ρ u P ox hc hm q hp
      simp only [evB] at q
      obtain ⟨ai, q1, q⟩ := bind_some' q
      obtain ⟨v, q2, q⟩ := bind_some' q
      obtain ⟨bi, q3, q⟩ := bind_some' q
      obtain ⟨q4, q⟩ := chk_some q
      cases q
      unfold intAt at q1
      split at q1
      · rename_i k ai' hd
        cases q1
        obtain ⟨_, E1⟩ := ed_intS ((all_ok m Γ _ A h2).1 X j G c ms _ _ _ ox.toOkX hc hm q2) q3
        obtain ⟨l1, l2⟩ := st_ok ox.toOkX h0
        exact sd_aug (by rw [ox.N]; exact ox.nd) (by rw [ox.N]; exact ixOf_ok h1) l1 hd E1 (hm _ q4) hp l2
      · cases q1
    · split at h
      · cases h
      · rename_i hl
        have hl := Bool.eq_false_iff.mpr hl
        obtain ⟨A, h1, rfl⟩ := map_some' h
        intro X j G c ms ρ u P ox hc hm q hp
        simp only [evB] at q
        obtain ⟨v, q1, q⟩ := bind_some' q
        cases q
        exact sd_expr ((W.1 _ _ h1).1 X j G c ms _ _ _ ox.toOkX hc hm q1) hp (lc_no hl)
    · obtain ⟨A, h1, rfl⟩ := map_some' h
      intro X j G c ms ρ u P ox hc hm q hp
      simp only [evB] at q
      obtain ⟨v, q1, q⟩ := bind_some' q
      cases q
      exact sd_ret (ed_nv (evM_ok ox.toOkX hc hm h1 q1)) hp
    · cases h
      intro X j G c ms ρ u P ox hc hm q hp
      simp only [evB] at q
      cases q
      exact sd_retN hp
    · obtain ⟨T, h1, h⟩ := bind_some' h
      obtain ⟨A, h2, h⟩ := bind_some' h
      obtain ⟨B, h3, h⟩ := bind_some' h
      cases h
      intro X j G c ms ρ u P ox hc hm q hp
      simp only [evB] at q
      obtain ⟨v, q1, q⟩ := bind_some' q
      refine sd_if ((W.1 _ _ h1).2 X j G c ms _ _ _ ox.toOkX hc hm q1) (fun hk => ?_) fun hk => ?_
      · rw [hk, if_pos rfl] at q
        exact blk_ok (ih Γ) h2 X j G c ms _ u P ox hc hm q hp
      · rw [hk, if_neg Bool.false_ne_true] at q
        exact blk_ok (ih Γ) h3 X j G c ms _ u P ox hc hm q hp
    · obtain ⟨w, h1, h⟩ := bind_some' h
      obtain ⟨g, h2, h⟩ := bind_some' h
      obtain ⟨B, h3, h⟩ := bind_some' h
      cases h
      intro X j G c ms ρ u P ox hc hm q hp
      simp only [evB] at q
      obtain ⟨v, q1, q⟩ := bind_some' q
      obtain ⟨q2, q⟩ := chk_some q
      obtain ⟨W1, W2⟩ := cWalk_ok W ox.toOkX hc hm h1 q1
      exact for_ok ox W1 W2 (cTgt_ok ox.toOkX h2) (fun i hi => hm i (List.all_eq_true.mp q2 i hi)) (fun ρ u P h hp => blk_ok (ih Γ) h3 X j G c ms _ u P ox hc hm h hp) q hp
    · cases h
      intro X j G c ms ρ u P ox hc hm q hp
      simp only [evB] at q
      cases q
      exact sd_pass hp
    · cases h
      intro X j G c ms ρ u P ox hc hm q hp
      simp only [evB] at q
      cases q
      exact sd_brk hp
    · cases h
      intro X j G c ms ρ u P ox hc hm q hp
      simp only [evB] at q
      cases q
      exact sd_ct hp
    · obtain ⟨h0, h⟩ := ite_some h
      obtain ⟨k, h1, h⟩ := bind_some' h
      obtain ⟨A, h2, rfl⟩ := map_some' h
      intro X j G c ms ρ u P ox hc hm q hp
      simp only [evB] at q
      cases q
    · cases h
end
end RL
/-! RL8: the defs of a program, and their calls. -/
namespace RL
open PySem L2 DL PyProof.Rows PySem.W
structure De where
  name : Str
  ps : List Str
  N : List Str
  st : Stmt
  own : List Bool
  mu : List Nat
  cs : CS
  sp : Option (Cs → Cs → List Slot → Option (Slot × List Slot)) := none
def outsS (ρ : DL.Env) : Nat → List Slot → Option (List Slot)
  | _, [] => some []
  | i, .own _ :: as => (getO ρ i).bind fun es => (outsS ρ (i + 1) as).bind fun r => some (.own es :: r)
  | i, .v k d :: as => (outsS ρ (i + 1) as).bind fun r => some (.v k d :: r)
def resB : Slot → Bool
  | .v k _ => k
  | .own _ => true
noncomputable def runD (c : Cs) (d : De) (args : List Slot) : Option (Slot × List Slot) :=
  chk (args.length = d.ps.length) ((evB c (args.map isOwn) d.cs (startE d.N args)).bind fun o => match o with
    | .ret r ρ' => chk (resB r = true) ((outsS ρ' 0 args).bind fun outs => some (r, outs))
    | .nx ρ' => (outsS ρ' 0 args).bind fun outs => some (.val .non, outs)
    | _ => none)
def modes (T : List De) (f : Nat) : List Bool := ((T[f]?).map (·.own)).getD []
/-- one def's call; a def with a hook (sp) is told by it, from the calls of two levels below -/
noncomputable def stepD (T : List De) (n : Nat) (c c' : CC) (d : De) (args : List Slot) : Option (Slot × List Slot) :=
  match d.sp, n with
  | none, _ => runD ⟨c, modes T⟩ d args
  | some _, 0 => none
  | some _, 1 => none
  | some _, 2 => none
  | some h, _ + 3 => h ⟨c, modes T⟩ ⟨c', modes T⟩ args
theorem step_none {T : List De} {n : Nat} {c c' : CC} {d : De} {args : List Slot} (h : d.sp = none) : stepD T n c c' d args = runD ⟨c, modes T⟩ d args := by
  unfold stepD; rw [h]
theorem step_low {T : List De} {n : Nat} {c c' : CC} {d : De} {args : List Slot} {k : Cs → Cs → List Slot → Option (Slot × List Slot)} (h : d.sp = some k) (hn : n < 3) : stepD T n c c' d args = none := by
  match n, hn with
  | 0, _ => unfold stepD; rw [h]
  | 1, _ => unfold stepD; rw [h]
  | 2, _ => unfold stepD; rw [h]
theorem step_hook {T : List De} {n : Nat} {c c' : CC} {d : De} {args : List Slot} {k : Cs → Cs → List Slot → Option (Slot × List Slot)} (h : d.sp = some k) : stepD T (n + 3) c c' d args = k ⟨c, modes T⟩ ⟨c', modes T⟩ args := by
  unfold stepD; rw [h]
/-- calls up to a level, and up to the one below -/
noncomputable def callP (T : List De) : Nat → CC × CC
  | 0 => (fun _ _ => none, fun _ _ => none)
  | n + 1 => (fun f args => (T[f]?).bind fun d => stepD T n (callP T n).1 (callP T n).2 d args, (callP T n).1)
noncomputable def callT (T : List De) (n : Nat) : CC := (callP T n).1
noncomputable def csT (T : List De) (n : Nat) : Cs := ⟨callT T n, modes T⟩
def tabOf (T : List De) (i : Nat) : Option (Str × List Str) := (T[i]?).map fun d => (d.name, d.ps)
def fnsOf (T : List De) (x : Str) : Option (Nat × List Str) := (T.findIdx? (fun d => decide (d.name = x))).bind fun i => (T[i]?).map fun d => (i, d.ps)
def gaOf (T : List De) (cst : Str → Option D) (cls : Str → Option Nat) (d : De) : Ga := ⟨d.N, defScope d.st, true, cst, fnsOf T, cls, fun _ => false⟩
theorem fnsOf_ok {T : List De} {x : Str} {i : Nat} {ps : List Str} (h : fnsOf T x = some (i, ps)) : tabOf T i = some (x, ps) := by
  unfold fnsOf at h
  obtain ⟨j, h1, h⟩ := bind_some' h
  obtain ⟨d, h2, h⟩ := map_some' h
  cases h
  unfold tabOf
  obtain ⟨k1, k2, _⟩ := List.findIdx?_eq_some_iff_getElem.mp h1
  rw [h2]
  rw [List.getElem?_eq_getElem k1] at h2
  injection h2 with h2
  rw [h2] at k2
  show some (d.name, d.ps) = _
  rw [of_decide_eq_true k2]
structure TabOk (M : Mo) (T : List De) (cst : Str → Option D) (cls : Str → Option Nat) : Prop where
  m : M.Ok
  kst : ∀ x d, cst x = some d → ∃ v u, M.mg x = some u ∧ RelV v u ∧ ∀ F, Rep M.K F d v
  there : ∀ d ∈ T, DefAt M.K M.mg d.name d.st d.ps
  scope : ∀ d ∈ T, FnScope d.N d.ps (defScope d.st)
  comp : ∀ d ∈ T, d.sp = none → cBlk (compS d.mu 60 (gaOf T cst cls d)) (defBody d.st) = some d.cs
  hook : ∀ d ∈ T, ∀ h, d.sp = some h → ∀ (n : Nat) (c c' : Cs), CalOk M (tabOf T) (n + 3) c → CalOk M (tabOf T) (n + 2) c' → c.M = modes T → c'.M = modes T → ∀ args r outs, h c c' args = some (r, outs) → CalD M.P M.w M.K M.mg M.base (n + 4) d.name d.ps (spD M.K args r outs) ∧ ResOk r ∧ OwnTo outs args
theorem outsS_ok {ρ : DL.Env} : ∀ {args outs : List Slot} {n : Nat}, outsS ρ n args = some outs →
    outs.length = args.length ∧ ∀ (i : Nat) (s : Slot), args[i]? = some s → (isOwn s = true → ∃ es : List D, outs[i]? = some (.own es) ∧ ρ[n + i]? = some (some (.own es))) ∧ (isOwn s = false → outs[i]? = some s)
  | [], outs, n, h => by
    cases h
    exact ⟨rfl, fun i s q => by cases q⟩
  | .own ds :: as, outs, n, h => by
    simp only [outsS] at h
    obtain ⟨es, h1, h⟩ := bind_some' h
    obtain ⟨r, h2, h⟩ := bind_some' h
    cases h
    obtain ⟨k1, k2⟩ := outsS_ok h2
    refine ⟨by simp [k1], fun i s q => ?_⟩
    cases i with
    | zero =>
      cases q
      exact ⟨fun _ => ⟨es, rfl, getO_ok h1⟩, fun z => by cases z⟩
    | succ i =>
      obtain ⟨l1, l2⟩ := k2 i s q
      exact ⟨fun z => by
        obtain ⟨es', m1, m2⟩ := l1 z
        exact ⟨es', m1, by rw [show n + (i + 1) = n + 1 + i by omega]; exact m2⟩, l2⟩
  | .v k d :: as, outs, n, h => by
    simp only [outsS] at h
    obtain ⟨r, h2, h⟩ := bind_some' h
    cases h
    obtain ⟨k1, k2⟩ := outsS_ok h2
    refine ⟨by simp [k1], fun i s q => ?_⟩
    cases i with
    | zero =>
      cases q
      exact ⟨fun z => (by cases z), fun z => rfl⟩
    | succ i =>
      obtain ⟨l1, l2⟩ := k2 i s q
      exact ⟨fun z => by
        obtain ⟨es', m1, m2⟩ := l1 z
        exact ⟨es', m1, by rw [show n + (i + 1) = n + 1 + i by omega]; exact m2⟩, l2⟩
theorem outs_own {ρ : DL.Env} {args outs : List Slot} (h : outsS ρ 0 args = some outs) : OwnTo outs args ∧ ∀ (i : Nat) (ds : List D), args[i]? = some (.own ds) → ∃ es : List D, outs[i]? = some (.own es) ∧ ρ[i]? = some (some (.own es)) := by
  obtain ⟨h1, h2⟩ := outsS_ok h
  refine ⟨⟨h1, fun i s q => ⟨fun z => ?_, (h2 i s q).2⟩⟩, fun i ds q => ?_⟩
  · obtain ⟨es, k1, _⟩ := (h2 i s q).1 z
    exact ⟨es, k1⟩
  · obtain ⟨es, k1, k2⟩ := (h2 i _ q).1 rfl
    rw [Nat.zero_add] at k2
    exact ⟨es, k1, k2⟩
theorem res_ok {r : Slot} (h : resB r = true) : ResOk r := by
  cases r with
  | own ds => exact .own
  | v k d =>
    have h : k = true := h
    subst h
    exact .val
theorem callT_ok {M : Mo} {T : List De} {cst : Str → Option D} {cls : Str → Option Nat} (H : TabOk M T cst cls) : ∀ n, CalOk M (tabOf T) n (csT T n)
  | 0 => fun f args r outs h => by cases h
  | n + 1 => fun f args r outs h => by
    obtain ⟨d, h1, h⟩ := bind_some' (show ((T[f]?).bind fun d => stepD T n (callP T n).1 (callP T n).2 d args) = some (r, outs) from h)
    have hd : d ∈ T := List.mem_of_getElem? h1
    cases hsp : d.sp with
    | some hk =>
      match n, h with
      | 0, h => rw [step_low hsp (by decide)] at h; cases h
      | 1, h => rw [step_low hsp (by decide)] at h; cases h
      | 2, h => rw [step_low hsp (by decide)] at h; cases h
      | n + 3, h =>
        rw [step_hook hsp] at h
        obtain ⟨k1, k2, k3⟩ := H.hook d hd hk hsp n _ _ (callT_ok H (n + 3)) (callT_ok H (n + 2)) rfl rfl args r outs h
        exact ⟨d.name, d.ps, by unfold tabOf; rw [h1]; rfl, k1, k2, k3⟩
    | none =>
    rw [step_none hsp] at h
    have ih := callT_ok H n
    have h : runD (csT T n) d args = some (r, outs) := h
    unfold runD at h
    obtain ⟨h2, h⟩ := chk_some h
    obtain ⟨o, h3, h⟩ := bind_some' h
    have key : ∃ (hr : ResOk r) (ho : OwnTo outs args), EndP args r outs o := by
      cases o with
      | ret r' ρ' =>
        obtain ⟨h4, h⟩ := chk_some h
        obtain ⟨os, h5, h⟩ := bind_some' h
        cases h
        obtain ⟨k1, k2⟩ := outs_own h5
        exact ⟨res_ok h4, k1, rfl, k2⟩
      | nx ρ' =>
        obtain ⟨os, h5, h⟩ := bind_some' h
        cases h
        obtain ⟨k1, k2⟩ := outs_own h5
        exact ⟨.val, k1, rfl, k2⟩
      | bk _ => cases h
      | ct _ => cases h
    obtain ⟨hres, hown, hend⟩ := key
    refine ⟨d.name, d.ps, by unfold tabOf; rw [h1]; rfl, calD (H.there d hd) (H.scope d hd) h2 hown fun f cdv A outer s H' F0 vs E hroom => ?_, hres, hown⟩
    have S := H.scope d hd
    have ox : OkT M (tabOf T) (gaOf T cst cls d) n (cxOf CX0 M.P M.w M.K M.mg M.base d.N d.name (defScope d.st) f cdv A outer s H' E).nox :=
      { m := H.m, prog := rfl, w := rfl, K := rfl, mg := rfl, base := rfl, N := rfl, sc := rfl, calm := rfl, nd := S.nd, room := hroom, fn := fun _ _ => rfl, fnc := fun _ _ => rfl, fns := fun _ _ _ h => fnsOf_ok h, cst := H.kst, top := rfl, pass := PassesOwn.never, bk := by
          show PySem.Env.blockKind _ = _
          unfold PySem.Env.blockKind
          have : (defScope d.st).kind = .function := S.kind
          show (if (defScope d.st).kind.isAnnotationScope = true then _ else (defScope d.st).kind) = _
          rw [this]; rfl }
    refine blk_ok (fun st a h => stm_ok d.mu 60 _ st a h) (H.comp d hd hsp) _ n _ (csT T n) (args.map isOwn) _ o _ ox ih ?_ h3 hend
    intro i hi e
    have e : (args.map isOwn)[i]? = some true := e
    unfold frB at hi
    rw [List.getD_eq_getElem?_getD, e] at hi
    cases hi
end RL
/-! RL9: single equations, for frames that stand there; so that what comes behind waits. -/
namespace RL
open PySem L2 DL PyProof.Rows PySem.W
section
variable {c : Cs} {ms : List Bool} {x : Option Slot} {r : DL.Env} {i j : Nat} {a b d e w : CE} {k : Bool} {dd : D} {ds : List D} {vs : List Nat} {tg : Tgt}
theorem e_cst : evE c ms (.cst dd) (x :: r) = some (.val dd, x :: r) := by simp only [evE]
theorem e_varV (h : (x :: r)[i]? = some (some (.v k dd))) : evE c ms (.var i) (x :: r) = some (.v k dd, x :: r) := by simp only [evE, h]
theorem e_varO (h : (x :: r)[i]? = some (some (.own ds))) (hm : frB ms i = true) : evE c ms (.var i) (x :: r) = some (.val (.lst ds), (x :: r).set i (some (.val (.lst ds)))) := by simp only [evE, h, chk_pos hm]
def varE (ms : List Bool) (i : Nat) (ρ : DL.Env) : Option Slot → Option (Slot × DL.Env)
  | some (.v k d) => some (.v k d, ρ)
  | some (.own ds) => if frB ms i = true then some (.val (.lst ds), ρ.set i (some (.val (.lst ds)))) else none
  | none => none
theorem e_var : evE c ms (.var i) (x :: r) = ((x :: r)[i]?).bind (varE ms i (x :: r)) := by
  simp only [evE]
  cases (x :: r)[i]? with
  | none => rfl
  | some o =>
    cases o with
    | none => rfl
    | some s =>
      cases s with
      | v k d => rfl
      | own ds =>
        show chk _ _ = _
        unfold chk
        show _ = if frB ms i = true then _ else none
        by_cases h : frB ms i = true
        · rw [if_pos h, if_pos h]
        · rw [if_neg h, if_neg h]
theorem e_bin {op : Operator} : evE c ms (.bin op a b) (x :: r) = (evE c ms a (x :: r)).bind fun p => (evE c ms b p.2).bind fun q => (binS op p.1 q.1).bind fun z => some (z, q.2) := by simp only [evE]
theorem e_neg : evE c ms (.neg a) (x :: r) = (evE c ms a (x :: r)).bind fun p => (intS p.1).bind fun i => some (.val (.int (-i)), p.2) := by simp only [evE]
theorem e_no : evE c ms (.no a) (x :: r) = (evE c ms a (x :: r)).bind fun p => (blS p.1).bind fun k => some (.val (.bl (!k)), p.2) := by simp only [evE]
theorem e_one : evE c ms (.one a) (x :: r) = evE c ms a (x :: r) := by simp only [evE]
theorem e_conj : evE c ms (.conj a b) (x :: r) = (evE c ms a (x :: r)).bind fun p => (blS p.1).bind fun k => if k then evE c ms b p.2 else some (.val (.bl false), p.2) := by simp only [evE]
theorem e_disj : evE c ms (.disj a b) (x :: r) = (evE c ms a (x :: r)).bind fun p => (blS p.1).bind fun k => if k then some (.val (.bl true), p.2) else evE c ms b p.2 := by simp only [evE]
theorem e_cmp {op : CmpOp} : evE c ms (.cmp op a b) (x :: r) = (evE c ms a (x :: r)).bind fun p => (evE c ms b p.2).bind fun q => (cmpS op p.1 q.1).bind fun z => some (.val (.bl z), q.2) := by simp only [evE]
theorem e_ite : evE c ms (.ite d a b) (x :: r) = (evT c ms d (x :: r)).bind fun p => if p.1 then evE c ms a p.2 else evE c ms b p.2 := by simp only [evE]
def isVar : CE → Bool
  | .var _ => true
  | _ => false
theorem own_no (h : isVar a = false) {ρ : DL.Env} : ownVar a ρ = none := by
  cases a <;> first | rfl | (cases h; done)
def ownB (ρ : DL.Env) (i : Nat) : Bool := (getO ρ i).isSome
theorem own_yes {ρ : DL.Env} (h : ownB ρ i = true) : ownVar (.var i) ρ = some i := by
  unfold ownB getO at h
  unfold ownVar
  dsimp only
  split at h
  · rfl
  · cases h
theorem own_not {ρ : DL.Env} (h : ownB ρ i = false) : ownVar (.var i) ρ = none := by
  unfold ownB getO at h
  unfold ownVar
  dsimp only
  split at h
  · cases h
  · rename_i hd
    cases he : ρ[i]? with
    | none => rfl
    | some o =>
      cases o with
      | none => rfl
      | some s =>
        cases s with
        | v k d => rfl
        | own ds => exact (hd ds he).elim
theorem e_idxO (h : ownB (x :: r) i = true) : evE c ms (.idx (.var i) b) (x :: r) = (evE c ms b (x :: r)).bind fun q => (intS q.1).bind fun j => (getO q.2 i).bind fun ds => (atI ds j).bind fun d => some (.val d, q.2) := by simp only [evE, own_yes h]
theorem e_idxV (h : ownB (x :: r) i = false) : evE c ms (.idx (.var i) b) (x :: r) = (evE c ms (.var i) (x :: r)).bind fun p => (evE c ms b p.2).bind fun q => (intS q.1).bind fun j => (idxS (fixS p.1) j).bind fun z => some (z, q.2) := by rw [evE.eq_def]; simp only [own_not h]
theorem e_idx (h : isVar a = false) : evE c ms (.idx a b) (x :: r) = (evE c ms a (x :: r)).bind fun p => (evE c ms b p.2).bind fun q => (intS q.1).bind fun j => (idxS (fixS p.1) j).bind fun z => some (z, q.2) := by rw [evE.eq_def]; simp only [own_no h]
theorem e_sl {lo hi : CE} : evE c ms (.sl a lo hi) (x :: r) = (evE c ms a (x :: r)).bind fun p => (evO c ms lo p.2).bind fun l => (evO c ms hi l.2).bind fun h => (slS p.1 l.1 h.1).bind fun z => some (z, h.2) := by simp only [evE]
theorem e_dk0 : evE c ms .dk0 (x :: r) = some (.val (.dk [] []), x :: r) := by simp only [evE]
theorem e_lst : evE c ms (.lst a) (x :: r) = (evA c ms a (x :: r)).bind fun p => chk (p.1.length ≤ sizeLine) (some (.own p.1, p.2)) := by simp only [evE]
theorem e_tup : evE c ms (.tup a) (x :: r) = (evA c ms a (x :: r)).bind fun p => chk (p.1.length ≤ sizeLine) (some (.val (.tup p.1), p.2)) := by simp only [evE]
theorem e_lenO (h : ownB (x :: r) i = true) : evE c ms (.fn .len (.var i)) (x :: r) = (getO (x :: r) i).bind fun ds => some (.val (.int (ds.length : Nat)), x :: r) := by rw [evE.eq_def]; simp only [own_yes h]
theorem e_fnV {f : Bf} (h : ownB (x :: r) i = false) : evE c ms (.fn f (.var i)) (x :: r) = (evE c ms (.var i) (x :: r)).bind fun p => (fnS f p.1).bind fun z => some (z, p.2) := by
  rw [evE.eq_def]
  simp only [own_not h]
theorem e_fnL {f : Bf} (h : f ≠ .len) : evE c ms (.fn f a) (x :: r) = (evE c ms a (x :: r)).bind fun p => (fnS f p.1).bind fun z => some (z, p.2) := by
  rw [evE.eq_def]
  cases f <;> first | rfl | exact (h rfl).elim
theorem e_fn {f : Bf} (h : isVar a = false) : evE c ms (.fn f a) (x :: r) = (evE c ms a (x :: r)).bind fun p => (fnS f p.1).bind fun z => some (z, p.2) := by
  rw [evE.eq_def]
  simp only [own_no h]
theorem e_isi {Ts : List String} : evE c ms (.isi a Ts) (x :: r) = (evE c ms a (x :: r)).bind fun p => chk (plainD (datS p.1) = true) (some (.val (.bl (isiL (datS p.1) Ts)), p.2)) := by simp only [evE]
theorem e_call {f : Nat} : evE c ms (.call f a) (x :: r) = (evS c ms a (x :: r)).bind fun q => callS c f q := by simp only [evE]
theorem e_app : evE c ms (.app i a) (x :: r) = (getO (x :: r) i).bind fun _ => (evE c ms a (x :: r)).bind fun p => (toV p.1).bind fun d => (getO p.2 i).bind fun ds => chk (ds.length < sizeLine) (some (.val .non, p.2.set i (some (.own (ds ++ [d]))))) := by simp only [evE]
noncomputable def extS (ρ : DL.Env) (i : Nat) (ds : List D) : D → Option (Slot × DL.Env)
  | .lst es => chk (ds.length + es.length ≤ sizeLine) (some (.val .non, ρ.set i (some (.own (ds ++ es)))))
  | _ => none
theorem e_ext : evE c ms (.ext i a) (x :: r) = (getO (x :: r) i).bind fun _ => (evE c ms a (x :: r)).bind fun p => (toV p.1).bind fun d => (getO p.2 i).bind fun ds => extS p.2 i ds d := by
  rw [evE.eq_def]; dsimp only
  congr 1
theorem e_ins : evE c ms (.ins i a b) (x :: r) = (getO (x :: r) i).bind fun _ => (evE c ms a (x :: r)).bind fun p => (intS p.1).bind fun j => (evE c ms b p.2).bind fun q => (toV q.1).bind fun d => (getO q.2 i).bind fun ds => chk (0 ≤ j ∧ j ≤ ds.length ∧ ds.length < sizeLine) (some (.val .non, q.2.set i (some (.own (ds.take j.toNat ++ d :: ds.drop j.toNat))))) := by simp only [evE]
theorem e_pop : evE c ms (.pop i a) (x :: r) = (getO (x :: r) i).bind fun _ => (evE c ms a (x :: r)).bind fun p => (intS p.1).bind fun j => (getO p.2 i).bind fun ds => chk (0 ≤ j ∧ j < 9223372036854775808) ((ds[j.toNat]?).bind fun d => some (.val d, p.2.set i (some (.own (ds.eraseIdx j.toNat))))) := by
  have e1 : (2 : Int) ^ 63 = 9223372036854775808 := by decide
  simp only [evE, e1]
theorem e_rev : evE c ms (.rev i) (x :: r) = (getO (x :: r) i).bind fun ds => some (.val .non, (x :: r).set i (some (.own ds.reverse))) := by simp only [evE]
theorem e_count : evE c ms (.count a b) (x :: r) = (evE c ms a (x :: r)).bind fun p => (evE c ms b p.2).bind fun q => (seqS p.1).bind fun w => chk (flatD (datS q.1) = true ∧ w.2.all flatD = true) (some (.val (.int (w.2.countP (fun y => eqF y (datS q.1)) : Nat)), q.2)) := by simp only [evE]
theorem e_join : evE c ms (.join a b) (x :: r) = (evE c ms a (x :: r)).bind fun p => (evE c ms b p.2).bind fun q => (strS p.1).bind fun t => (lstS q.1).bind fun ds => (strsOf ds).bind fun ss => chk ((ss.map (·.length)).sum + ss.length * t.length ≤ 16777216) (some (.val (.str (Txt.join t ss)), q.2)) := by simp only [evE]
theorem e_comp : evE c ms (.comp e w tg vs) (x :: r) = (evW c ms w (x :: r)).bind fun p => chk (p.1.m ≤ sizeLine ∧ vs.all (frB ms) = true) ((compL (compF c e tg vs p.1.it) 0 p.1.m p.2 []).bind fun z => some (.own z.1, z.2)) := by simp only [evE]; rfl
theorem e_compI {t : CE} : evE c ms (.compI e t w tg vs) (x :: r) = (evW c ms w (x :: r)).bind fun p => chk (p.1.m ≤ sizeLine ∧ vs.all (frB ms) = true) ((compL (compIF c e t tg vs p.1.it) 0 p.1.m p.2 []).bind fun z => some (.own z.1, z.2)) := by simp only [evE]; rfl
theorem t_no : evT c ms (.no a) (x :: r) = (evT c ms a (x :: r)).bind fun p => some (!p.1, p.2) := by simp only [evT]
theorem t_one : evT c ms (.one a) (x :: r) = evT c ms a (x :: r) := by simp only [evT]
theorem t_conj : evT c ms (.conj a b) (x :: r) = (evT c ms a (x :: r)).bind fun p => if p.1 then evT c ms b p.2 else some (false, p.2) := by simp only [evT]
theorem t_disj : evT c ms (.disj a b) (x :: r) = (evT c ms a (x :: r)).bind fun p => if p.1 then some (true, p.2) else evT c ms b p.2 := by simp only [evT]
theorem t_cmp {op : CmpOp} : evT c ms (.cmp op a b) (x :: r) = (evE c ms a (x :: r)).bind fun p => (evE c ms b p.2).bind fun q => (cmpS op p.1 q.1).bind fun z => some (z, q.2) := by simp only [evT]
theorem t_chain {o1 o2 : CmpOp} : evT c ms (.chain o1 o2 a b d) (x :: r) = (evE c ms a (x :: r)).bind fun p => (evE c ms b p.2).bind fun q => (cmpD o1 (datS p.1) (datS q.1)).bind fun z => if z then (evE c ms d q.2).bind fun w => chk (w.2 = q.2) ((cmpD o2 (datS q.1) (datS w.1)).bind fun y => some (y, q.2)) else some (false, q.2) := by simp only [evT]
/-- a place's truth; whether it is not the empty list -/
def truO : Option Slot → Option Bool
  | some (.v _ (.bl b)) => some b
  | some (.v _ (.lst ds)) => some (!ds.isEmpty)
  | some (.own ds) => some (!ds.isEmpty)
  | _ => none
noncomputable def nemO : Option Slot → Option Bool
  | some (.own ds) => some (!ds.isEmpty)
  | some (.v _ d) => (eqX d (.lst [])).map (!·)
  | _ => none
theorem t_var : evT c ms (.var i) (x :: r) = (((x :: r)[i]?).bind truO).map fun b => (b, x :: r) := by
  simp only [evT]
  generalize (x :: r)[i]? = o
  match o with
  | some (some (.v _ (.bl b))) => rfl
  | some (some (.v _ (.lst ds))) => rfl
  | some (some (.own ds)) => rfl
  | some none => rfl
  | none => rfl
  | some (some (.v _ .non)) => rfl
  | some (some (.v _ (.int _))) => rfl
  | some (some (.v _ (.str _))) => rfl
  | some (some (.v _ (.ty _))) => rfl
  | some (some (.v _ (.tup _))) => rfl
  | some (some (.v _ (.dk _ _))) => rfl
  | some (some (.v _ (.ins _ _ _))) => rfl
theorem e_nem : evE c ms (.nem i) (x :: r) = (((x :: r)[i]?).bind nemO).map fun b => (.val (.bl b), x :: r) := by
  simp only [evE]
  generalize (x :: r)[i]? = o
  match o with
  | some (some (.own ds)) => rfl
  | some none => rfl
  | none => rfl
  | some (some (.v _ d)) =>
    show (eqX d (.lst [])).bind _ = (((some (some _)).bind nemO).map _)
    show _ = ((eqX d (.lst [])).map (!·)).map _
    cases eqX d (.lst []) <;> rfl
theorem t_nem : evT c ms (.nem i) (x :: r) = (((x :: r)[i]?).bind nemO).map fun b => (b, x :: r) := by
  simp only [evT]
  generalize (x :: r)[i]? = o
  match o with
  | some (some (.own ds)) => rfl
  | some none => rfl
  | none => rfl
  | some (some (.v _ d)) =>
    show (eqX d (.lst [])).bind _ = (((some (some _)).bind nemO).map _)
    show _ = ((eqX d (.lst [])).map (!·)).map _
    cases eqX d (.lst []) <;> rfl
theorem qv_truB {b : Bool} : truO (some (.v k (.bl b))) = some b := id rfl
theorem qv_truL {ds : List D} : truO (some (.v k (.lst ds))) = some (!ds.isEmpty) := id rfl
theorem qv_truO {ds : List D} : truO (some (.own ds)) = some (!ds.isEmpty) := id rfl
theorem qv_nemO {ds : List D} : nemO (some (.own ds)) = some (!ds.isEmpty) := id rfl
theorem qv_nemV {d : D} : nemO (some (.v k d)) = (eqX d (.lst [])).map (!·) := id rfl
theorem t_varL {ds : List D} (h : (x :: r)[i]? = some (some (.v k (.lst ds)))) : evT c ms (.var i) (x :: r) = some (!ds.isEmpty, x :: r) := by simp only [evT, h]
theorem t_varO {ds : List D} (h : (x :: r)[i]? = some (some (.own ds))) : evT c ms (.var i) (x :: r) = some (!ds.isEmpty, x :: r) := by simp only [evT, h]
theorem t_varB {bb : Bool} (h : (x :: r)[i]? = some (some (.v k (.bl bb)))) : evT c ms (.var i) (x :: r) = some (bb, x :: r) := by simp only [evT, h]
theorem t_fn {f : Bf} : evT c ms (.fn f a) (x :: r) = (evE c ms a (x :: r)).bind fun p => (fnS f p.1).bind fun z => (blS z).bind fun b => some (b, p.2) := by simp only [evT]
theorem t_isi {Ts : List String} : evT c ms (.isi a Ts) (x :: r) = (evE c ms a (x :: r)).bind fun p => chk (plainD (datS p.1) = true) (some (isiL (datS p.1) Ts, p.2)) := by simp only [evT]
theorem t_call {f : Nat} : evT c ms (.call f a) (x :: r) = (evS c ms a (x :: r)).bind fun q => (callS c f q).bind fun p => (blS p.1).bind fun b => some (b, p.2) := by simp only [evT]
theorem o_nil : evO c ms .nil (x :: r) = some (none, x :: r) := by simp only [evO]
theorem o_one : evO c ms (.one a) (x :: r) = (evE c ms a (x :: r)).bind fun p => (intS p.1).bind fun i => some (some i, p.2) := by simp only [evO]
theorem a_nil : evA c ms .nil (x :: r) = some ([], x :: r) := by simp only [evA]
theorem a_cons : evA c ms (.cons a b) (x :: r) = (evE c ms a (x :: r)).bind fun p => (toV p.1).bind fun d => (evA c ms b p.2).bind fun q => some (d :: q.1, q.2) := by simp only [evA]
theorem a_star : evA c ms (.star a b) (x :: r) = (evE c ms a (x :: r)).bind fun p => (itemsS p.1).bind fun ds => (evA c ms b p.2).bind fun q => some (ds ++ q.1, q.2) := by simp only [evA]
theorem s_nil : evS c ms .nil (x :: r) = some ([], x :: r) := by simp only [evS]
theorem s_own (h : ownB (x :: r) i = true) : evS c ms (.cons (.var i) b) (x :: r) = (evS c ms b (x :: r)).bind fun q => some (.var i :: q.1, q.2) := by simp only [evS, own_yes h]
theorem s_var (h : ownB (x :: r) i = false) : evS c ms (.cons (.var i) b) (x :: r) = (evE c ms (.var i) (x :: r)).bind fun p => (evS c ms b p.2).bind fun q => some (argOf p.1 :: q.1, q.2) := by rw [evS.eq_def]; simp only [own_not h]
theorem s_cons (h : isVar a = false) : evS c ms (.cons a b) (x :: r) = (evE c ms a (x :: r)).bind fun p => (evS c ms b p.2).bind fun q => some (argOf p.1 :: q.1, q.2) := by rw [evS.eq_def]; simp only [own_no h]
theorem w_range : evW c ms (.wrange a) (x :: r) = (evE c ms a (x :: r)).bind fun p => (intS p.1).bind fun h => chk (-4611686018427387904 ≤ h ∧ h < 4611686018427387904) (some (⟨h.toNat, fun t => .one (.val (.int (t : Int)))⟩, p.2)) := by
  have e1 : (2 : Int) ^ 62 = 4611686018427387904 := by decide
  simp only [evW, e1]
theorem w_range2 : evW c ms (.wrange2 a b) (x :: r) = (evE c ms a (x :: r)).bind fun p => (evE c ms b p.2).bind fun q => (intS p.1).bind fun l => (intS q.1).bind fun h => chk (-4611686018427387904 ≤ l ∧ l < 4611686018427387904 ∧ -4611686018427387904 ≤ h ∧ h < 4611686018427387904) (some (⟨(h - l).toNat, fun t => .one (.val (.int (l + (t : Int))))⟩, q.2)) := by
  have e1 : (2 : Int) ^ 62 = 4611686018427387904 := by decide
  simp only [evW, e1]
theorem w_zip : evW c ms (.wzip a b) (x :: r) = (evE c ms a (x :: r)).bind fun p => (evE c ms b p.2).bind fun q => (seqS p.1).bind fun x => (seqS q.1).bind fun y => some (⟨min x.2.length y.2.length, fun t => .two true (x.2.getD t .non) true (y.2.getD t .non)⟩, q.2) := by simp only [evW]
theorem w_enum : evW c ms (.wenum a) (x :: r) = (evE c ms a (x :: r)).bind fun p => (seqS p.1).bind fun x => some (⟨x.2.length, fun t => .two true (.int (t : Int)) true (x.2.getD t .non)⟩, p.2) := by simp only [evW]
theorem w_one : evW c ms (.one a) (x :: r) = (evE c ms a (x :: r)).bind fun p => (wkS p.1).bind fun w => some (w, p.2) := by simp only [evW]
theorem m_own (h : ownB (x :: r) i = true) (hm : frB ms i = true) : evM c ms (.var i) (x :: r) = (getO (x :: r) i).bind fun ds => some (.own ds, (x :: r).set i none) := by
  unfold evM; simp only [own_yes h, chk_pos hm]
theorem m_var (h : ownB (x :: r) i = false) : evM c ms (.var i) (x :: r) = evE c ms (.var i) (x :: r) := by
  unfold evM; simp only [own_not h]
theorem m_any (h : isVar a = false) : evM c ms a (x :: r) = evE c ms a (x :: r) := by
  unfold evM; simp only [own_no h]
/-! statements -/
variable {s t s1 s2 : CS}
def seqO (f : DL.Env → Option Out) : Out → Option Out
  | .nx ρ' => f ρ'
  | .ct ρ' => some (.ct ρ')
  | .bk ρ' => some (.bk ρ')
  | .ret v ρ' => some (.ret v ρ')
theorem b_nil : evB c ms .nil (x :: r) = some (.nx (x :: r)) := by simp only [evB]
theorem b_seq : evB c ms (.seq s t) (x :: r) = (evB c ms s (x :: r)).bind (seqO (evB c ms t)) := by
  simp only [evB]; congr 1
theorem b_seq_any {ρ : DL.Env} : evB c ms (.seq s t) ρ = (evB c ms s ρ).bind (seqO (evB c ms t)) := by
  simp only [evB]; congr 1
theorem b_set {fx : Bool} : evB c ms (.set fx i e) (x :: r) = (evM c ms e (x :: r)).bind fun p => chk (frB ms i = true) (some (.nx (p.2.set i (some (if fx then fixS p.1 else p.1))))) := by simp only [evB]
theorem b_setIx : evB c ms (.setIx i b e) (x :: r) = (evE c ms e (x :: r)).bind fun p => (toV p.1).bind fun d => (evE c ms b p.2).bind fun q => chk (q.2 = p.2) ((intS q.1).bind fun jj => (getO p.2 i).bind fun ds => (ixN ds.length jj).bind fun k => some (.nx (p.2.set i (some (.own (ds.set k d)))))) := by simp only [evB]
theorem b_set2 : evB c ms (.set2 i j a b) (x :: r) = (evE c ms a (x :: r)).bind fun p => (evE c ms b p.2).bind fun q => chk (frB ms i = true ∧ frB ms j = true) (some (.nx ((q.2.set i (some (fixS p.1))).set j (some (fixS q.1))))) := by simp only [evB]
theorem b_aug : evB c ms (.aug i e) (x :: r) = (intAt (x :: r) i).bind fun a => (evE c ms e (x :: r)).bind fun p => (intS p.1).bind fun b => chk (frB ms i = true) (some (.nx (p.2.set i (some (.val (.int (a + b))))))) := by simp only [evB]
theorem b_setTp {ix : List Nat} : evB c ms (.setTp ix e) (x :: r) = (evE c ms e (x :: r)).bind fun p => (tupS p.1).bind fun ds => chk (ix.all (frB ms) = true ∧ ix.length = ds.length) (some (.nx (setE p.2 ix true ds))) := by simp only [evB]
theorem b_set2o {z : Int} : evB c ms (.set2o i j a z) (x :: r) = (evE c ms a (x :: r)).bind fun p => chk (frB ms i = true ∧ frB ms j = true) (some (.nx ((p.2.set i (some p.1)).set j (some (.val (.int z)))))) := by simp only [evB]
theorem b_swp {b1 b2 : CE} : evB c ms (.swp i b1 b2 e) (x :: r) = (evE c ms e (x :: r)).bind fun p => (tup2S p.1).bind fun d => (evE c ms b1 p.2).bind fun q => chk (q.2 = p.2) ((intS q.1).bind fun j1 => (getO p.2 i).bind fun ds => (ixN ds.length j1).bind fun k1 =>
      (evE c ms b2 (p.2.set i (some (.own (ds.set k1 d.1))))).bind fun w => chk (w.2 = p.2.set i (some (.own (ds.set k1 d.1)))) ((intS w.1).bind fun j2 => (ixN ds.length j2).bind fun k2 => some (.nx (p.2.set i (some (.own ((ds.set k1 d.1).set k2 d.2))))))) := by simp only [evB]
theorem b_expr : evB c ms (.expr e) (x :: r) = (evE c ms e (x :: r)).bind fun p => some (.nx p.2) := by simp only [evB]
theorem b_ret : evB c ms (.ret e) (x :: r) = (evM c ms e (x :: r)).bind fun p => some (.ret (nvS p.1) p.2) := by simp only [evB]
theorem b_retN : evB c ms .retN (x :: r) = some (.ret (.val .non) (x :: r)) := by simp only [evB]
theorem b_ife : evB c ms (.ife e s1 s2) (x :: r) = (evT c ms e (x :: r)).bind fun p => if p.1 then evB c ms s1 p.2 else evB c ms s2 p.2 := by simp only [evB]
noncomputable def forF (c : Cs) (ms : List Bool) (tg : Tgt) (it : Nat → Yld) (b : CS) (t : Nat) (ρ' : DL.Env) : Option Out := (bindY tg (it t)).bind fun g => evB c ms b (g ρ')
theorem b_for : evB c ms (.for tg w s) (x :: r) = (evW c ms w (x :: r)).bind fun p => chk (tg.ix.all (frB ms) = true) (forL (forF c ms tg p.1.it s) 0 p.1.m p.2) := by simp only [evB]; rfl
theorem b_pass : evB c ms .pass (x :: r) = some (.nx (x :: r)) := by simp only [evB]
theorem b_brk : evB c ms .brk (x :: r) = some (.bk (x :: r)) := by simp only [evB]
theorem b_cont : evB c ms .cont (x :: r) = some (.ct (x :: r)) := by simp only [evB]
end
end RL
/-! RL10: single equations for values. -/
namespace RL
open PySem L2 DL PyProof.Rows PySem.W
section
variable {k k1 k2 b b2 : Bool} {i j : Int} {s t : Str} {d d2 : D} {ds es : List D} {ρ r : DL.Env} {x : Option Slot} {n m : Nat} {f : DL.Env → Option Out} {ms : List Bool} {sl : Slot}
theorem qv_int : intS (.v k (.int i)) = some i := rfl
theorem qv_bl : blS (.v k (.bl b)) = some b := rfl
theorem qv_str : strS (.v k (.str s)) = some s := rfl
theorem qv_toT : toV (.v true d) = some d := by simp [toV]
theorem qv_toO : toV (.own ds) = some (.lst ds) := rfl
theorem qv_toI : toV (.v k (.int i)) = some (.int i) := by simp [toV, isSc]
theorem qv_toS : toV (.v k (.str s)) = some (.str s) := by simp [toV, isSc]
theorem qv_toB : toV (.v k (.bl b)) = some (.bl b) := by simp [toV, isSc]
theorem qv_toN : toV (.v k .non) = some .non := by simp [toV, isSc]
theorem qv_fixV : fixS (.v k d) = .v k d := rfl
theorem qv_fixO : fixS (.own ds) = .val (.lst ds) := rfl
theorem qv_datV : datS (.v k d) = d := rfl
theorem qv_datO : datS (.own ds) = .lst ds := rfl
theorem qv_add (a c : Slot) : binS .Add a c = addS (fixS a) (fixS c) := rfl
theorem qv_addI : addS (.v k1 (.int i)) (.v k2 (.int j)) = some (.val (.int (i + j))) := rfl
theorem qv_addS : addS (.v k1 (.str s)) (.v k2 (.str t)) = chk (s.length + t.length ≤ sizeLine) (some (.val (.str (s ++ t)))) := rfl
theorem qv_addL : addS (.v k1 (.lst ds)) (.v k2 (.lst es)) = chk (ds.length + es.length ≤ sizeLine) (some (.own (ds ++ es))) := rfl
theorem qv_sub : binS .Sub (.v k1 (.int i)) (.v k2 (.int j)) = some (.val (.int (i - j))) := rfl
theorem qv_mul : binS .Mult (.v k1 (.int i)) (.v k2 (.int j)) = chk (CMlW i j) (some (.val (.int (i * j)))) := rfl
theorem qv_fdiv : binS .FloorDiv (.v k1 (.int i)) (.v k2 (.int j)) = Option.or (chk (CDiv i j) (some (.val (.int (i / j))))) (chk (CDvW i j) (some (.val (.int (i.fdiv j))))) := rfl
theorem qv_rep {n : Int} : binS .Mult (.own ds) (.v k2 (.int n)) = chk (-(2 ^ 63) ≤ n ∧ n < 2 ^ 63 ∧ ds.length * n.toNat ≤ sizeLine) (some (.own (List.replicate n.toNat ds).flatten)) := rfl
theorem qv_mod : binS .Mod (.v k1 (.int i)) (.v k2 (.int j)) = chk (0 < j) (some (.val (.int (i % j)))) := rfl
theorem qv_pow : binS .Pow (.v k1 (.int i)) (.v k2 (.int j)) = chk (CPow i j) (some (.val (.int (i ^ j.toNat)))) := rfl
theorem qv_in (a c : Slot) : cmpS .In a c = inS (fixS a) (fixS c) := rfl
theorem qv_nin (a c : Slot) : cmpS .NotIn a c = (inS (fixS a) (fixS c)).map (!·) := rfl
theorem qv_is (a : Slot) : cmpS .Is a (.v k .non) = some (isNon (datS a)) := rfl
theorem qv_isnt (a : Slot) : cmpS .IsNot a (.v k .non) = some (!isNon (datS a)) := rfl
theorem qv_eq (a c : Slot) : cmpS .Eq a c = eqX (datS a) (datS c) := rfl
theorem qv_ne (a c : Slot) : cmpS .NotEq a c = (eqX (datS a) (datS c)).map (!·) := rfl
theorem qv_eqI : eqX (.int i) (.int j) = some (decide (i = j)) := rfl
theorem qv_eqS : eqX (.str s) (.str t) = some (decide (s = t)) := rfl
theorem qv_eqB : eqX (.bl b) (.bl b2) = some (decide (b = b2)) := rfl
theorem qv_lt : cmpS .Lt (.v k1 (.int i)) (.v k2 (.int j)) = some (decide (i < j)) := rfl
theorem qv_le : cmpS .LtE (.v k1 (.int i)) (.v k2 (.int j)) = some (decide (i ≤ j)) := rfl
theorem qv_gt : cmpS .Gt (.v k1 (.int i)) (.v k2 (.int j)) = some (decide (j < i)) := rfl
theorem qv_ge : cmpS .GtE (.v k1 (.int i)) (.v k2 (.int j)) = some (decide (j ≤ i)) := rfl
theorem qv_dle : cmpD .LtE (.int i) (.int j) = some (decide (i ≤ j)) := rfl
theorem qv_inS : inS (.v k1 (.str s)) (.v k2 (.str t)) = chk (s.cps.size = 1) (some (decide (s.cps.getD 0 0 ∈ t.cps.toList))) := rfl
theorem qv_inL (h : flatD d = true ∧ ds.all flatD = true) : inS (.v k1 d) (.v k2 (.lst ds)) = some (inD d ds) := by
  cases d <;> simp only [inS, chk_pos h]
theorem qv_inT (h : flatD d = true ∧ ds.all flatD = true) : inS (.v k1 d) (.v k2 (.tup ds)) = some (inD d ds) := by
  cases d <;> simp only [inS, chk_pos h]
theorem qv_ixL : idxS (.v k (.lst ds)) j = (atI ds j).map .val := rfl
theorem qv_ixT : idxS (.v k (.tup ds)) j = (atI ds j).map .val := rfl
theorem qv_ixS : idxS (.v k (.str s)) j = (atI s.cps.toList j).bind fun c => chk (s.length ≤ sizeLine) (some (.val (.str ⟨#[c]⟩))) := rfl
theorem qv_lenL : lenS (.v k (.lst ds)) = some ds.length := rfl
theorem qv_lenT : lenS (.v k (.tup ds)) = some ds.length := rfl
theorem qv_lenO : lenS (.own ds) = some ds.length := rfl
theorem qv_lenS : lenS (.v k (.str s)) = chk (s.length ≤ sizeLine) (some s.length) := rfl
theorem qv_itO : itemsS (.own ds) = some ds := rfl
theorem qv_itL : itemsS (.v k (.lst ds)) = some ds := rfl
theorem qv_itT : itemsS (.v k (.tup ds)) = some ds := rfl
theorem qv_itL' (h : ds.all isSc = true) : itemsS (.v k (.lst ds)) = some ds := by simp [itemsS, chk, h]
theorem qv_itT' (h : ds.all isSc = true) : itemsS (.v k (.tup ds)) = some ds := by simp [itemsS, chk, h]
theorem qv_sqO : seqS (.own ds) = some (true, ds) := rfl
theorem qv_sqL : seqS (.v k (.lst ds)) = some (k, ds) := rfl
theorem qv_sqT : seqS (.v k (.tup ds)) = some (k, ds) := rfl
theorem qv_lsO : lstS (.own ds) = some ds := rfl
theorem qv_lsV : lstS (.v k (.lst ds)) = some ds := rfl
theorem qv_lkO : lstK (.own ds) = some ds := rfl
theorem qv_lkT : lstK (.v k (.lst ds)) = some ds := rfl
theorem qv_lkS (h : ds.all isSc = true) : lstK (.v k (.lst ds)) = some ds := by simp [lstK, chk, h]
theorem qv_len (a : Slot) : fnS .len a = (lenS a).bind fun n => some (.val (.int (n : Nat))) := rfl
theorem qv_intf (a : Slot) : fnS .int a = (intS a).bind fun i => some (.val (.int i)) := rfl
theorem qv_strf (a : Slot) : fnS .str a = (intS a).bind fun i => chk (i.natAbs.log2 < 1920) (some (.val (.str (Str.ofString (toString i))))) := rfl
theorem qv_list (a : Slot) : fnS .list a = (itemsS a).bind fun ds => some (.own ds) := rfl
theorem qv_tupleT : fnS .tuple (.v k (.tup ds)) = some (.v k (.tup ds)) := rfl
theorem qv_tupleL : fnS .tuple (.v k (.lst ds)) = (lstK (.v k (.lst ds))).bind fun ds => some (.val (.tup ds)) := rfl
theorem qv_tupleO : fnS .tuple (.own ds) = some (.val (.tup ds)) := rfl
theorem qv_sum (a : Slot) : fnS .sum a = (seqS a).bind fun q => (intsOf q.2).bind fun ns => some (.val (.int ns.sum)) := rfl
theorem qv_all (a : Slot) : fnS .all a = (lstS a).bind fun ds => (blsOf ds).bind fun bs => some (.val (.bl (bs.all id))) := rfl
theorem qv_any (a : Slot) : fnS .any a = (lstS a).bind fun ds => (blsOf ds).bind fun bs => some (.val (.bl (bs.any id))) := rfl
theorem qv_sorted (a : Slot) : fnS .sorted a = (lstK a).bind fun ds => chk (ds.all dataD = true ∧ AllAlike (ds.map pyD) ∧ Sortable (ds.map pyD) ∧ ∀ d ∈ ds, (pyD d).depth ≤ 60) (some (.own (ds.mergeSort leD))) := rfl
theorem qv_lenSet (a : Slot) : fnS .lenSet a = (seqS a).bind fun q => (keysOf q.2).bind fun ks => chk (ks.length + 1 < scanBound) (some (.val (.int ((metK ks).length : Nat)))) := rfl
theorem qv_slS {l h : Option Int} : slS (.v k (.str s)) l h = chk (s.length ≤ sizeLine) (some (.val (.str (cutS s l h)))) := rfl
theorem qv_slL {l h : Option Int} : slS (.v k (.lst ds)) l h = (lstK (.v k (.lst ds))).bind fun ds => some (.own (cutD ds l h)) := rfl
theorem qv_slO {l h : Option Int} : slS (.own ds) l h = some (.own (cutD ds l h)) := rfl
theorem qv_wkO : wkS (.own ds) = some ⟨ds.length, fun t => .one (.v true (ds.getD t .non))⟩ := rfl
theorem qv_wkL : wkS (.v k (.lst ds)) = some ⟨ds.length, fun t => .one (.val (ds.getD t .non))⟩ := rfl
theorem qv_wkT : wkS (.v k (.tup ds)) = some ⟨ds.length, fun t => .one (.val (ds.getD t .non))⟩ := rfl
theorem qv_wkS : wkS (.v k (.str s)) = some ⟨s.cps.size, fun t => .one (.val (.str ⟨#[s.cps.getD t 0]⟩))⟩ := rfl
theorem qv_iat0 : intAt (some (.v k (.int i)) :: r) 0 = some i := rfl
theorem qv_iatS : intAt (x :: r) (n + 1) = intAt r n := rfl
theorem qv_tupS : tupS (.v k (.tup ds)) = some ds := rfl
theorem qv_tup2 {d1 d2 : D} : tup2S (.v k (.tup [d1, d2])) = some (d1, d2) := rfl
theorem qv_se0 {ρ : DL.Env} {k : Bool} : setE ρ [] k [] = ρ := rfl
theorem qv_seS {ρ : DL.Env} {k : Bool} {is : List Nat} : setE ρ (n :: is) k (d :: ds) = setE (ρ.set n (some (.v k d))) is k ds := rfl
theorem qv_getO0 : getO (some (.own ds) :: r) 0 = some ds := rfl
theorem qv_getOS : getO (x :: r) (n + 1) = getO r n := rfl
theorem qv_varV : varE ms n ρ (some (.v k d)) = some (.v k d, ρ) := rfl
theorem qv_varO (h : frB ms n = true) : varE ms n ρ (some (.own ds)) = some (.val (.lst ds), ρ.set n (some (.val (.lst ds)))) := by
  show (if frB ms n = true then _ else none) = _
  rw [if_pos h]
theorem qv_nvT : nvS (.v true d) = .v true d := rfl
theorem qv_nvI : nvS (.v k (.int i)) = .v true (.int i) := by show Slot.v (k || true) _ = _; rw [Bool.or_true]
theorem qv_nvS : nvS (.v k (.str s)) = .v true (.str s) := by show Slot.v (k || true) _ = _; rw [Bool.or_true]
theorem qv_nvB : nvS (.v k (.bl b)) = .v true (.bl b) := by show Slot.v (k || true) _ = _; rw [Bool.or_true]
theorem qv_nvN : nvS (.v k .non) = .v true .non := by show Slot.v (k || true) _ = _; rw [Bool.or_true]
theorem qv_nvO : nvS (.own ds) = .own ds := rfl
theorem qv_argV : argOf (.v k d) = .ex k d := rfl
theorem qv_argO : argOf (.own ds) = .ex true (.lst ds) := rfl
theorem qv_nx : seqO f (.nx ρ) = f ρ := rfl
theorem qv_ct : seqO f (.ct ρ) = some (.ct ρ) := rfl
theorem qv_bk : seqO f (.bk ρ) = some (.bk ρ) := rfl
theorem qv_ret : seqO f (.ret sl ρ) = some (.ret sl ρ) := rfl
theorem qv_atp (h0 : 0 ≤ j) (h : j < (ds.length : Int)) : atI ds j = ds[j.toNat]? := by
  unfold atI ixN
  rw [if_pos h0, if_pos h]; rfl
theorem qv_ixp (h0 : 0 ≤ j) (h : j < (n : Int)) : ixN n j = some j.toNat := by
  unfold ixN
  rw [if_pos h0, if_pos h]
theorem qv_isi1 {T : String} : isiL d [T] = isiD d T := rfl
theorem qv_isi2 {T T2 : String} : isiL d [T, T2] = (isiD d T || isiD d T2) := rfl
/-! calls -/
theorem qv_call {c : Cs} {f : Nat} {as : List ArgS} : callS c f (as, ρ) = (argsTo ρ (c.M f) as).bind fun args => chk ((varsOf as).Nodup) ((c.C f args).bind fun w => some (w.1, backE ρ as w.2)) := rfl
theorem qv_aNil : argsTo ρ [] [] = some [] := rfl
theorem qv_aCons {a : ArgS} {mm : List Bool} {as : List ArgS} : argsTo ρ (b :: mm) (a :: as) = (argTo ρ b a).bind fun s => (argsTo ρ mm as).bind fun r => some (s :: r) := rfl
theorem qv_aEx : argTo ρ false (.ex k d) = some (.v (k || isSc d) d) := rfl
theorem qv_aOwn : argTo ρ true (.var n) = (getO ρ n).map .own := by
  simp only [argTo, getO]
  cases ρ[n]? with
  | none => rfl
  | some o =>
    cases o with
    | none => rfl
    | some s => cases s <;> rfl
theorem qv_aBor : argTo ρ false (.var n) = (getO ρ n).map fun ds => .v false (.lst ds) := by
  simp only [argTo, getO]
  cases ρ[n]? with
  | none => rfl
  | some o =>
    cases o with
    | none => rfl
    | some s => cases s <;> rfl
theorem qv_backV {as : List ArgS} {outs : List Slot} {o : Slot} : backE ρ (.ex k d :: as) (o :: outs) = backE ρ as outs := rfl
theorem qv_backO {as : List ArgS} {outs : List Slot} : backE ρ (.var n :: as) (.own ds :: outs) = backE (ρ.set n (some (.own ds))) as outs := rfl
theorem qv_backB {as : List ArgS} {outs : List Slot} : backE ρ (.var n :: as) (.v k d :: outs) = backE ρ as outs := rfl
theorem qv_backN : backE ρ [] [] = ρ := rfl
end
end RL
namespace RL
open PySem L2 DL
section
variable {ρ r : DL.Env} {ds : List D} {k : Bool} {d : D} {x : Option Slot} {n : Nat} {b : Bool} {bs : List Bool}
theorem ob_o : ownB (some (.own ds) :: r) 0 = true := id rfl
theorem ob_v : ownB (some (.v k d) :: r) 0 = false := id rfl
theorem ob_n : ownB (none :: r) 0 = false := id rfl
theorem ob_s : ownB (x :: r) (n + 1) = ownB r n := id rfl
theorem fr_nil : frB [] n = true := by simp [frB]
theorem fr_0 : frB (b :: bs) 0 = !b := by simp [frB]
theorem fr_s : frB (b :: bs) (n + 1) = frB bs n := by simp [frB]
theorem nt_t : (!true) = false := id rfl
theorem nt_f : (!false) = true := id rfl
variable {a c e w : CE} {op op2 : Operator} {co c2 : CmpOp} {f : Bf} {Ts : List String} {i : Nat} {tg tg1 : Tgt} {vs vs1 : List Nat}
theorem iv_cst : isVar (.cst d) = false := id rfl
theorem iv_bin : isVar (.bin op a c) = false := id rfl
theorem iv_neg : isVar (.neg a) = false := id rfl
theorem iv_no : isVar (.no a) = false := id rfl
theorem iv_one : isVar (.one a) = false := id rfl
theorem iv_conj : isVar (.conj a c) = false := id rfl
theorem iv_disj : isVar (.disj a c) = false := id rfl
theorem iv_cmp : isVar (.cmp co a c) = false := id rfl
theorem iv_ite : isVar (.ite w a c) = false := id rfl
theorem iv_idx : isVar (.idx a c) = false := id rfl
theorem iv_sl : isVar (.sl a c w) = false := id rfl
theorem iv_lst : isVar (.lst a) = false := id rfl
theorem iv_tup : isVar (.tup a) = false := id rfl
theorem iv_fn : isVar (.fn f a) = false := id rfl
theorem iv_isi : isVar (.isi a Ts) = false := id rfl
theorem iv_call : isVar (.call i a) = false := id rfl
theorem iv_app : isVar (.app i a) = false := id rfl
theorem iv_ext : isVar (.ext i a) = false := id rfl
theorem iv_pop : isVar (.pop i a) = false := id rfl
theorem iv_rev : isVar (.rev i) = false := id rfl
theorem iv_count : isVar (.count a c) = false := id rfl
theorem iv_join : isVar (.join a c) = false := id rfl
theorem iv_comp : isVar (.comp a c tg vs) = false := id rfl
theorem iv_compI : isVar (.compI a e c tg vs) = false := id rfl
theorem iv_comp2 : isVar (.comp2 a e c tg tg1 vs vs1) = false := id rfl
theorem iv_dk0 : isVar .dk0 = false := id rfl
theorem bf_int : Bf.int ≠ .len := by decide
theorem bf_str : Bf.str ≠ .len := by decide
theorem bf_list : Bf.list ≠ .len := by decide
theorem bf_tuple : Bf.tuple ≠ .len := by decide
theorem bf_sum : Bf.sum ≠ .len := by decide
theorem bf_all : Bf.all ≠ .len := by decide
theorem bf_any : Bf.any ≠ .len := by decide
theorem bf_sorted : Bf.sorted ≠ .len := by decide
theorem bf_lenSet : Bf.lenSet ≠ .len := by decide
theorem qv_atN {j : Nat} : atI ds (j : Int) = ds[j]? := by
  by_cases h : j < ds.length
  · rw [List.getElem?_eq_getElem h]
    exact atI_nat (List.getElem?_eq_getElem h)
  · rw [List.getElem?_eq_none (by omega)]
    unfold atI ixN
    rw [if_pos (by omega), if_neg (by omega)]; rfl
theorem qv_atL {j : Nat} : atI ds (no_index (@OfNat.ofNat Int j instOfNat)) = ds[(OfNat.ofNat j : Nat)]? := by
  have : (@OfNat.ofNat Int j instOfNat) = ((j : Nat) : Int) := rfl
  rw [this]; exact qv_atN
theorem qv_ixLit {j m : Nat} : ixN m (no_index (@OfNat.ofNat Int j instOfNat)) = if (OfNat.ofNat j : Nat) < m then some (OfNat.ofNat j) else none := by
  have : (@OfNat.ofNat Int j instOfNat) = ((j : Nat) : Int) := rfl
  rw [this]
  show _ = if j < m then some j else none
  unfold ixN
  rw [if_pos (by omega)]
  by_cases h : j < m
  · rw [if_pos h, if_pos (by omega)]; rfl
  · rw [if_neg h, if_neg (by omega)]
theorem cmul_lit {i : Int} {j : Nat} (h : (OfNat.ofNat j : Nat) < 18446744073709551616) : CMul i (no_index (@OfNat.ofNat Int j instOfNat)) := by
  have : (@OfNat.ofNat Int j instOfNat) = ((j : Nat) : Int) := rfl
  rw [this]
  have h : j < 18446744073709551616 := h
  exact .inr ⟨by omega, by omega⟩
theorem cdiv_lit {i : Int} {j : Nat} (h0 : 0 < (OfNat.ofNat j : Nat)) (h : (OfNat.ofNat j : Nat) < 1073741824) : CDiv i (no_index (@OfNat.ofNat Int j instOfNat)) := by
  have : (@OfNat.ofNat Int j instOfNat) = ((j : Nat) : Int) := rfl
  rw [this]
  have h : j < 1073741824 := h
  have h0 : 0 < j := h0
  exact ⟨by omega, by omega⟩
theorem cpow_lit {i j : Nat} (h0 : (OfNat.ofNat i : Nat) < 18446744073709551616) (h : (OfNat.ofNat j : Nat) < 1000000) : CPow (no_index (@OfNat.ofNat Int i instOfNat)) (no_index (@OfNat.ofNat Int j instOfNat)) := by
  have e : (@OfNat.ofNat Int j instOfNat) = ((j : Nat) : Int) := rfl
  have e2 : (@OfNat.ofNat Int i instOfNat) = ((i : Nat) : Int) := rfl
  rw [e, e2]
  have h : j < 1000000 := h
  have h0 : i < 18446744073709551616 := h0
  exact ⟨by omega, by omega, by simpa using h0⟩
theorem chk_true {α : Type} {x : Option α} : chk True x = x := chk_pos trivial
end
end RL
/-! RL11: comprehensions and loops over what stands there; calls of the table's defs. -/
namespace RL
open PySem L2 DL PyProof.Rows PySem.W
section
variable {ρ r r3 ρ3 : DL.Env} {ds : List D} {k k1 k2 : Bool} {d d1 d2 : D} {x y : Option Slot} {n i j : Nat} {b : Bool} {vs ix : List Nat} {sl : Slot}
theorem wp_nil : wipeE ρ [] = ρ := rfl
theorem wp_cons : wipeE ρ (i :: vs) = (wipeE ρ vs).set i none := rfl
theorem mk_nil : maskE [] = [] := rfl
theorem mk_o : maskE (some (.own ds) :: r) = true :: maskE r := rfl
theorem mk_v : maskE (some (.v k d) :: r) = false :: maskE r := rfl
theorem mk_n : maskE (none :: r) = false :: maskE r := rfl
theorem mg_nil : mergeE j [] [] vs = [] := rfl
theorem mg_cons : mergeE j (x :: r) (y :: r3) vs = mg1 (vs.contains j) x y :: mergeE (j + 1) r r3 vs := rfl
theorem mg_t : mg1 true x y = keepV x := rfl
theorem mg_f : mg1 false x y = backV x y := rfl
theorem kp_v : keepV (some (.v k d)) = some (.v k d) := rfl
theorem kp_n : keepV none = none := rfl
theorem kp_o : keepV (some (.own ds)) = none := rfl
theorem bk_o : backV x (some (.own ds)) = some (.own ds) := rfl
theorem bk_t : backV x (some (.v true d)) = some (.v true d) := rfl
theorem bk_f : backV x (some (.v false d)) = keepV x := rfl
theorem bk_n : backV x none = none := rfl
theorem bk_same : backV (some (.v k d)) (some (.v k d)) = some (.v k d) := by cases k <;> rfl
theorem by_nm : bindY (.nm i) (.one (.v k d)) = some fun ρ => ρ.set i (some (.v k d)) := rfl
theorem by_two : bindY (.tp [i, j]) (.two k1 d1 k2 d2) = some fun ρ => (ρ.set i (some (.v k1 d1))).set j (some (.v k2 d2)) := rfl
theorem by_tp (h : ix.length = ds.length) : bindY (.tp ix) (.one (.v k (.tup ds))) = some fun ρ => setE ρ ix true ds := by simp only [bindY, chk_pos h]
theorem no_nil : noOwn [] = [] := rfl
theorem no_o : noOwn (some (.own ds) :: r) = none :: noOwn r := rfl
theorem no_v : noOwn (some (.v k d) :: r) = some (.v k d) :: noOwn r := rfl
theorem no_n : noOwn (none :: r) = none :: noOwn r := rfl
theorem rb_v : resB (.v k d) = k := rfl
theorem rb_o : resB (.own ds) = true := rfl
theorem os_nil : outsS ρ n [] = some [] := rfl
theorem os_o {as : List Slot} : outsS ρ n (.own ds :: as) = (getO ρ n).bind fun es => (outsS ρ (n + 1) as).bind fun r => some (.own es :: r) := rfl
theorem os_v {as : List Slot} : outsS ρ n (.v k d :: as) = (outsS ρ (n + 1) as).bind fun r => some (.v k d :: r) := rfl
end
/-! ### comprehensions -/
section
variable {f : Nat → DL.Env → Option (Option D × DL.Env)} {ρ : DL.Env} {ds : List D}
theorem compL_ind (J : Nat → DL.Env → List D → Prop) : ∀ {m s : Nat} {ρ : DL.Env} {acc : List D}, J s ρ acc → (∀ t ρ acc, s ≤ t → t < s + m → J t ρ acc → ∃ o ρ', f t ρ = some (o, ρ') ∧ J (t + 1) ρ' (match o with | some x => acc ++ [x] | none => acc)) →
    ∃ acc' ρ', compL f s m ρ acc = some (acc', ρ') ∧ J (s + m) ρ' acc'
  | 0, s, ρ, acc, h0, _ => ⟨acc, ρ, rfl, h0⟩
  | m + 1, s, ρ, acc, h0, h => by
    obtain ⟨o, ρ1, h1, h2⟩ := h s ρ acc (Nat.le_refl _) (by omega) h0
    obtain ⟨acc', ρ', h3, h4⟩ := compL_ind J (m := m) (s := s + 1) h2 fun t ρ acc a b c => h t ρ acc (by omega) (by omega) c
    refine ⟨acc', ρ', ?_, by rw [show s + (m + 1) = s + 1 + m by omega]; exact h4⟩
    show ((f s ρ).bind fun q => compL f (s + 1) m q.2 (match q.1 with | some x => acc ++ [x] | none => acc)) = _
    rw [h1]; exact h3
theorem compL_map {m : Nat} (g : Nat → D) (h : ∀ t, t < m → f t ρ = some (some (g t), ρ)) : compL f 0 m ρ [] = some ((List.range m).map g, ρ) := by
  obtain ⟨acc, ρ', h1, h2, h3⟩ := compL_ind (f := f) (fun t ρ' acc => ρ' = ρ ∧ acc = (List.range t).map g) (m := m) (s := 0) (ρ := ρ) (acc := []) ⟨rfl, rfl⟩ fun t ρ' acc _ ht hj => by
    obtain ⟨rfl, rfl⟩ := hj
    refine ⟨_, _, h t (by omega), rfl, ?_⟩
    simp [List.range_succ]
  rw [h1, h2, h3, Nat.zero_add]
theorem compL_list (g : D → D) (h : ∀ t d, ds[t]? = some d → f t ρ = some (some (g d), ρ)) : compL f 0 ds.length ρ [] = some (ds.map g, ρ) := by
  rw [compL_map (fun t => g (ds.getD t .non)) fun t ht => ?_, range_getD ds .non g]
  have e : ds[t]? = some (ds.getD t .non) := by rw [List.getD_eq_getElem?_getD, List.getElem?_eq_getElem ht]; rfl
  exact h t _ e
theorem compL_filter (b : D → Bool) (g : D → D) (h : ∀ t d, ds[t]? = some d → f t ρ = some (if b d then some (g d) else none, ρ)) : compL f 0 ds.length ρ [] = some ((ds.filter b).map g, ρ) := by
  obtain ⟨acc, ρ', h1, h2, h3⟩ := compL_ind (f := f) (fun t ρ' acc => ρ' = ρ ∧ acc = ((ds.take t).filter b).map g) (m := ds.length) (s := 0) (ρ := ρ) (acc := []) ⟨rfl, by simp⟩ fun t ρ' acc _ ht hj => by
    obtain ⟨rfl, rfl⟩ := hj
    have ht : t < ds.length := by omega
    have e : ds[t]? = some ds[t] := List.getElem?_eq_getElem ht
    refine ⟨_, _, h t _ e, rfl, ?_⟩
    rw [List.take_add_one, e, List.filter_append, List.map_append]
    cases hb : b ds[t] with
    | true => simp [hb]
    | false => simp [hb]
  rw [h1, h2, h3, Nat.zero_add, List.take_of_length_le (Nat.le_refl _)]
end
/-! ### loops -/
theorem forL_ind {f : Nat → DL.Env → Option Out} (J : Nat → DL.Env → Prop) : ∀ {m s : Nat} {ρ : DL.Env}, J s ρ → (∀ t ρ, s ≤ t → t < s + m → J t ρ → ∃ ρ', f t ρ = some (.nx ρ') ∧ J (t + 1) ρ') → ∃ ρ', forL f s m ρ = some (.nx ρ') ∧ J (s + m) ρ'
  | 0, s, ρ, h0, _ => ⟨ρ, rfl, h0⟩
  | m + 1, s, ρ, h0, h => by
    obtain ⟨ρ1, h1, h2⟩ := h s ρ (Nat.le_refl _) (by omega) h0
    obtain ⟨ρ', h3, h4⟩ := forL_ind J (m := m) (s := s + 1) h2 fun t ρ a b c => h t ρ (by omega) (by omega) c
    refine ⟨ρ', ?_, by rw [show s + (m + 1) = s + 1 + m by omega]; exact h4⟩
    show ((f s ρ).bind _) = _
    rw [h1]; exact h3
/-- a loop that may return -/
theorem forL_ret {f : Nat → DL.Env → Option Out} (J : Nat → DL.Env → Prop) (R : Slot → DL.Env → Prop) : ∀ {m s : Nat} {ρ : DL.Env}, J s ρ → (∀ t ρ, s ≤ t → t < s + m → J t ρ → (∃ ρ', f t ρ = some (.nx ρ') ∧ J (t + 1) ρ') ∨ ∃ v ρ', f t ρ = some (.ret v ρ') ∧ R v ρ') →
    (∃ ρ', forL f s m ρ = some (.nx ρ') ∧ J (s + m) ρ') ∨ ∃ v ρ', forL f s m ρ = some (.ret v ρ') ∧ R v ρ'
  | 0, s, ρ, h0, _ => .inl ⟨ρ, rfl, h0⟩
  | m + 1, s, ρ, h0, h => by
    rcases h s ρ (Nat.le_refl _) (by omega) h0 with ⟨ρ1, h1, h2⟩ | ⟨v, ρ1, h1, h2⟩
    · rcases forL_ret J R (m := m) (s := s + 1) h2 fun t ρ a b c => h t ρ (by omega) (by omega) c with ⟨ρ', h3, h4⟩ | ⟨v, ρ', h3, h4⟩
      · refine .inl ⟨ρ', ?_, by rw [show s + (m + 1) = s + 1 + m by omega]; exact h4⟩
        show ((f s ρ).bind _) = _
        rw [h1]; exact h3
      · refine .inr ⟨v, ρ', ?_, h4⟩
        show ((f s ρ).bind _) = _
        rw [h1]; exact h3
    · refine .inr ⟨v, ρ1, ?_, h2⟩
      show ((f s ρ).bind _) = _
      rw [h1]; rfl
/-! ### the table's defs -/
noncomputable def finS (args : List Slot) : Out → Option (Slot × List Slot)
  | .ret r ρ' => chk (resB r = true) ((outsS ρ' 0 args).bind fun outs => some (r, outs))
  | .nx ρ' => (outsS ρ' 0 args).bind fun outs => some (.val .non, outs)
  | _ => none
theorem call_eq {T : List De} {f n : Nat} {d : De} {args : List Slot} (h : T[f]? = some d) (hl : args.length = d.ps.length) (hs : d.sp = none := by rfl) : (csT T (n + 1)).C f args = (evB (csT T n) (args.map isOwn) d.cs (startE d.N args)).bind (finS args) := by
  show ((T[f]?).bind fun d => stepD T n (callP T n).1 (callP T n).2 d args) = _
  rw [h]
  show stepD T n (callP T n).1 (callP T n).2 d args = _
  rw [step_none hs]
  show runD ⟨callT T n, modes T⟩ d args = _
  unfold runD
  rw [chk_pos hl]
  show (evB (csT T n) (args.map isOwn) d.cs (startE d.N args)).bind _ = _
  congr 1
theorem call_hook {T : List De} {f n : Nat} {d : De} {args : List Slot} {hk : Cs → Cs → List Slot → Option (Slot × List Slot)} (h : T[f]? = some d) (hs : d.sp = some hk) : (csT T (n + 4)).C f args = hk (csT T (n + 3)) (csT T (n + 2)) args := by
  show ((T[f]?).bind fun d => stepD T (n + 3) (callP T (n + 3)).1 (callP T (n + 3)).2 d args) = _
  rw [h]
  show stepD T (n + 3) (callP T (n + 3)).1 (callP T (n + 3)).2 d args = _
  rw [step_hook hs]; rfl
theorem fin_ret {args : List Slot} {r : Slot} {ρ : DL.Env} : finS args (.ret r ρ) = chk (resB r = true) ((outsS ρ 0 args).bind fun outs => some (r, outs)) := rfl
theorem fin_nx {args : List Slot} {ρ : DL.Env} : finS args (.nx ρ) = (outsS ρ 0 args).bind fun outs => some (.val .non, outs) := rfl
theorem cs_M {T : List De} {f n : Nat} {d : De} (h : T[f]? = some d) : (csT T n).M f = d.own := by
  show ((T[f]?).map (·.own)).getD [] = _
  rw [h]; rfl
end RL
namespace RL
open PySem L2 DL
section
variable {k1 k2 : Bool} {i : Int} {j m : Nat}
theorem qv_mulL : binS .Mult (.v k1 (.int i)) (.v k2 (.int (no_index (@OfNat.ofNat Int j instOfNat)))) = if (OfNat.ofNat j : Nat) < 18446744073709551616 then some (.val (.int (i * @OfNat.ofNat Int j instOfNat))) else chk (CMlW i (@OfNat.ofNat Int j instOfNat)) (some (.val (.int (i * @OfNat.ofNat Int j instOfNat)))) := by
  split
  · rename_i h; rw [qv_mul, chk_pos (.inl (cmul_lit h))]
  · rfl
theorem qv_fdivL : binS .FloorDiv (.v k1 (.int i)) (.v k2 (.int (no_index (@OfNat.ofNat Int j instOfNat)))) = if 0 < (OfNat.ofNat j : Nat) ∧ (OfNat.ofNat j : Nat) < 1073741824 then some (.val (.int (i / @OfNat.ofNat Int j instOfNat))) else Option.or (chk (CDiv i (@OfNat.ofNat Int j instOfNat)) (some (.val (.int (i / @OfNat.ofNat Int j instOfNat))))) (chk (CDvW i (@OfNat.ofNat Int j instOfNat)) (some (.val (.int (i.fdiv (@OfNat.ofNat Int j instOfNat)))))) := by
  split
  · rename_i h; rw [qv_fdiv, chk_pos (cdiv_lit h.1 h.2)]; rfl
  · rfl
theorem qv_modL : binS .Mod (.v k1 (.int i)) (.v k2 (.int (no_index (@OfNat.ofNat Int j instOfNat)))) = if 0 < (OfNat.ofNat j : Nat) then some (.val (.int (i % @OfNat.ofNat Int j instOfNat))) else chk (0 < (@OfNat.ofNat Int j instOfNat)) (some (.val (.int (i % @OfNat.ofNat Int j instOfNat)))) := by
  split
  · rename_i h0
    rw [qv_mod, chk_pos]
    have : (@OfNat.ofNat Int j instOfNat) = ((j : Nat) : Int) := rfl
    rw [this]
    have h0 : 0 < j := h0
    omega
  · rfl
theorem qv_powL : binS .Pow (.v k1 (.int (no_index (@OfNat.ofNat Int m instOfNat)))) (.v k2 (.int (no_index (@OfNat.ofNat Int j instOfNat)))) = if (OfNat.ofNat m : Nat) < 18446744073709551616 ∧ (OfNat.ofNat j : Nat) < 1000000 then some (.val (.int ((@OfNat.ofNat Int m instOfNat) ^ (OfNat.ofNat j : Nat)))) else chk (CPow (@OfNat.ofNat Int m instOfNat) (@OfNat.ofNat Int j instOfNat)) (some (.val (.int ((@OfNat.ofNat Int m instOfNat) ^ (@OfNat.ofNat Int j instOfNat : Int).toNat)))) := by
  split
  · rename_i h; rw [qv_pow, chk_pos (cpow_lit h.1 h.2)]; rfl
  · rfl
theorem qv_mulC {i j : Int} (h : CMul i j) : binS .Mult (.v k1 (.int i)) (.v k2 (.int j)) = some (.val (.int (i * j))) := by rw [qv_mul, chk_pos (.inl h)]
theorem qv_mulW {i j : Int} (h : CMlW i j) : binS .Mult (.v k1 (.int i)) (.v k2 (.int j)) = some (.val (.int (i * j))) := by rw [qv_mul, chk_pos h]
theorem qv_fdivW {i j : Int} (h : CDvW i j) : binS .FloorDiv (.v k1 (.int i)) (.v k2 (.int j)) = some (.val (.int (i.fdiv j))) := by
  rw [qv_fdiv, chk_pos h]
  by_cases hc : CDiv i j
  · rw [chk_pos hc]
    have h1 : (0 : Int) < j := hc.1
    rw [Int.fdiv_eq_ediv_of_nonneg i (by omega)]; rfl
  · unfold chk; rw [if_neg hc]; rfl
theorem qv_fdivC {i j : Int} (h : CDiv i j) : binS .FloorDiv (.v k1 (.int i)) (.v k2 (.int j)) = some (.val (.int (i / j))) := by rw [qv_fdiv, chk_pos h]; rfl
theorem qv_modC {i j : Int} (h : 0 < j) : binS .Mod (.v k1 (.int i)) (.v k2 (.int j)) = some (.val (.int (i % j))) := by rw [qv_mod, chk_pos h]
theorem qv_powC {i j : Int} (h : CPow i j) : binS .Pow (.v k1 (.int i)) (.v k2 (.int j)) = some (.val (.int (i ^ j.toNat))) := by rw [qv_pow, chk_pos h]
end
end RL
namespace RL
open PySem L2 DL PyProof.Rows PySem.W
section
variable {c : Cs} {ms : List Bool} {x : Option Slot} {r : DL.Env} {e w w1 : CE} {tg tg1 : Tgt} {vs vs1 : List Nat}
noncomputable def pairF (c : Cs) (e w1 : CE) (tg tg1 : Tgt) (vs vs1 : List Nat) (ρ : DL.Env) (it : Nat → Yld) (t : Nat) : Option (List D) :=
  (bindY tg (it t)).bind fun g => (evWF c w1 (noOwn (g (wipeE ρ vs)))).bind fun q =>
      pairL (fun j => (bindY tg1 (q.it j)).bind fun g1 => (evE c [] e (g1 (wipeE (noOwn (g (wipeE ρ vs))) vs1))).bind fun u => chk (u.2 = g1 (wipeE (noOwn (g (wipeE ρ vs))) vs1)) ((toV u.1).bind fun d => some [d])) q.m
theorem e_comp2 : evE c ms (.comp2 e w w1 tg tg1 vs vs1) (x :: r) = (evW c ms w (x :: r)).bind fun p => chk (vs.all (frB ms) = true ∧ vs1.all (fun i => decide (i ∈ vs)) = true) ((pairL (pairF c e w1 tg tg1 vs vs1 p.2 p.1.it) p.1.m).bind fun acc => chk (acc.length ≤ sizeLine) (some (.own acc, p.2))) := by simp only [evE]; rfl
theorem f_range {a : CE} : evWF c (.wrange a) (x :: r) = (evE c [] a (x :: r)).bind fun p => chk (p.2 = (x :: r)) ((intS p.1).bind fun h => chk (-4611686018427387904 ≤ h ∧ h < 4611686018427387904) (some ⟨h.toNat, fun t => .one (.val (.int (t : Int)))⟩)) := by
  have e1 : (2 : Int) ^ 62 = 4611686018427387904 := by decide
  simp only [evWF, e1]
theorem pairL_map {f : Nat → Option (List D)} {g : Nat → List D} : ∀ {m : Nat}, (∀ t, t < m → f t = some (g t)) → pairL f m = some ((List.range m).flatMap g)
  | 0, _ => rfl
  | m + 1, h => by
    show ((pairL f m).bind fun l => (f m).bind fun k => some (l ++ k)) = _
    rw [pairL_map fun t ht => h t (by omega), h m (by omega), List.range_succ, List.flatMap_append]
    simp
theorem pairL_list {f : Nat → Option (List D)} {g : D → List D} {ds : List D} (h : ∀ t d, ds[t]? = some d → f t = some (g d)) : pairL f ds.length = some (ds.flatMap g) := by
  rw [pairL_map (g := fun t => g (ds.getD t .non)) fun t ht => ?_]
  · congr 1
    rw [List.flatMap_def, range_getD ds .non g, List.flatMap_def]
  · have e : ds[t]? = some (ds.getD t .non) := by rw [List.getD_eq_getElem?_getD, List.getElem?_eq_getElem ht]; rfl
    exact h t _ e
end
end RL
namespace RL
open PySem L2 DL PyProof.Rows PySem.W
/-- a place that holds a value or nothing -/
def sv (a : Option (Bool × D)) : Option Slot := a.map fun p => .v p.1 p.2
theorem mk_sv {a : Option (Bool × D)} {r : DL.Env} : maskE (sv a :: r) = false :: maskE r := by cases a <;> rfl
theorem kp_sv {a : Option (Bool × D)} : keepV (sv a) = sv a := by cases a <;> rfl
theorem bk_sv {a : Option (Bool × D)} : backV (sv a) (sv a) = sv a := by
  cases a with
  | none => rfl
  | some p => obtain ⟨k, d⟩ := p; cases k <;> rfl
theorem no_sv {a : Option (Bool × D)} {r : DL.Env} : noOwn (sv a :: r) = sv a :: noOwn r := by cases a <;> rfl
theorem x_ext {ρ : DL.Env} {i : Nat} {ds es : List D} (h : ds.length + es.length ≤ sizeLine) : extS ρ i ds (.lst es) = some (.val .non, ρ.set i (some (.own (ds ++ es)))) := chk_pos h
end RL
/-! RL12: isinstance of data, by kinds. -/
namespace RL
open PySem L2 DL
theorem is_non_list  : isiD .non "list" = false := id (by rfl)
theorem is_non_tuple  : isiD .non "tuple" = false := id (by rfl)
theorem is_non_bool  : isiD .non "bool" = false := id (by rfl)
theorem is_non_str  : isiD .non "str" = false := id (by rfl)
theorem is_non_int  : isiD .non "int" = false := id (by rfl)
theorem is_non_dict  : isiD .non "dict" = false := id (by rfl)
theorem pl_non  : plainD .non = true := id (by rfl)
theorem isn_non  : DL.isNon .non = true := id (by rfl)
theorem is_bl_list {b : Bool} : isiD (.bl b) "list" = false := id (by rfl)
theorem is_bl_tuple {b : Bool} : isiD (.bl b) "tuple" = false := id (by rfl)
theorem is_bl_bool {b : Bool} : isiD (.bl b) "bool" = true := id (by rfl)
theorem is_bl_str {b : Bool} : isiD (.bl b) "str" = false := id (by rfl)
theorem is_bl_int {b : Bool} : isiD (.bl b) "int" = true := id (by rfl)
theorem is_bl_dict {b : Bool} : isiD (.bl b) "dict" = false := id (by rfl)
theorem pl_bl {b : Bool} : plainD (.bl b) = true := id (by rfl)
theorem isn_bl {b : Bool} : DL.isNon (.bl b) = false := id (by rfl)
theorem is_int_list {i : Int} : isiD (.int i) "list" = false := id (by rfl)
theorem is_int_tuple {i : Int} : isiD (.int i) "tuple" = false := id (by rfl)
theorem is_int_bool {i : Int} : isiD (.int i) "bool" = false := id (by rfl)
theorem is_int_str {i : Int} : isiD (.int i) "str" = false := id (by rfl)
theorem is_int_int {i : Int} : isiD (.int i) "int" = true := id (by rfl)
theorem is_int_dict {i : Int} : isiD (.int i) "dict" = false := id (by rfl)
theorem pl_int {i : Int} : plainD (.int i) = true := id (by rfl)
theorem isn_int {i : Int} : DL.isNon (.int i) = false := id (by rfl)
theorem is_str_list {s : Str} : isiD (.str s) "list" = false := id (by rfl)
theorem is_str_tuple {s : Str} : isiD (.str s) "tuple" = false := id (by rfl)
theorem is_str_bool {s : Str} : isiD (.str s) "bool" = false := id (by rfl)
theorem is_str_str {s : Str} : isiD (.str s) "str" = true := id (by rfl)
theorem is_str_int {s : Str} : isiD (.str s) "int" = false := id (by rfl)
theorem is_str_dict {s : Str} : isiD (.str s) "dict" = false := id (by rfl)
theorem pl_str {s : Str} : plainD (.str s) = true := id (by rfl)
theorem isn_str {s : Str} : DL.isNon (.str s) = false := id (by rfl)
theorem is_lst_list {ds : List D} : isiD (.lst ds) "list" = true := id (by rfl)
theorem is_lst_tuple {ds : List D} : isiD (.lst ds) "tuple" = false := id (by rfl)
theorem is_lst_bool {ds : List D} : isiD (.lst ds) "bool" = false := id (by rfl)
theorem is_lst_str {ds : List D} : isiD (.lst ds) "str" = false := id (by rfl)
theorem is_lst_int {ds : List D} : isiD (.lst ds) "int" = false := id (by rfl)
theorem is_lst_dict {ds : List D} : isiD (.lst ds) "dict" = false := id (by rfl)
theorem pl_lst {ds : List D} : plainD (.lst ds) = true := id (by rfl)
theorem isn_lst {ds : List D} : DL.isNon (.lst ds) = false := id (by rfl)
theorem is_tup_list {ds : List D} : isiD (.tup ds) "list" = false := id (by rfl)
theorem is_tup_tuple {ds : List D} : isiD (.tup ds) "tuple" = true := id (by rfl)
theorem is_tup_bool {ds : List D} : isiD (.tup ds) "bool" = false := id (by rfl)
theorem is_tup_str {ds : List D} : isiD (.tup ds) "str" = false := id (by rfl)
theorem is_tup_int {ds : List D} : isiD (.tup ds) "int" = false := id (by rfl)
theorem is_tup_dict {ds : List D} : isiD (.tup ds) "dict" = false := id (by rfl)
theorem pl_tup {ds : List D} : plainD (.tup ds) = true := id (by rfl)
theorem isn_tup {ds : List D} : DL.isNon (.tup ds) = false := id (by rfl)
theorem is_dk_list {ks : List Key} {ds : List D} : isiD (.dk ks ds) "list" = false := id (by rfl)
theorem is_dk_tuple {ks : List Key} {ds : List D} : isiD (.dk ks ds) "tuple" = false := id (by rfl)
theorem is_dk_bool {ks : List Key} {ds : List D} : isiD (.dk ks ds) "bool" = false := id (by rfl)
theorem is_dk_str {ks : List Key} {ds : List D} : isiD (.dk ks ds) "str" = false := id (by rfl)
theorem is_dk_int {ks : List Key} {ds : List D} : isiD (.dk ks ds) "int" = false := id (by rfl)
theorem is_dk_dict {ks : List Key} {ds : List D} : isiD (.dk ks ds) "dict" = true := id (by rfl)
theorem pl_dk {ks : List Key} {ds : List D} : plainD (.dk ks ds) = true := id (by rfl)
theorem isn_dk {ks : List Key} {ds : List D} : DL.isNon (.dk ks ds) = false := id (by rfl)
theorem sc_non : isSc .non = true := id rfl
theorem sc_bl {b : Bool} : isSc (.bl b) = true := id rfl
theorem sc_int {i : Int} : isSc (.int i) = true := id rfl
theorem sc_str {i : Str} : isSc (.str i) = true := id rfl
theorem sc_lst {ds : List D} : isSc (.lst ds) = false := id rfl
theorem sc_tup {ds : List D} : isSc (.tup ds) = false := id rfl
theorem sc_dk {ks : List Key} {ds : List D} : isSc (.dk ks ds) = false := id rfl
end RL
/-! M0: determinants of rows and columns of any kind, by signed sums over picks. -/
namespace LA
universe u v w
/-- the signed sum over the ways to pick one of a list -/
def ds {α : Type u} (g : α → List α → Int) : List α → Int
  | [] => 0
  | x :: xs => g x xs - ds (fun y ys => g y (x :: ys)) xs
section
variable {α : Type u} {β : Type v}
theorem ds_congr {g h : α → List α → Int} : ∀ {xs : List α}, (∀ y ys, g y ys = h y ys) → ds g xs = ds h xs
  | [], _ => rfl
  | x :: xs, q => by
    show g x xs - ds (fun y ys => g y (x :: ys)) xs = h x xs - ds (fun y ys => h y (x :: ys)) xs
    rw [q, ds_congr (g := fun y ys => g y (x :: ys)) (h := fun y ys => h y (x :: ys)) fun y ys => q _ _]
theorem ds_mem {g h : α → List α → Int} : ∀ {xs : List α}, (∀ y ys, y ∈ xs → (∀ z, z ∈ ys → z ∈ xs) → (∀ z, z ∈ xs → z = y ∨ z ∈ ys) → g y ys = h y ys) → ds g xs = ds h xs
  | [], _ => rfl
  | x :: xs, q => by
    show g x xs - ds (fun y ys => g y (x :: ys)) xs = h x xs - ds (fun y ys => h y (x :: ys)) xs
    rw [q x xs (.head _) (fun z hz => .tail _ hz) (fun z hz => by cases hz with
      | head => exact .inl rfl
      | tail _ h => exact .inr h), ds_mem (g := fun y ys => g y (x :: ys)) (h := fun y ys => h y (x :: ys)) fun y ys h1 h2 h3 => q _ _ (.tail _ h1) (fun z hz => by
        cases hz with
        | head => exact .head _
        | tail _ h => exact .tail _ (h2 z h)) (fun z hz => by
        cases hz with
        | head => exact .inr (.head _)
        | tail _ h => exact (h3 z h).imp id (.tail _))]
theorem ds_zero : ∀ {xs : List α}, ds (fun _ _ => 0) xs = 0
  | [] => rfl
  | x :: xs => by
    show 0 - ds (fun _ _ => 0) xs = 0
    rw [ds_zero]; rfl
theorem ds_mul {c : Int} {g : α → List α → Int} : ∀ {xs : List α}, ds (fun y ys => c * g y ys) xs = c * ds g xs
  | [] => (Int.mul_zero c).symm
  | x :: xs => by
    show c * g x xs - ds (fun y ys => c * g y (x :: ys)) xs = c * (g x xs - ds (fun y ys => g y (x :: ys)) xs)
    rw [ds_mul (g := fun y ys => g y (x :: ys)), Int.mul_sub]
theorem ds_sub {g h : α → List α → Int} : ∀ {xs : List α}, ds (fun y ys => g y ys - h y ys) xs = ds g xs - ds h xs
  | [] => rfl
  | x :: xs => by
    show g x xs - h x xs - ds (fun y ys => g y (x :: ys) - h y (x :: ys)) xs = (g x xs - ds (fun y ys => g y (x :: ys)) xs) - (h x xs - ds (fun y ys => h y (x :: ys)) xs)
    rw [ds_sub (g := fun y ys => g y (x :: ys)) (h := fun y ys => h y (x :: ys))]; omega
theorem ds_add {g h : α → List α → Int} : ∀ {xs : List α}, ds (fun y ys => g y ys + h y ys) xs = ds g xs + ds h xs
  | [] => rfl
  | x :: xs => by
    show g x xs + h x xs - ds (fun y ys => g y (x :: ys) + h y (x :: ys)) xs = (g x xs - ds (fun y ys => g y (x :: ys)) xs) + (h x xs - ds (fun y ys => h y (x :: ys)) xs)
    rw [ds_add (g := fun y ys => g y (x :: ys)) (h := fun y ys => h y (x :: ys))]; omega
theorem ds_neg {g : α → List α → Int} {xs : List α} : ds (fun y ys => - g y ys) xs = - ds g xs := by
  have := ds_mul (c := -1) (g := g) (xs := xs)
  rw [Int.neg_one_mul] at this
  rw [← this]
  exact ds_congr fun y ys => by rw [Int.neg_one_mul]
theorem ds_comm {F : α → List α → β → List β → Int} : ∀ {xs : List α} {cs : List β}, ds (fun y ys => ds (fun c r => F y ys c r) cs) xs = ds (fun c r => ds (fun y ys => F y ys c r) xs) cs
  | [], cs => ds_zero.symm
  | x :: xs, cs => by
    show ds (fun c r => F x xs c r) cs - ds (fun y ys => ds (fun c r => F y (x :: ys) c r) cs) xs = _
    rw [ds_comm (F := fun y ys c r => F y (x :: ys) c r)]
    exact ds_sub.symm
/-- two picks one behind the other, the first two exchanged -/
theorem ds_swap {F : α → α → List α → Int} : ∀ {xs : List α}, ds (fun c cs => ds (fun d es => F c d es) cs) xs = - ds (fun c cs => ds (fun d es => F d c es) cs) xs
  | [] => rfl
  | x :: xs => by
    show ds (fun d es => F x d es) xs - ds (fun c cs => F c x cs - ds (fun d es => F c d (x :: es)) cs) xs = - (ds (fun d es => F d x es) xs - ds (fun c cs => F x c cs - ds (fun d es => F d c (x :: es)) cs) xs)
    have e1 : ds (fun c cs => F c x cs - ds (fun d es => F c d (x :: es)) cs) xs = ds (fun c cs => F c x cs) xs - ds (fun c cs => ds (fun d es => F c d (x :: es)) cs) xs := ds_sub
    have e2 : ds (fun c cs => F x c cs - ds (fun d es => F d c (x :: es)) cs) xs = ds (fun c cs => F x c cs) xs - ds (fun c cs => ds (fun d es => F d c (x :: es)) cs) xs := ds_sub
    have e3 : ds (fun c cs => ds (fun d es => F c d (x :: es)) cs) xs = - ds (fun c cs => ds (fun d es => F d c (x :: es)) cs) xs := ds_swap (F := fun c d es => F c d (x :: es))
    have e4 : ds (fun d es => F x d es) xs = ds (fun c cs => F x c cs) xs := rfl
    have e5 : ds (fun d es => F d x es) xs = ds (fun c cs => F c x cs) xs := rfl
    rw [e1, e2, e3, e4, e5]
    generalize ds (fun c cs => F x c cs) xs = A
    generalize ds (fun c cs => F c x cs) xs = B
    generalize ds (fun c cs => ds (fun d es => F d c (x :: es)) cs) xs = C
    omega
end
/-- the determinant: the first column, picks of the rows -/
def det {α : Type u} {β : Type v} (e : α → β → Int) : List α → List β → Int
  | [], [] => 1
  | _ :: _, [] => 0
  | xs, c :: cs => ds (fun x r => e x c * det e r cs) xs
section
variable {α : Type u} {β : Type v} {e : α → β → Int} {x y : α} {xs : List α} {c d : β} {cs : List β}
theorem det_nil : det e ([] : List α) ([] : List β) = 1 := by simp [det]
theorem det_cons_nil : det e (x :: xs) ([] : List β) = 0 := by simp [det]
theorem det_nil_cons : det e ([] : List α) (c :: cs) = 0 := by simp [det, ds]
theorem det_col : det e xs (c :: cs) = ds (fun x r => e x c * det e r cs) xs := by
  cases xs <;> rw [det] <;> simp
/-- the first row -/
theorem det_row : ∀ {cs : List β} {x : α} {xs : List α}, det e (x :: xs) cs = ds (fun c r => e x c * det e xs r) cs
  | [], x, xs => det_cons_nil
  | c :: cs, x, xs => by
    rw [det_col]
    show e x c * det e xs cs - ds (fun y r => e y c * det e (x :: r) cs) xs = e x c * det e xs cs - ds (fun c' r => e x c' * det e xs (c :: r)) cs
    have h1 : ds (fun y r => e y c * det e (x :: r) cs) xs = ds (fun y r => ds (fun c' r' => e y c * (e x c' * det e r r')) cs) xs := ds_congr fun y r => by rw [det_row (cs := cs), ds_mul]
    have h2 : ds (fun c' r' => e x c' * det e xs (c :: r')) cs = ds (fun c' r' => ds (fun y r => e y c * (e x c' * det e r r')) xs) cs := ds_congr fun c' r' => by
      rw [det_col, ← ds_mul]
      exact ds_congr fun y r => by rw [← Int.mul_assoc, ← Int.mul_assoc, Int.mul_comm (e x c')]
    rw [h1, h2, ds_comm]
theorem det_tr : ∀ {xs : List α} {cs : List β}, det e xs cs = det (fun c x => e x c) cs xs
  | [], [] => by rw [det_nil, det_nil]
  | [], c :: cs => by rw [det_nil_cons, det_cons_nil]
  | x :: xs, cs => by
    rw [det_row, det_col]
    exact ds_congr fun c r => by rw [det_tr (xs := xs)]
theorem det_swapR : det e (x :: y :: xs) cs = - det e (y :: x :: xs) cs := by
  have h : ∀ (a b : α), det e (a :: b :: xs) cs = ds (fun c r => ds (fun d r' => e a c * e b d * det e xs r') r) cs := fun a b => by
    rw [det_row]
    exact ds_congr fun c r => by rw [det_row, ← ds_mul]; exact ds_congr fun d r' => (Int.mul_assoc _ _ _).symm
  rw [h x y, h y x, ds_swap]
  congr 1
  exact ds_congr fun c r => ds_congr fun d r' => by rw [Int.mul_comm (e x d)]
theorem det_dupR : ∀ {xs : List α} {cs : List β}, x ∈ xs → det e (x :: xs) cs = 0
  | y :: ys, cs, h => by
    by_cases hy : x = y
    · subst hy
      have := det_swapR (e := e) (x := x) (y := x) (xs := ys) (cs := cs)
      omega
    · have h2 : x ∈ ys := by
        cases h with
        | head => exact absurd rfl hy
        | tail _ h => exact h
      rw [det_swapR, det_row, ds_congr (h := fun _ _ => 0) fun c r => by rw [det_dupR h2, Int.mul_zero], ds_zero]; rfl
theorem det_dupC (h : c ∈ cs) : det e xs (c :: cs) = 0 := by
  rw [det_tr]; exact det_dupR h
theorem det_swapC : det e xs (c :: d :: cs) = - det e xs (d :: c :: cs) := by
  rw [det_tr, det_swapR, ← det_tr]
end
end LA
/-! M1: rows as functions: combinations, borders, the identity of three minors. -/
namespace LA
universe u v w
section
variable {β : Type v}
abbrev Row (β : Type v) := β → Int
abbrev ap {β : Type v} (x : Row β) (c : β) : Int := x c
abbrev dt {β : Type v} (xs : List (Row β)) (cs : List β) : Int := det (fun (x : Row β) c => x c) xs cs
def comb : List Int → List (Row β) → Row β
  | a :: as, x :: xs => fun c => a * x c + comb as xs c
  | _, _ => fun _ => 0
variable {x y : Row β} {xs ys L : List (Row β)} {c d j : β} {cs : List β} {q : Int} {as : List Int}
theorem dt_lin {a b : Int} : dt ((fun c => a * x c + b * y c) :: xs) cs = a * dt (x :: xs) cs + b * dt (y :: xs) cs := by
  show det _ _ _ = a * det _ _ _ + b * det _ _ _
  rw [det_row, det_row, det_row, ← ds_mul, ← ds_mul, ← ds_add]
  exact ds_congr fun c r => by rw [Int.add_mul, Int.mul_assoc, Int.mul_assoc]
theorem dt_add : dt ((fun c => x c + y c) :: xs) cs = dt (x :: xs) cs + dt (y :: xs) cs := by
  have h := dt_lin (a := 1) (b := 1) (x := x) (y := y) (xs := xs) (cs := cs)
  simpa only [Int.one_mul] using h
theorem dt_zeroR : dt ((fun _ => 0) :: xs) cs = 0 := by
  show det _ _ _ = 0
  rw [det_row, ds_congr (h := fun _ _ => 0) fun c r => Int.zero_mul _, ds_zero]
theorem dt_smul {a : Int} : dt ((fun c => a * x c) :: xs) cs = a * dt (x :: xs) cs := by
  show det _ _ _ = a * det _ _ _
  rw [det_row, det_row, ← ds_mul]
  exact ds_congr fun c r => by rw [Int.mul_assoc]
theorem dt_comb0 : ∀ {as : List Int} {L : List (Row β)}, (∀ z, z ∈ L → dt (z :: xs) cs = 0) → dt (comb as L :: xs) cs = 0
  | [], L, _ => by
    have : (comb [] L : Row β) = fun _ => 0 := by cases L <;> rfl
    rw [this]; exact dt_zeroR
  | _ :: _, [], _ => dt_zeroR
  | a :: as, z :: L, h => by
    have e : dt (comb (a :: as) (z :: L) :: xs) cs = a * dt (z :: xs) cs + 1 * dt (comb as L :: xs) cs := by
      rw [← dt_lin]
      have : (comb (a :: as) (z :: L) : Row β) = fun c => a * z c + 1 * comb as L c := by
        funext c
        show a * z c + comb as L c = _
        rw [Int.one_mul]
      rw [this]
    rw [e, h z (.head _), dt_comb0 fun z hz => h z (.tail _ hz)]
    omega
/-- a row changed by the others -/
theorem dt_op (h : ∀ z, z ∈ L → z ∈ xs) : dt ((fun c => q * x c + comb as L c) :: xs) cs = q * dt (x :: xs) cs := by
  have e : dt ((fun c => q * x c + comb as L c) :: xs) cs = q * dt (x :: xs) cs + 1 * dt (comb as L :: xs) cs := by
    rw [← dt_lin]
    have : (fun c => q * x c + comb as L c) = fun c => q * x c + 1 * comb as L c := by
      funext c; rw [Int.one_mul]
    rw [this]
  rw [e, dt_comb0 fun z hz => det_dupR (h z hz)]
  omega
/-- a signed sum over rows is a combination -/
theorem ds_comb : ∀ {xs : List (Row β)} (h : Row β → List (Row β) → Int), ∃ as : List Int, ∀ j, ds (fun y r => y j * h y r) xs = comb as xs j
  | [], h => ⟨[], fun j => rfl⟩
  | x :: xs, h => by
    obtain ⟨as, e⟩ := ds_comb (xs := xs) (fun y r => - h y (x :: r))
    refine ⟨h x xs :: as, fun j => ?_⟩
    show x j * h x xs - ds (fun y r => y j * h y (x :: r)) xs = h x xs * x j + comb as xs j
    rw [← e j, Int.mul_comm (x j)]
    have : ds (fun y r => y j * - h y (x :: r)) xs = - ds (fun y r => y j * h y (x :: r)) xs := by
      rw [← ds_neg]
      exact ds_congr fun y r => Int.mul_neg _ _
    rw [this]; omega
/-- the border of x: its minors beside those of Ps over Cs -/
def bor (Ps : List (Row β)) (Cs : List β) (x : Row β) : Row β := fun j => dt (x :: Ps) (j :: Cs)
variable {Ps : List (Row β)} {Cs : List β}
theorem bor_comb (Ps : List (Row β)) (Cs : List β) (x : Row β) : ∃ as, bor Ps Cs x = fun j => dt Ps Cs * x j + comb as Ps j := by
  obtain ⟨as, e⟩ := ds_comb (xs := Ps) (fun y r => - dt (x :: r) Cs)
  refine ⟨as, ?_⟩
  funext j
  show det _ _ _ = _
  rw [det_col]
  show x j * dt Ps Cs - ds (fun y r => y j * dt (x :: r) Cs) Ps = _
  rw [← e j]
  have : ds (fun y r => y j * - dt (x :: r) Cs) Ps = - ds (fun y r => y j * dt (x :: r) Cs) Ps := by
    rw [← ds_neg]
    exact ds_congr fun y r => Int.mul_neg _ _
  rw [this, Int.mul_comm (x j)]; omega
theorem bor_in (h : j ∈ Cs) : bor Ps Cs x j = 0 := det_dupC h
theorem row_one {f : Row β} (h0 : ∀ j, j ∈ Cs → f j = 0) {G : β → List β → Int} : ds (fun c r => f c * G c r) Cs = 0 := by
  rw [ds_mem (h := fun _ _ => 0) fun c r h _ _ => by rw [h0 c h, Int.zero_mul], ds_zero]
/-- three minors -/
theorem syl (hq : dt Ps Cs ≠ 0) : dt Ps Cs * bor (y :: Ps) (c :: Cs) x j = bor Ps Cs x j * bor Ps Cs y c - bor Ps Cs x c * bor Ps Cs y j := by
  obtain ⟨as, ex⟩ := bor_comb Ps Cs x
  obtain ⟨bs, ey⟩ := bor_comb Ps Cs y
  have h1 : dt (bor Ps Cs x :: bor Ps Cs y :: Ps) (j :: c :: Cs) = dt Ps Cs * (dt Ps Cs * dt (x :: y :: Ps) (j :: c :: Cs)) := by
    rw [ex, dt_op fun z hz => .tail _ hz]
    congr 1
    show det _ _ _ = _
    rw [det_swapR, ey]
    have := dt_op (q := dt Ps Cs) (x := y) (as := bs) (L := Ps) (xs := x :: Ps) (cs := j :: c :: Cs) fun z hz => .tail _ hz
    rw [show det (fun (x : Row β) c => x c) ((fun j => dt Ps Cs * y j + comb bs Ps j) :: x :: Ps) (j :: c :: Cs) = dt Ps Cs * dt (y :: x :: Ps) (j :: c :: Cs) from this]
    have e := det_swapR (e := fun (x : Row β) c => x c) (x := y) (y := x) (xs := Ps) (cs := j :: c :: Cs)
    rw [show dt (y :: x :: Ps) (j :: c :: Cs) = - dt (x :: y :: Ps) (j :: c :: Cs) from e, Int.mul_neg, Int.neg_neg]
  have h2 : ∀ d, dt (bor Ps Cs y :: Ps) (d :: Cs) = bor Ps Cs y d * dt Ps Cs := fun d => by
    show det _ _ _ = _
    rw [det_row]
    show bor Ps Cs y d * dt Ps Cs - ds (fun c r => bor Ps Cs y c * det _ Ps (d :: r)) Cs = _
    rw [row_one fun j hj => bor_in hj]; omega
  have h3 : dt (bor Ps Cs x :: bor Ps Cs y :: Ps) (j :: c :: Cs) = bor Ps Cs x j * (bor Ps Cs y c * dt Ps Cs) - bor Ps Cs x c * (bor Ps Cs y j * dt Ps Cs) := by
    show det _ _ _ = _
    rw [det_row]
    show bor Ps Cs x j * dt (bor Ps Cs y :: Ps) (c :: Cs) - (bor Ps Cs x c * dt (bor Ps Cs y :: Ps) (j :: Cs) - ds (fun d r => bor Ps Cs x d * det _ (bor Ps Cs y :: Ps) (j :: c :: r)) Cs) = _
    rw [row_one fun j hj => bor_in hj, h2, h2]; omega
  have h4 : dt Ps Cs * (dt Ps Cs * dt (x :: y :: Ps) (j :: c :: Cs)) = dt Ps Cs * (bor Ps Cs x j * bor Ps Cs y c - bor Ps Cs x c * bor Ps Cs y j) := by
    rw [← h1, h3, Int.mul_sub]
    congr 1
    · rw [← Int.mul_assoc, Int.mul_comm]
    · rw [← Int.mul_assoc, Int.mul_comm]
  exact Int.eq_of_mul_eq_mul_left hq h4
end
end LA
/-! M2: signed permutations; the rank by minors. -/
namespace LA
universe u v w
/-- a permutation with its sign -/
inductive PS {α : Type u} : List α → List α → Int → Prop where
  | nil : PS [] [] 1
  | cons {xs ys : List α} {s : Int} (x : α) (h : PS xs ys s) : PS (x :: xs) (x :: ys) s
  | swap (x y : α) (xs : List α) : PS (x :: y :: xs) (y :: x :: xs) (-1)
  | trans {xs ys zs : List α} {s t : Int} (h : PS xs ys s) (g : PS ys zs t) : PS xs zs (s * t)
section
variable {α : Type u} {β : Type v} {e : α → β → Int} {xs ys zs : List α} {s t : Int} {x y : α}
theorem PS.refl : ∀ xs : List α, PS xs xs 1
  | [] => .nil
  | x :: xs => .cons x (PS.refl xs)
theorem PS.to (h : PS xs ys s) (e : s = t) : PS xs ys t := e ▸ h
theorem det_ps (h : PS xs ys s) : ∀ cs : List β, det e xs cs = s * det e ys cs := by
  induction h with
  | nil => intro cs; omega
  | cons x h ih =>
    intro cs
    rw [det_row, det_row, ← ds_mul]
    exact ds_congr fun c r => by rw [ih r, ← Int.mul_assoc, ← Int.mul_assoc, Int.mul_comm (e x c)]
  | swap x y xs => intro cs; rw [det_swapR]; omega
  | trans h g ih1 ih2 => intro cs; rw [ih1, ih2, Int.mul_assoc]
theorem PS.sg (h : PS xs ys s) : s = 1 ∨ s = -1 := by
  induction h with
  | nil => exact .inl rfl
  | cons x h ih => exact ih
  | swap x y xs => exact .inr rfl
  | trans h g ih1 ih2 => rcases ih1 with rfl | rfl <;> rcases ih2 with rfl | rfl <;> simp
theorem PS.len (h : PS xs ys s) : xs.length = ys.length := by
  induction h with
  | nil => rfl
  | cons x h ih => simp [ih]
  | swap x y xs => rfl
  | trans h g ih1 ih2 => exact ih1.trans ih2
theorem PS.mem (h : PS xs ys s) (z : α) : z ∈ xs ↔ z ∈ ys := by
  induction h with
  | nil => exact Iff.rfl
  | cons x h ih => simp [ih]
  | swap x y xs => simp only [List.mem_cons]; exact ⟨fun h => h.elim (fun h => .inr (.inl h)) (fun h => h.elim .inl fun h => .inr (.inr h)), fun h => h.elim (fun h => .inr (.inl h)) (fun h => h.elim .inl fun h => .inr (.inr h))⟩
  | trans h g ih1 ih2 => exact ih1.trans ih2
def sgn : Nat → Int
  | 0 => 1
  | n + 1 => - sgn n
theorem sgn_sq : ∀ n, sgn n * sgn n = 1
  | 0 => rfl
  | n + 1 => by
    show - sgn n * - sgn n = 1
    rw [Int.neg_mul_neg, sgn_sq n]
theorem PS.app (zs : List α) (h : PS xs ys s) : PS (zs ++ xs) (zs ++ ys) s := by
  induction zs with
  | nil => exact h
  | cons z zs ih => exact .cons z ih
theorem PS.move (x : α) : ∀ (xs ys : List α), PS (x :: xs ++ ys) (xs ++ x :: ys) (sgn xs.length)
  | [], ys => .refl _
  | z :: xs, ys => (PS.trans (.swap x z (xs ++ ys)) (.cons z (PS.move x xs ys))).to (by show -1 * sgn xs.length = - sgn xs.length; omega)
theorem PS.back (x : α) : ∀ (xs ys : List α), PS (xs ++ x :: ys) (x :: xs ++ ys) (sgn xs.length)
  | [], ys => .refl _
  | z :: xs, ys => (PS.trans (.cons z (PS.back x xs ys)) (.swap z x (xs ++ ys))).to (by show sgn xs.length * -1 = - sgn xs.length; omega)
/-- two places exchanged -/
theorem PS.exch (x y : α) (xs ys : List α) : PS (x :: xs ++ y :: ys) (y :: xs ++ x :: ys) (-1) := by
  have h1 : PS (x :: xs ++ y :: ys) (y :: (x :: xs) ++ ys) (sgn (xs.length + 1)) := PS.back y (x :: xs) ys
  have h2 : PS (y :: (x :: xs) ++ ys) (y :: (xs ++ x :: ys)) (sgn xs.length) := .cons y (PS.move x xs ys)
  refine (h1.trans h2).to ?_
  show - sgn xs.length * sgn xs.length = -1
  rw [Int.neg_mul, sgn_sq]
def rsg : Nat → Int
  | 0 => 1
  | n + 1 => sgn n * rsg n
theorem rsg_sq : ∀ n, rsg n * rsg n = 1
  | 0 => rfl
  | n + 1 => by
    show sgn n * rsg n * (sgn n * rsg n) = 1
    have : sgn n * rsg n * (sgn n * rsg n) = (sgn n * sgn n) * (rsg n * rsg n) := by
      rw [Int.mul_assoc, Int.mul_assoc]
      congr 1
      rw [← Int.mul_assoc, ← Int.mul_assoc, Int.mul_comm (rsg n)]
    rw [this, sgn_sq, rsg_sq n]; rfl
theorem PS.rev : ∀ xs : List α, PS xs xs.reverse (rsg xs.length)
  | [] => .nil
  | x :: xs => by
    have h1 : PS (x :: xs) (x :: xs.reverse) (rsg xs.length) := .cons x (PS.rev xs)
    have h2 : PS (x :: xs.reverse) (xs.reverse ++ [x]) (sgn xs.length) := by
      have := PS.move x xs.reverse []
      rw [List.append_nil, List.length_reverse] at this
      exact this
    rw [List.reverse_cons]
    exact (h1.trans h2).to (Int.mul_comm _ _)
theorem det_rev {cs : List β} (h : xs.length = cs.length) : det e xs.reverse cs.reverse = det e xs cs := by
  have h1 := det_ps (e := e) (PS.rev xs) cs
  have h2 := det_ps (e := fun c x => e x c) (PS.rev cs) xs.reverse
  rw [det_tr (e := e) (xs := xs.reverse) (cs := cs)] at h1
  rw [h1, h2, ← det_tr, h, ← Int.mul_assoc, rsg_sq, Int.one_mul]
theorem det_dup : ∀ {xs : List α} {cs : List β}, ¬ xs.Nodup → det e xs cs = 0
  | [], cs, h => absurd List.nodup_nil h
  | x :: xs, cs, h => by
    by_cases hx : x ∈ xs
    · exact det_dupR hx
    · rw [det_row, ds_congr (h := fun _ _ => 0) fun c r => by rw [det_dup (fun q => h (List.nodup_cons.mpr ⟨hx, q⟩)), Int.mul_zero], ds_zero]
theorem det_short : ∀ {cs : List β} {xs : List α}, xs.length ≠ cs.length → det e xs cs = 0
  | [], [], h => absurd rfl h
  | [], x :: xs, h => det_cons_nil
  | c :: cs, [], h => det_nil_cons
  | c :: cs, x :: xs, h => by
    rw [det_col]
    have key : ∀ (xs : List α) (g : α → List α → Int), (∀ y ys, ys.length + 1 = xs.length → g y ys = 0) → ds g xs = 0 := by
      intro xs
      induction xs with
      | nil => intro g _; rfl
      | cons z zs ih =>
        intro g hg
        show g z zs - ds (fun y ys => g y (z :: ys)) zs = 0
        rw [hg z zs rfl, ih _ fun y ys hl => hg y (z :: ys) (by simp only [List.length_cons]; omega)]; rfl
    refine key _ _ fun y ys hl => ?_
    rw [det_short (cs := cs) (xs := ys) (by simp only [List.length_cons] at h hl; omega), Int.mul_zero]
/-- a list without a repeated item, all from another one, is no longer than that -/
theorem nodup_le : ∀ {L zs : List α}, zs.Nodup → (∀ z, z ∈ zs → z ∈ L) → zs.length ≤ L.length
  | [], [], _, _ => Nat.le_refl _
  | [], z :: zs, _, h => absurd (h z (.head _)) (by simp)
  | l :: L, zs, hn, h => by
    by_cases hl : l ∈ zs
    · obtain ⟨p, r, rfl⟩ := List.append_of_mem hl
      have hn2 : (p ++ r).Nodup ∧ l ∉ p ++ r := by
        have := (List.nodup_append.mp hn)
        obtain ⟨a, b, c⟩ := this
        obtain ⟨b1, b2⟩ := List.nodup_cons.mp b
        refine ⟨List.nodup_append.mpr ⟨a, b2, fun x hx y hy => c x hx y (.tail _ hy)⟩, fun q => ?_⟩
        rcases List.mem_append.mp q with q | q
        · exact c l q l (.head _) rfl
        · exact b1 q
      have := nodup_le (L := L) hn2.1 fun z hz => by
        have hz2 : z ∈ p ++ l :: r := by
          rcases List.mem_append.mp hz with q | q
          · exact List.mem_append.mpr (.inl q)
          · exact List.mem_append.mpr (.inr (.tail _ q))
        have := h z hz2
        cases this with
        | head => exact absurd hz hn2.2
        | tail _ q => exact q
      simp only [List.length_append, List.length_cons] at this ⊢
      omega
    · have := nodup_le (L := L) hn fun z hz => by
        have := h z hz
        cases this with
        | head => exact absurd hz hl
        | tail _ q => exact q
      simp only [List.length_cons]; omega
theorem det_pig {L : List α} {cs : List β} (h : ∀ z, z ∈ xs → z ∈ L) (hl : L.length < xs.length) : det e xs cs = 0 :=
  det_dup fun q => by have := nodup_le q h; omega
end
/-! ### the rank -/
/-- r is the size of the greatest minor that is not 0, of rows A and columns B -/
def IsR {α : Type u} {β : Type v} (e : α → β → Int) (A : α → Prop) (B : β → Prop) (r : Nat) : Prop :=
  (∃ xs cs, xs.length = r ∧ cs.length = r ∧ (∀ x, x ∈ xs → A x) ∧ (∀ c, c ∈ cs → B c) ∧ det e xs cs ≠ 0) ∧
  ∀ xs cs, xs.length = r + 1 → (∀ x, x ∈ xs → A x) → (∀ c, c ∈ cs → B c) → det e xs cs = 0
section
variable {α : Type u} {β : Type v} {e : α → β → Int} {A A' : α → Prop} {B B' : β → Prop} {r s : Nat}
theorem IsR.up (h : IsR e A B r) : ∀ (n : Nat) (xs : List α) (cs : List β), xs.length = r + 1 + n → (∀ x, x ∈ xs → A x) → (∀ c, c ∈ cs → B c) → det e xs cs = 0
  | 0, xs, cs, hl, ha, hb => h.2 xs cs hl ha hb
  | n + 1, x :: xs, cs, hl, ha, hb => by
    rw [det_row, ds_mem (h := fun _ _ => 0) fun c r' hc hr _ => by rw [IsR.up h n xs r' (by simp only [List.length_cons] at hl; omega) (fun x hx => ha x (.tail _ hx)) (fun c hc => hb c (hr c hc)), Int.mul_zero], ds_zero]
theorem IsR.uniq (h : IsR e A B r) (g : IsR e A B s) : r = s := by
  have key : ∀ {r s : Nat}, IsR e A B r → IsR e A B s → s ≤ r := fun {r s} h g => by
    obtain ⟨⟨xs, cs, h1, h2, h3, h4, h5⟩, _⟩ := g
    by_cases q : s ≤ r
    · exact q
    · exact absurd (h.up (s - (r + 1)) xs cs (by omega) h3 h4) h5
  exact Nat.le_antisymm (key g h) (key h g)
theorem IsR.tr (h : IsR e A B r) : IsR (fun c x => e x c) B A r := by
  obtain ⟨⟨xs, cs, h1, h2, h3, h4, h5⟩, h6⟩ := h
  refine ⟨⟨cs, xs, h2, h1, h4, h3, by rw [← det_tr]; exact h5⟩, fun cs xs h1 h4 h3 => ?_⟩
  rw [← det_tr]
  by_cases q : xs.length = r + 1
  · exact h6 xs cs q h3 h4
  · exact det_short (by omega)
theorem IsR.iff (h : IsR e A B r) (ha : ∀ x, A x ↔ A' x) (hb : ∀ c, B c ↔ B' c) : IsR e A' B' r := by
  have e1 : A = A' := funext fun x => propext (ha x)
  have e2 : B = B' := funext fun x => propext (hb x)
  subst e1 e2
  exact h
theorem det_zero_mem : ∀ {xs : List α} {cs : List β}, (∃ x, x ∈ xs ∧ ∀ c, c ∈ cs → e x c = 0) → det e xs cs = 0
  | [], cs, ⟨x, h, _⟩ => absurd h (by simp)
  | y :: ys, cs, ⟨x, h, hz⟩ => by
    rw [det_row, ds_mem (h := fun _ _ => 0) fun c r' hc hr _ => ?_, ds_zero]
    cases h with
    | head => rw [hz c hc, Int.zero_mul]
    | tail _ h => rw [det_zero_mem (xs := ys) (cs := r') ⟨x, h, fun c hc => hz c (hr c hc)⟩, Int.mul_zero]
/-- rows without an entry change nothing -/
theorem IsR.zeros (h : IsR e A B r) (ha : ∀ x, A x → A' x) (hz : ∀ x, A' x → A x ∨ ∀ c, B c → e x c = 0) : IsR e A' B r := by
  obtain ⟨⟨xs, cs, h1, h2, h3, h4, h5⟩, h6⟩ := h
  refine ⟨⟨xs, cs, h1, h2, fun x hx => ha x (h3 x hx), h4, h5⟩, fun xs cs h1 h3 h4 => ?_⟩
  by_cases q : ∃ x, x ∈ xs ∧ ∀ c, c ∈ cs → e x c = 0
  · exact det_zero_mem q
  · refine h6 xs cs h1 (fun x hx => (hz x (h3 x hx)).elim id fun z => absurd ⟨x, hx, fun c hc => z c (h4 c hc)⟩ q) h4
end
/-- rows that are combinations of fewer ones -/
theorem dt_combs {β : Type v} {L : List (Row β)} {q : Int} (hq : q ≠ 0) : ∀ {ys zs : List (Row β)} {cs : List β}, (∀ z, z ∈ zs → z ∈ L) → (∀ y, y ∈ ys → ∃ as, (fun c => q * y c) = comb as L) → L.length < zs.length + ys.length → dt (zs ++ ys) cs = 0
  | [], zs, cs, hz, _, hl => by rw [List.append_nil]; exact det_pig hz (by simpa using hl)
  | y :: ys, zs, cs, hz, hy, hl => by
    obtain ⟨as, e⟩ := hy y (.head _)
    have h1 : dt (zs ++ y :: ys) cs = sgn zs.length * dt (y :: zs ++ ys) cs := det_ps (PS.back y zs ys) cs
    have h2 : q * dt (y :: zs ++ ys) cs = 0 := by
      have : dt ((fun c => q * y c) :: (zs ++ ys)) cs = q * dt (y :: (zs ++ ys)) cs := dt_smul
      show q * dt (y :: (zs ++ ys)) cs = 0
      rw [← this, e]
      refine dt_comb0 fun z hz' => ?_
      exact dt_combs hq (ys := ys) (zs := z :: zs) (fun w hw => by
        cases hw with
        | head => exact hz'
        | tail _ hw => exact hz w hw) (fun y hy' => hy y (.tail _ hy')) (by simp only [List.length_cons] at hl ⊢; omega)
    have h3 : dt (y :: zs ++ ys) cs = 0 := (Int.mul_eq_zero.mp h2).resolve_left hq
    rw [h1, h3, Int.mul_zero]
end LA
/-! M3: elimination column by column: borders, up to one factor. -/
namespace LA
theorem comb_neg {β : Type} : ∀ (as : List Int) (L : List (Row β)), comb (as.map fun a => - a) L = fun c => - comb as L c
  | [], L => by cases L <;> rfl
  | _ :: _, [] => rfl
  | a :: as, x :: L => by
    funext c
    show - a * x c + comb (as.map fun a => - a) L c = - (a * x c + comb as L c)
    rw [comb_neg as L, Int.neg_mul]
    show - (a * x c) + - comb as L c = _
    omega
/-- how far an elimination is: t columns are done; Ds the pivot rows, the newest first, Cs their columns, Rest the other rows -/
structure El (A : List (Row Nat)) (w t : Nat) (Ds : List (Row Nat)) (Cs : List Nat) (Rest : List (Row Nat)) (s : Int) : Prop where
  ps : PS A (Ds.reverse ++ Rest) s
  len : Cs.length = Ds.length
  lt : ∀ c, c ∈ Cs → c < t
  dec : Cs.Pairwise fun a b => b < a
  q : dt Ds Cs ≠ 0
  zero : ∀ x, x ∈ Rest → ∀ j, j < t → bor Ds Cs x j = 0
section
variable {A : List (Row Nat)} {w t : Nat} {Ds Rest Rest' : List (Row Nat)} {Cs : List Nat} {s s' : Int} {y : Row Nat}
theorem El.start (A : List (Row Nat)) (w : Nat) : El A w 0 [] [] A 1 :=
  ⟨.refl _, rfl, fun c h => absurd h (by simp), .nil, by show det _ _ _ ≠ 0; rw [det_nil]; decide, fun x _ j h => absurd h (by omega)⟩
theorem El.skip (h : El A w t Ds Cs Rest s) (hz : ∀ x, x ∈ Rest → bor Ds Cs x t = 0) : El A w (t + 1) Ds Cs Rest s :=
  ⟨h.ps, h.len, fun c hc => by have := h.lt c hc; omega, h.dec, h.q, fun x hx j hj => by
    by_cases e : j = t
    · subst e; exact hz x hx
    · exact h.zero x hx j (by omega)⟩
theorem El.pivot (h : El A w t Ds Cs Rest s) (hp : PS Rest (y :: Rest') s') (hy : bor Ds Cs y t ≠ 0) : El A w (t + 1) (y :: Ds) (t :: Cs) Rest' (s * s') := by
  have hh : PS A ((y :: Ds).reverse ++ Rest') (s * s') := by
    rw [List.reverse_cons, List.append_assoc]
    exact h.ps.trans (hp.app Ds.reverse)
  refine ⟨hh, by simp [h.len], fun c hc => ?_, .cons (fun c hc => h.lt c hc) h.dec, hy, fun x hx j hj => ?_⟩
  · cases hc with
    | head => omega
    | tail _ hc => have := h.lt c hc; omega
  · have hxR : x ∈ Rest := (hp.mem x).mpr (.tail _ hx)
    have hyR : y ∈ Rest := (hp.mem y).mpr (.head _)
    have e := syl (y := y) (c := t) (x := x) (j := j) h.q
    by_cases ej : j = t
    · subst ej
      exact bor_in (.head _)
    · rw [h.zero x hxR j (by omega), h.zero y hyR j (by omega)] at e
      have e2 : dt Ds Cs * bor (y :: Ds) (t :: Cs) x j = 0 := by rw [e]; omega
      exact (Int.mul_eq_zero.mp e2).resolve_left h.q
theorem El.rank (h : El A w t Ds Cs Rest s) (ht : w ≤ t) (htw : ∀ c, c ∈ Cs → c < w) (hw : ∀ x, x ∈ A → ∀ j, w ≤ j → x j = 0) : IsR (fun (x : Row Nat) c => x c) (fun x => x ∈ A) (fun c => c < w) Ds.length := by
  have mA : ∀ x, x ∈ A ↔ x ∈ Ds ∨ x ∈ Rest := fun x => by
    rw [h.ps.mem x, List.mem_append, List.mem_reverse]
  refine ⟨⟨Ds, Cs, rfl, h.len, fun x hx => (mA x).mpr (.inl hx), htw, h.q⟩, fun xs cs h1 h2 _ => ?_⟩
  have key : ∀ y, y ∈ xs → ∃ as, (fun c => dt Ds Cs * y c) = comb as Ds := fun y hy => by
    obtain ⟨as, e⟩ := bor_comb Ds Cs y
    have z : ∀ j, bor Ds Cs y j = 0 := fun j => by
      rcases (mA y).mp (h2 y hy) with q | q
      · exact det_dupR q
      · by_cases hj : j < w
        · exact h.zero y q j (by omega)
        · show det _ _ _ = 0
          rw [det_col, ds_mem (h := fun _ _ => 0) fun x r hx _ _ => ?_, ds_zero]
          have hxA : x ∈ A := by
            cases hx with
            | head => exact h2 _ hy
            | tail _ hx => exact (mA x).mpr (.inl hx)
          rw [hw x hxA j (by omega), Int.zero_mul]
    refine ⟨as.map fun a => - a, ?_⟩
    rw [comb_neg]
    funext c
    have e2 : bor Ds Cs y c = dt Ds Cs * y c + comb as Ds c := by rw [e]
    have := z c
    omega
  exact dt_combs h.q (ys := xs) (zs := []) (fun z hz => absurd hz (by simp)) key (by simp only [List.length_nil]; omega)
theorem dec_range : ∀ {n : Nat} {Cs : List Nat}, Cs.Pairwise (fun a b => b < a) → (∀ c, c ∈ Cs → c < n) → Cs.length = n → Cs = (List.range n).reverse
  | 0, [], _, _, _ => rfl
  | n + 1, c :: Cs, hd, hl, hn => by
    obtain ⟨h1, h2⟩ := List.pairwise_cons.mp hd
    have hle : ∀ (k : Nat) (Cs : List Nat), Cs.Pairwise (fun a b => b < a) → (∀ c, c ∈ Cs → c < k) → Cs.length ≤ k := by
      intro k Cs h3
      induction h3 generalizing k with
      | nil => intro _; exact Nat.zero_le _
      | cons h4 h5 ih =>
        intro h6
        have := ih _ fun c hc => h4 c hc
        have h7 := h6 _ (.head _)
        simp only [List.length_cons]; omega
    have h3 := hle c Cs h2 h1
    have h4 := hl c (.head _)
    simp only [List.length_cons] at hn
    have e : c = n := by omega
    subst e
    rw [List.range_succ, List.reverse_append, dec_range h2 h1 (by omega)]; rfl
theorem El.det (h : El A w t Ds Cs Rest s) (ht : w ≤ t) (htw : ∀ c, c ∈ Cs → c < w) (hw : ∀ x, x ∈ A → ∀ j, w ≤ j → x j = 0) (hA : A.length = w) : dt A (List.range w) = if Ds.length = w then s * dt Ds Cs else 0 := by
  have hl := h.ps.len
  rw [List.length_append, List.length_reverse] at hl
  split
  · rename_i e
    have eR : Rest = [] := List.eq_nil_of_length_eq_zero (by omega)
    subst eR
    have h1 := det_ps (e := fun (x : Row Nat) c => x c) h.ps (List.range w)
    have h2 := dec_range h.dec htw (by rw [h.len]; exact e)
    rw [List.append_nil] at h1
    have h3 := det_rev (e := fun (x : Row Nat) c => x c) (xs := Ds) (cs := Cs) h.len.symm
    rw [h2, List.reverse_reverse] at h3
    show LA.det _ _ _ = _
    rw [h1, h3, ← h2]
  · have := (h.rank ht htw hw).up (w - (Ds.length + 1)) A (List.range w) (by omega) (fun x hx => hx) fun c hc => List.mem_range.mp hc
    exact this
end
/-! ### the step on lines -/
/-- the lines that stand for the other rows, up to one factor -/
def linesOf (w : Nat) (l : Int) (Ds : List (Row Nat)) (Cs : List Nat) (Rest : List (Row Nat)) : List (List Int) := Rest.map fun x => (List.range w).map fun j => l * bor Ds Cs x j
theorem linesOf_start (A : List (List Int)) (w : Nat) (h : ∀ x, x ∈ A → x.length = w) : A = linesOf w 1 [] [] (A.map fun x j => x.getD j 0) := by
  unfold linesOf
  rw [List.map_map]
  refine (List.map_id A).symm.trans (List.map_congr_left fun x hx => ?_)
  show x = (List.range w).map fun j => 1 * bor [] [] (fun j => x.getD j 0) j
  have e : ∀ j, bor [] [] (fun j => x.getD j 0) j = x.getD j 0 := fun j => by
    show LA.det _ _ _ = _
    rw [det_col]
    show x.getD j 0 * LA.det _ [] [] - 0 = _
    rw [det_nil]; omega
  refine List.ext_getElem (by rw [List.length_map, List.length_range, h x hx]) fun i h1 h2 => ?_
  rw [List.getElem_map, List.getElem_range, e, Int.one_mul, List.getD_eq_getElem?_getD, List.getElem?_eq_getElem h1]; rfl
end LA
/-! M4: the sum over the first row of lines; turned lines. -/
namespace LA
universe u v
def lsum (g : Nat → Int) : Nat → Int
  | 0 => 0
  | n + 1 => lsum g n + g n
theorem lsum_succ (g : Nat → Int) : ∀ n, lsum g (n + 1) = g 0 + lsum (fun k => g (k + 1)) n
  | 0 => by show 0 + g 0 = g 0 + 0; omega
  | n + 1 => by
    show lsum g (n + 1) + g (n + 1) = g 0 + (lsum (fun k => g (k + 1)) n + g (n + 1))
    rw [lsum_succ g n]; omega
theorem lsum_congr {g h : Nat → Int} : ∀ {n : Nat}, (∀ k, k < n → g k = h k) → lsum g n = lsum h n
  | 0, _ => rfl
  | n + 1, q => by
    show lsum g n + g n = lsum h n + h n
    rw [lsum_congr fun k hk => q k (by omega), q n (by omega)]
theorem lsum_neg (g : Nat → Int) : ∀ n, lsum (fun k => - g k) n = - lsum g n
  | 0 => rfl
  | n + 1 => by
    show lsum (fun k => - g k) n + - g n = - (lsum g n + g n)
    rw [lsum_neg g n]; omega
theorem ds_lsum {α : Type u} [Inhabited α] : ∀ {xs : List α} (g : α → List α → Int), ds g xs = lsum (fun k => sgn k * g (xs.getD k default) (xs.take k ++ xs.drop (k + 1))) xs.length
  | [], g => rfl
  | x :: xs, g => by
    show g x xs - ds (fun y ys => g y (x :: ys)) xs = lsum _ (xs.length + 1)
    rw [lsum_succ, ds_lsum (xs := xs)]
    have e : lsum (fun k => sgn (k + 1) * g ((x :: xs).getD (k + 1) default) ((x :: xs).take (k + 1) ++ (x :: xs).drop (k + 1 + 1))) xs.length = - lsum (fun k => sgn k * g (xs.getD k default) (x :: (xs.take k ++ xs.drop (k + 1)))) xs.length := by
      rw [← lsum_neg]
      refine lsum_congr fun k _ => ?_
      show - sgn k * _ = - (sgn k * _)
      rw [Int.neg_mul]; rfl
    rw [e]
    show g x xs - _ = 1 * g x xs + _
    omega
theorem sgn_mod : ∀ k : Nat, sgn k = 1 - 2 * ((k : Int) % 2)
  | 0 => rfl
  | k + 1 => by
    show - sgn k = _
    rw [sgn_mod k]; omega
/-- the determinant as the law sums it -/
def lap : Nat → List (List Int) → Int
  | 0, _ => 1
  | _ + 1, [] => 1
  | n + 1, l :: ls => lsum (fun k => (1 - 2 * ((k : Int) % 2)) * l.getD k 0 * lap n (ls.map fun line => line.take k ++ line.drop (k + 1))) (n + 1)
theorem lap_dt : ∀ (n : Nat) (rows : List (Row Nat)) (cols : List Nat), rows.length = n → cols.length = n → lap n (rows.map fun x => cols.map x) = dt rows cols
  | 0, [], [], _, _ => by
    show (1 : Int) = det _ _ _
    rw [det_nil]
  | n + 1, x :: xs, cols, h1, h2 => by
    show lsum _ (n + 1) = det _ _ _
    rw [det_row, ds_lsum, h2]
    refine lsum_congr fun k hk => ?_
    have hk2 : k < cols.length := by omega
    have e1 : (cols.map x).getD k 0 = x (cols.getD k default) := by
      rw [List.getD_eq_getElem?_getD, List.getD_eq_getElem?_getD, List.getElem?_map, List.getElem?_eq_getElem hk2]; rfl
    have e2 : ((xs.map fun x => cols.map x).map fun line => line.take k ++ line.drop (k + 1)) = xs.map fun x => (cols.take k ++ cols.drop (k + 1)).map x := by
      rw [List.map_map]
      refine List.map_congr_left fun y _ => ?_
      show (cols.map y).take k ++ (cols.map y).drop (k + 1) = _
      rw [List.map_append, List.map_take, List.map_drop]
    rw [e1, e2, lap_dt n xs (cols.take k ++ cols.drop (k + 1)) (by simpa using h1) (by simp only [List.length_append, List.length_take, List.length_drop]; omega), sgn_mod, Int.mul_assoc]
def rowF (l : List Int) : Row Nat := fun j => l.getD j 0
theorem line_of {l : List Int} {w : Nat} (h : l.length = w) : (List.range w).map (rowF l) = l := by
  refine List.ext_getElem (by rw [List.length_map, List.length_range, h]) fun i h1 h2 => ?_
  rw [List.getElem_map, List.getElem_range]
  show l.getD i 0 = _
  rw [List.getD_eq_getElem?_getD, List.getElem?_eq_getElem h2]; rfl
theorem lines_of {A : List (List Int)} {w : Nat} (h : ∀ x, x ∈ A → x.length = w) : (A.map rowF).map (fun x => (List.range w).map x) = A := by
  rw [List.map_map]
  refine (List.map_congr_left fun x hx => ?_).trans (List.map_id A)
  exact line_of (h x hx)
theorem lap_lines {A : List (List Int)} {n : Nat} (hn : A.length = n) (h : ∀ x, x ∈ A → x.length = n) : lap n A = dt (A.map rowF) (List.range n) := by
  rw [← lap_dt n (A.map rowF) (List.range n) (by rw [List.length_map, hn]) List.length_range, lines_of h]
/-! ### rows by tags -/
theorem det_map {α : Type u} {β : Type v} {γ : Type} (f : γ → α) (e : α → β → Int) : ∀ {cs : List β} {ts : List γ}, det e (ts.map f) cs = det (fun t c => e (f t) c) ts cs
  | [], [] => by rw [List.map_nil, det_nil, det_nil]
  | [], t :: ts => by rw [List.map_cons, det_cons_nil, det_cons_nil]
  | c :: cs, ts => by
    rw [det_col, det_col]
    have key : ∀ (ts : List γ) (g : α → List α → Int) (g' : γ → List γ → Int), (∀ t us, g (f t) (us.map f) = g' t us) → ds g (ts.map f) = ds g' ts := by
      intro ts
      induction ts with
      | nil => intro g g' _; rfl
      | cons t ts ih =>
        intro g g' hg
        show g (f t) (ts.map f) - ds (fun y ys => g y (f t :: ys)) (ts.map f) = g' t ts - ds (fun y ys => g' y (t :: ys)) ts
        rw [hg, ih (fun y ys => g y (f t :: ys)) (fun y ys => g' y (t :: ys)) fun t' us => hg t' (t :: us)]
    exact key _ _ _ fun t us => by rw [det_map f e (cs := cs)]
theorem lift_map {α : Type u} {γ : Type} {f : γ → α} {is : List γ} : ∀ {xs : List α}, (∀ x, x ∈ xs → x ∈ is.map f) → ∃ ts : List γ, xs = ts.map f ∧ ∀ t, t ∈ ts → t ∈ is
  | [], _ => ⟨[], rfl, fun t h => absurd h (by simp)⟩
  | x :: xs, h => by
    obtain ⟨t, ht, rfl⟩ := List.mem_map.mp (h x (.head _))
    obtain ⟨ts, rfl, hts⟩ := lift_map (xs := xs) fun x hx => h x (.tail _ hx)
    exact ⟨t :: ts, rfl, fun u hu => by
      cases hu with
      | head => exact ht
      | tail _ hu => exact hts u hu⟩
theorem isR_map {α : Type u} {β : Type v} {γ : Type} {f : γ → α} {e : α → β → Int} {is : List γ} {B : β → Prop} {r : Nat} : IsR e (fun x => x ∈ is.map f) B r ↔ IsR (fun t c => e (f t) c) (fun t => t ∈ is) B r := by
  constructor
  · rintro ⟨⟨xs, cs, h1, h2, h3, h4, h5⟩, h6⟩
    obtain ⟨ts, rfl, h7⟩ := lift_map h3
    refine ⟨⟨ts, cs, by simpa using h1, h2, h7, h4, by rw [← det_map f e]; exact h5⟩, fun ts cs k1 k2 k3 => ?_⟩
    rw [← det_map f e]
    exact h6 _ cs (by simpa using k1) (fun x hx => by
      obtain ⟨t, ht, rfl⟩ := List.mem_map.mp hx
      exact List.mem_map.mpr ⟨t, k2 t ht, rfl⟩) k3
  · rintro ⟨⟨ts, cs, h1, h2, h3, h4, h5⟩, h6⟩
    refine ⟨⟨ts.map f, cs, by simpa using h1, h2, fun x hx => by
      obtain ⟨t, ht, rfl⟩ := List.mem_map.mp hx
      exact List.mem_map.mpr ⟨t, h3 t ht, rfl⟩, h4, by rw [det_map f e]; exact h5⟩, fun xs cs k1 k2 k3 => ?_⟩
    obtain ⟨ts, rfl, h7⟩ := lift_map k2
    rw [det_map f e]
    exact h6 ts cs (by simpa using k1) h7 k3
/-- the rank of lines of one width -/
def Rk (A : List (List Int)) (w r : Nat) : Prop := IsR (fun (x : Row Nat) c => x c) (fun x => x ∈ A.map rowF) (fun c => c < w) r
def turned (A : List (List Int)) (w : Nat) : List (List Int) := (List.range w).map fun t => A.map fun l => l.getD t 0
theorem Rk.uniq {A : List (List Int)} {w r s : Nat} (h : Rk A w r) (g : Rk A w s) : r = s := IsR.uniq h g
theorem rowF_map {α : Type} {f : α → Int} {xs : List α} {k : Nat} (h : k < xs.length) : rowF (xs.map f) k = f (xs[k]) := by
  show (xs.map f).getD k 0 = _
  rw [List.getD_eq_getElem?_getD, List.getElem?_map, List.getElem?_eq_getElem h]; rfl
theorem Rk.turn {A : List (List Int)} {w r : Nat} (h : Rk A w r) : Rk (turned A w) A.length r := by
  have eA : A.map rowF = (List.range A.length).map fun k => rowF (A.getD k []) := by
    refine List.ext_getElem (by simp) fun i h1 h2 => ?_
    rw [List.getElem_map, List.getElem_map, List.getElem_range, List.getD_eq_getElem?_getD, List.getElem?_eq_getElem (by simpa using h1)]; rfl
  unfold Rk at h
  rw [eA] at h
  have h1 := (isR_map (e := fun (x : Row Nat) c => x c)).mp h
  have h2 := h1.tr
  unfold Rk turned
  rw [List.map_map]
  refine isR_map.mpr ?_
  have e : ∀ (t k : Nat), t ∈ List.range w → k < A.length → (rowF ∘ fun t => A.map fun l => l.getD t 0) t k = rowF (A.getD k []) t := fun t k _ hk => by
    show rowF (A.map fun l => l.getD t 0) k = _
    rw [rowF_map hk]
    have : A.getD k [] = A[k] := by rw [List.getD_eq_getElem?_getD, List.getElem?_eq_getElem hk]; rfl
    rw [this]; rfl
  have key : ∀ (ts : List Nat) (cs : List Nat), (∀ t, t ∈ ts → t ∈ List.range w) → (∀ c, c ∈ cs → c < A.length) → det (fun t c => (rowF ∘ fun t => A.map fun l => l.getD t 0) t c) ts cs = det (fun c x => rowF (A.getD x []) c) ts cs := by
    intro ts
    induction ts with
    | nil => intro cs _ _; cases cs with
      | nil => rw [det_nil, det_nil]
      | cons c cs => rw [det_nil_cons, det_nil_cons]
    | cons t ts ih =>
      intro cs ht hc
      rw [det_row, det_row]
      exact ds_mem fun c r hcm hr _ => by rw [e t c (ht t (.head _)) (hc c hcm), ih r (fun t h => ht t (.tail _ h)) fun c h => hc c (hr c h)]
  have h3 := h2.iff (A' := fun t => t ∈ List.range w) (B' := fun c => c < A.length) (fun x => by rw [List.mem_range]) (fun c => by rw [List.mem_range])
  obtain ⟨⟨xs, cs, k1, k2, k3, k4, k5⟩, k6⟩ := h3
  exact ⟨⟨xs, cs, k1, k2, k3, k4, by rw [key xs cs k3 k4]; exact k5⟩, fun xs cs l1 l2 l3 => by rw [key xs cs l2 l3]; exact k6 xs cs l1 l2 l3⟩
theorem lap_turned {A : List (List Int)} {n : Nat} (hn : A.length = n) (h : ∀ x, x ∈ A → x.length = n) : lap n (turned A n) = lap n A := by
  have l1 : (turned A n).length = n := by simp [turned]
  have l2 : ∀ x, x ∈ turned A n → x.length = n := fun x hx => by
    obtain ⟨t, _, rfl⟩ := List.mem_map.mp hx
    rw [List.length_map, hn]
  rw [lap_lines l1 l2, lap_lines hn h]
  have eA : A.map rowF = (List.range n).map fun k => rowF (A.getD k []) := by
    refine List.ext_getElem (by simp [hn]) fun i h1 h2 => ?_
    rw [List.getElem_map, List.getElem_map, List.getElem_range, List.getD_eq_getElem?_getD, List.getElem?_eq_getElem (by simpa using h1)]; rfl
  show det _ _ _ = det _ _ _
  rw [eA, det_map (fun k => rowF (A.getD k [])) (fun (x : Row Nat) c => x c), det_tr (e := fun t c => rowF (A.getD t []) c)]
  unfold turned
  rw [List.map_map, det_map _ (fun (x : Row Nat) c => x c)]
  have e : ∀ (t k : Nat), k < n → (rowF ∘ fun t => A.map fun l => l.getD t 0) t k = rowF (A.getD k []) t := fun t k hk => by
    show rowF (A.map fun l => l.getD t 0) k = _
    have hk2 : k < A.length := by omega
    rw [rowF_map hk2]
    have : A.getD k [] = A[k] := by rw [List.getD_eq_getElem?_getD, List.getElem?_eq_getElem hk2]; rfl
    rw [this]; rfl
  have key : ∀ (ts : List Nat) (cs : List Nat), (∀ c, c ∈ cs → c < n) → det (fun t c => (rowF ∘ fun t => A.map fun l => l.getD t 0) t c) ts cs = det (fun c x => rowF (A.getD x []) c) ts cs := by
    intro ts
    induction ts with
    | nil => intro cs _; cases cs with
      | nil => rw [det_nil, det_nil]
      | cons c cs => rw [det_nil_cons, det_nil_cons]
    | cons t ts ih =>
      intro cs hc
      rw [det_row, det_row]
      exact ds_mem fun c r hcm hr _ => by rw [e t c (hc c hcm), ih r fun c h => hc c (hr c h)]
  exact key _ _ fun c hc => List.mem_range.mp hc
end LA
/-! M5: bounds of minors; the steps of both eliminations on lines. -/
namespace LA
universe u v
section
variable {α : Type u} {β : Type v} {e : α → β → Int}
theorem ds_abs {g : α → List α → Int} {B : Nat} : ∀ {xs : List α}, (∀ y ys, y ∈ xs → (∀ z, z ∈ ys → z ∈ xs) → ys.length + 1 = xs.length → (g y ys).natAbs ≤ B) → (ds g xs).natAbs ≤ xs.length * B
  | [], _ => by show (0 : Int).natAbs ≤ _; simp
  | x :: xs, h => by
    have h1 := h x xs (.head _) (fun z hz => .tail _ hz) rfl
    have h2 := ds_abs (g := fun y ys => g y (x :: ys)) (B := B) (xs := xs) fun y ys hy hz hl => h y (x :: ys) (.tail _ hy) (fun z hz' => by
      cases hz' with
      | head => exact .head _
      | tail _ q => exact .tail _ (hz z q)) (by simp only [List.length_cons]; omega)
    show (g x xs - ds (fun y ys => g y (x :: ys)) xs).natAbs ≤ (xs.length + 1) * B
    have h3 : (g x xs - ds (fun y ys => g y (x :: ys)) xs).natAbs ≤ (g x xs).natAbs + (ds (fun y ys => g y (x :: ys)) xs).natAbs := by omega
    rw [Nat.add_mul, Nat.one_mul]
    omega
def bnd (M : Nat) : Nat → Nat
  | 0 => 1
  | n + 1 => (n + 1) * (M * bnd M n)
theorem det_abs {M : Nat} : ∀ {cs : List β} {xs : List α}, (∀ x, x ∈ xs → ∀ c, c ∈ cs → (e x c).natAbs ≤ M) → (det e xs cs).natAbs ≤ bnd M xs.length
  | [], [], _ => by rw [det_nil]; exact Nat.le_refl _
  | [], x :: xs, _ => by rw [det_cons_nil]; exact Nat.zero_le _
  | c :: cs, [], _ => by rw [det_nil_cons]; exact Nat.zero_le _
  | c :: cs, x :: xs, h => by
    rw [det_col]
    refine ds_abs fun y ys hy hz hl => ?_
    have h1 := det_abs (cs := cs) (xs := ys) fun x hx c' hc => h x (hz x hx) c' (.tail _ hc)
    have h2 : ys.length = xs.length := by simp only [List.length_cons] at hl; omega
    rw [h2] at h1
    rw [Int.natAbs_mul]
    exact Nat.mul_le_mul (h y hy c (.head _)) h1
theorem bnd_pow {a : Nat} : ∀ {n : Nat}, n ≤ 8 → bnd (2 ^ a) n ≤ 2 ^ (n * (a + 3))
  | 0, _ => by simp [bnd]
  | n + 1, h => by
    have ih := bnd_pow (a := a) (n := n) (by omega)
    have e : 2 ^ ((n + 1) * (a + 3)) = 2 ^ 3 * (2 ^ a * 2 ^ (n * (a + 3))) := by
      rw [← Nat.pow_add, ← Nat.pow_add]
      congr 1
      rw [Nat.add_mul]; omega
    rw [e]
    exact Nat.mul_le_mul (by omega) (Nat.mul_le_mul (Nat.le_refl _) ih)
end
/-- a pivot, a border: at most n rows of entries of at most a bits -/
theorem dt_bits {a n : Nat} {xs : List (Row Nat)} {cs : List Nat} (h : ∀ x, x ∈ xs → ∀ c, (x c).natAbs ≤ 2 ^ a) (hl : xs.length ≤ n) (hn : n ≤ 8) : (dt xs cs).natAbs ≤ 2 ^ (n * (a + 3)) := by
  have h1 : (dt xs cs).natAbs ≤ bnd (2 ^ a) xs.length := det_abs fun x hx c _ => h x hx c
  have h2 := bnd_pow (a := a) (n := xs.length) (by omega)
  have h3 : 2 ^ (xs.length * (a + 3)) ≤ 2 ^ (n * (a + 3)) := Nat.pow_le_pow_right (by omega) (Nat.mul_le_mul_right _ hl)
  omega
section
variable {A Ds Rest Rest' : List (Row Nat)} {Cs : List Nat} {w t : Nat} {s l : Int} {x y : Row Nat}
/-- what a line of the others says at a column -/
def bl (w : Nat) (l : Int) (Ds : List (Row Nat)) (Cs : List Nat) (x : Row Nat) : List Int := (List.range w).map fun j => l * bor Ds Cs x j
theorem bl_len : (bl w l Ds Cs x).length = w := by simp [bl]
theorem bl_at {j : Nat} (h : j < w) : (bl w l Ds Cs x).getD j 0 = l * bor Ds Cs x j := by
  show ((List.range w).map _).getD j 0 = _
  rw [List.getD_eq_getElem?_getD, List.getElem?_map, List.getElem?_range h]; rfl
/-- the program's step: exact -/
theorem step_div (hq : dt Ds Cs ≠ 0) : (List.zip (bl w 1 Ds Cs x) (bl w 1 Ds Cs y)).map (fun p => (bor Ds Cs y t * p.1 - bor Ds Cs x t * p.2).fdiv (dt Ds Cs)) = bl w 1 (y :: Ds) (t :: Cs) x := by
  unfold bl
  rw [List.zip_map, List.map_map]
  refine List.ext_getElem (by simp) fun i h1 h2 => ?_
  have e := syl (y := y) (c := t) (x := x) (j := i) hq
  have hi : i < w := by simpa using h2
  have z : (bor Ds Cs y t * (1 * bor Ds Cs x i) - bor Ds Cs x t * (1 * bor Ds Cs y i)).fdiv (dt Ds Cs) = 1 * bor (y :: Ds) (t :: Cs) x i := by
    rw [Int.one_mul, Int.one_mul, Int.one_mul, Int.mul_comm (bor Ds Cs y t), ← e]
    exact Int.mul_fdiv_cancel_left _ hq
  simp only [List.getElem_map, List.getElem_zip, List.getElem_range, Function.comp, Prod.map]
  exact z
/-- the law's step: one more factor -/
theorem step_mul (hq : dt Ds Cs ≠ 0) : (List.zip (bl w l Ds Cs x) (bl w l Ds Cs y)).map (fun p => (l * bor Ds Cs y t) * p.1 - (l * bor Ds Cs x t) * p.2) = bl w (l * l * dt Ds Cs) (y :: Ds) (t :: Cs) x := by
  unfold bl
  rw [List.zip_map, List.map_map]
  refine List.ext_getElem (by simp) fun i h1 h2 => ?_
  have e := syl (y := y) (c := t) (x := x) (j := i) hq
  have z : (l * bor Ds Cs y t) * (l * bor Ds Cs x i) - (l * bor Ds Cs x t) * (l * bor Ds Cs y i) = l * l * dt Ds Cs * bor (y :: Ds) (t :: Cs) x i := by
    rw [Int.mul_assoc (l * l), e, Int.mul_sub]
    congr 1
    · rw [Int.mul_assoc l, Int.mul_assoc l l]
      congr 1
      rw [← Int.mul_assoc, Int.mul_comm _ l, Int.mul_assoc, Int.mul_comm (bor Ds Cs y t)]
    · rw [Int.mul_assoc l, Int.mul_assoc l l]
      congr 1
      rw [← Int.mul_assoc, Int.mul_comm _ l, Int.mul_assoc]
  simp only [List.getElem_map, List.getElem_zip, List.getElem_range, Function.comp, Prod.map]
  exact z
end
end LA
/-! J2: the defs of k30 as forms, and their table. -/
namespace K30
open PySem L2 DL RL PyProof.Rows
def top (i : Nat) : Stmt := PySem.Challenge.pw_nearseats_k30_determinants_and_ranks.main.body.getD i (.Pass ⟨0, 0, 0, 0⟩)
def cls0 (x : Str) : Option Nat := none
def cs_independent_rows : CS := (.seq (.ret (.idx (.call 2 (.cons (.var 0) .nil)) (.cst (.int (0))))) .nil)
def cs_determinant : CS := (.seq (.setTp [1, 2] (.call 2 (.cons (.var 0) .nil))) (.seq (.ret (.ite (.cmp .Eq (.var 1) (.fn .len (.var 0))) (.var 2) (.cst (.int (0))))) .nil))
def cs__eliminated_e0 : CE := (.var 7)
def cs__eliminated_t0 : CE := (.cmp .NotEq (.idx (.idx (.var 1) (.var 7)) (.var 5)) (.cst (.int (0))))
def cs__eliminated_e1 : CE := (.bin .FloorDiv (.bin .Sub (.bin .Mult (.idx (.var 8) (.var 5)) (.var 9)) (.bin .Mult (.idx (.idx (.var 1) (.var 7)) (.var 5)) (.var 10))) (.var 3))
def cs__eliminated_f0 : CS := (.seq (.setIx 1 (.var 7) (.comp cs__eliminated_e1 (.wzip (.idx (.var 1) (.var 7)) (.var 8)) (.tp [9, 10]) [9, 10])) .nil)
def cs__eliminated_f1 : CS := (.seq (.set true 6 (.compI cs__eliminated_e0 cs__eliminated_t0 (.wrange2 (.var 2) (.fn .len (.var 1))) (.nm 7) [7])) (.seq (.ife (.var 6) (.seq (.ife (.cmp .NotEq (.idx (.var 6) (.cst (.int (0)))) (.var 2)) (.seq (.swp 1 (.var 2) (.idx (.var 6) (.cst (.int (0)))) (.tup (.cons (.idx (.var 1) (.idx (.var 6) (.cst (.int (0))))) (.cons (.idx (.var 1) (.var 2)) .nil)))) (.seq (.set true 4 (.neg (.var 4))) .nil)) .nil) (.seq (.set true 8 (.idx (.var 1) (.var 2))) (.seq (.for (.nm 7) (.wrange2 (.bin .Add (.var 2) (.cst (.int (1)))) (.fn .len (.var 1))) cs__eliminated_f0) (.seq (.set true 3 (.idx (.var 8) (.var 5))) (.seq (.aug 2 (.cst (.int (1)))) .nil))))) .nil) .nil))
def cs__eliminated : CS := (.seq (.set false 1 (.fn .list (.var 0))) (.seq (.set true 2 (.cst (.int (0)))) (.seq (.set true 3 (.cst (.int (1)))) (.seq (.set true 4 (.cst (.int (1)))) (.seq (.for (.nm 5) (.wrange (.ite (.var 1) (.fn .len (.idx (.var 1) (.cst (.int (0))))) (.cst (.int (0))))) cs__eliminated_f1) (.seq (.ret (.tup (.cons (.var 2) (.cons (.bin .Mult (.var 4) (.var 3)) .nil)))) .nil))))))
def cs__law_bag_f0 : CS := (.seq (.set true 1 (.bin .Mod (.fn .int (.bin .Add (.bin .Add (.bin .Mult (.var 1) (.cst (.int (69069)))) (.bin .Mult (.bin .Mod (.fn .int (.var 2)) (.cst (.int (2147483563)))) (.cst (.int (3))))) (.cst (.int (41))))) (.cst (.int (2147483579))))) .nil)
def cs__law_bag : CS := (.seq (.set true 1 (.cst (.int (13976)))) (.seq (.for (.nm 2) (.one (.sl (.var 0) .nil (.one (.cst (.int (63)))))) cs__law_bag_f0) (.seq (.ret (.lst (.cons (.fn .list (.sl (.var 0) .nil (.one (.cst (.int (63)))))) (.cons (.cst (.int (0))) (.cons (.cst (.int (0))) (.cons (.var 1) (.cons (.cst (.int (0))) .nil))))))) .nil)))
def cs__law_draw : CS := (.seq (.setIx 0 (.cst (.int (4))) (.bin .Add (.idx (.var 0) (.cst (.int (4)))) (.cst (.int (1))))) (.seq (.ife (.conj (.cmp .Eq (.idx (.var 0) (.cst (.int (2)))) (.cst (.int (0)))) (.one (.cmp .Lt (.idx (.var 0) (.cst (.int (1)))) (.fn .len (.idx (.var 0) (.cst (.int (0)))))))) (.seq (.set true 2 (.idx (.idx (.var 0) (.cst (.int (0)))) (.idx (.var 0) (.cst (.int (1)))))) (.seq (.setIx 0 (.cst (.int (1))) (.bin .Add (.idx (.var 0) (.cst (.int (1)))) (.cst (.int (1))))) (.seq (.ife (.cmp .GtE (.var 2) (.bin .Pow (.cst (.int (10))) (.cst (.int (18))))) (.seq (.setIx 0 (.cst (.int (2))) (.var 2)) .nil) (.seq (.setIx 0 (.cst (.int (3))) (.bin .Mod (.fn .int (.bin .Add (.bin .Add (.bin .Mult (.idx (.var 0) (.cst (.int (3)))) (.cst (.int (69621)))) (.bin .Mult (.bin .Mod (.fn .int (.var 2)) (.cst (.int (2147483549)))) (.cst (.int (30103))))) (.cst (.int (97))))) (.cst (.int (2147483579))))) .nil)) .nil))) .nil) (.seq (.ife (.cmp .Gt (.idx (.var 0) (.cst (.int (2)))) (.cst (.int (0)))) (.seq (.set true 3 (.bin .Mod (.fn .int (.idx (.var 0) (.cst (.int (2))))) (.var 1))) (.seq (.setIx 0 (.cst (.int (2))) (.bin .FloorDiv (.idx (.var 0) (.cst (.int (2)))) (.var 1))) (.seq (.ret (.var 3)) .nil))) .nil) (.seq (.setIx 0 (.cst (.int (3))) (.bin .Mod (.fn .int (.bin .Add (.bin .Add (.bin .Pow (.idx (.var 0) (.cst (.int (3)))) (.cst (.int (3)))) (.bin .Mult (.idx (.var 0) (.cst (.int (4)))) (.cst (.int (1299709))))) (.cst (.int (60013))))) (.cst (.int (2147483579))))) (.seq (.ret (.bin .Mod (.fn .int (.bin .Add (.bin .FloorDiv (.idx (.var 0) (.cst (.int (3)))) (.cst (.int (97)))) (.bin .Mult (.bin .Mod (.fn .int (.idx (.var 0) (.cst (.int (3))))) (.cst (.int (7901)))) (.cst (.int (67)))))) (.var 1))) .nil)))))
def cs__law_of : CS := (.seq (.ret (.idx (.var 1) (.call 4 (.cons (.var 0) (.cons (.fn .len (.var 1)) .nil))))) .nil)
def cs__law_mixed_f0 : CS := (.seq (.expr (.ins 2 (.call 4 (.cons (.var 0) (.cons (.bin .Add (.fn .len (.var 2)) (.cst (.int (1)))) .nil))) (.var 3))) .nil)
def cs__law_mixed : CS := (.seq (.set false 2 (.lst .nil)) (.seq (.for (.nm 3) (.one (.var 1)) cs__law_mixed_f0) (.seq (.ret (.var 2)) .nil)))
def cs__law_like_e0 : CE := (.call 7 (.cons (.var 2) (.cons (.var 3) .nil)))
def cs__law_like : CS := (.seq (.ife (.isi (.var 1) ["list", "tuple"]) (.seq (.ife (.disj (.cmp .NotEq (.isi (.var 0) ["list"]) (.isi (.var 1) ["list"])) (.one (.cmp .NotEq (.isi (.var 0) ["tuple"]) (.isi (.var 1) ["tuple"])))) (.seq (.ret (.cst (.bl false))) .nil) .nil) (.seq (.ret (.conj (.cmp .Eq (.fn .len (.var 0)) (.fn .len (.var 1))) (.one (.fn .all (.comp cs__law_like_e0 (.wzip (.var 0) (.var 1)) (.tp [2, 3]) [2, 3]))))) .nil)) .nil) (.seq (.ife (.disj (.cmp .Is (.var 1) (.cst .non)) (.one (.cmp .Is (.var 0) (.cst .non)))) (.seq (.ret (.conj (.cmp .Is (.var 1) (.cst .non)) (.one (.cmp .Is (.var 0) (.cst .non))))) .nil) .nil) (.seq (.ife (.disj (.isi (.var 0) ["list", "tuple"]) (.one (.cmp .NotEq (.isi (.var 0) ["bool"]) (.isi (.var 1) ["bool"])))) (.seq (.ret (.cst (.bl false))) .nil) .nil) (.seq (.ife (.disj (.cmp .NotEq (.isi (.var 0) ["str"]) (.isi (.var 1) ["str"])) (.one (.cmp .NotEq (.isi (.var 0) ["int"]) (.isi (.var 1) ["int"])))) (.seq (.ret (.cst (.bl false))) .nil) .nil) (.seq (.ret (.cmp .Eq (.var 0) (.var 1))) .nil)))))
def cs__law_det_e0 : CE := (.bin .Add (.sl (.var 3) .nil (.one (.var 2))) (.sl (.var 3) (.one (.bin .Add (.var 2) (.cst (.int (1))))) .nil))
def cs__law_det_f0 : CS := (.seq (.ife (.cmp .NotEq (.idx (.idx (.var 0) (.cst (.int (0)))) (.var 2)) (.cst (.int (0)))) (.seq (.set true 1 (.bin .Add (.var 1) (.bin .Mult (.bin .Mult (.bin .Sub (.cst (.int (1))) (.bin .Mult (.cst (.int (2))) (.bin .Mod (.fn .int (.var 2)) (.cst (.int (2)))))) (.idx (.idx (.var 0) (.cst (.int (0)))) (.var 2))) (.call 8 (.cons (.comp cs__law_det_e0 (.one (.sl (.var 0) (.one (.cst (.int (1)))) .nil)) (.nm 3) [3]) .nil))))) .nil) .nil) .nil)
def cs__law_det : CS := (.seq (.ife (.cmp .Eq (.var 0) (.lst .nil)) (.seq (.ret (.cst (.int (1)))) .nil) .nil) (.seq (.set true 1 (.cst (.int (0)))) (.seq (.for (.nm 2) (.wrange (.fn .len (.var 0))) cs__law_det_f0) (.seq (.ret (.var 1)) .nil))))
def cs__law_number : CS := (.seq (.set true 2 (.call 4 (.cons (.var 0) (.cons (.cst (.int (8))) .nil)))) (.seq (.ife (.cmp .Lt (.var 2) (.cst (.int (2)))) (.seq (.ret (.cst (.int (0)))) .nil) .nil) (.seq (.ife (.conj (.var 1) (.one (.cmp .Lt (.var 2) (.cst (.int (6)))))) (.seq (.set true 3 (.bin .Add (.bin .Add (.bin .Mult (.call 4 (.cons (.var 0) (.cons (.bin .Pow (.cst (.int (10))) (.cst (.int (7)))) .nil))) (.bin .Pow (.cst (.int (10))) (.cst (.int (14))))) (.bin .Mult (.call 4 (.cons (.var 0) (.cons (.bin .Pow (.cst (.int (10))) (.cst (.int (7)))) .nil))) (.bin .Pow (.cst (.int (10))) (.cst (.int (7)))))) (.call 4 (.cons (.var 0) (.cons (.bin .Pow (.cst (.int (10))) (.cst (.int (7)))) .nil))))) (.seq (.ret (.ite (.cmp .Lt (.var 2) (.cst (.int (4)))) (.var 3) (.bin .Sub (.cst (.int (0))) (.var 3)))) .nil)) .nil) (.seq (.ret (.bin .Sub (.call 4 (.cons (.var 0) (.cons (.cst (.int (7))) .nil))) (.cst (.int (3))))) .nil))))
def cs__law_numbers_e0 : CE := (.bin .Add (.bin .Mult (.var 9) (.var 11)) (.bin .Mult (.var 10) (.var 12)))
def cs__law_numbers_e1 : CE := (.call 9 (.cons (.var 0) (.cons (.var 3) .nil)))
def cs__law_numbers_f0 : CS := (.seq (.set true 6 (.call 4 (.cons (.var 0) (.cons (.cst (.int (8))) .nil)))) (.seq (.ife (.conj (.cmp .Eq (.var 6) (.cst (.int (0)))) (.one (.cmp .Gt (.var 5) (.cst (.int (1)))))) (.seq (.set2 7 8 (.call 5 (.cons (.var 0) (.cons (.var 4) .nil))) (.call 5 (.cons (.var 0) (.cons (.var 4) .nil)))) (.seq (.setTp [9, 10] (.tup (.cons (.call 9 (.cons (.var 0) (.cons (.var 3) .nil))) (.cons (.call 9 (.cons (.var 0) (.cons (.var 3) .nil))) .nil)))) (.seq (.expr (.app 4 (.comp cs__law_numbers_e0 (.wzip (.var 7) (.var 8)) (.tp [11, 12]) [11, 12]))) .nil))) (.seq (.ife (.conj (.cmp .Eq (.var 6) (.cst (.int (1)))) (.one (.cmp .Gt (.var 5) (.cst (.int (0)))))) (.seq (.expr (.app 4 (.fn .list (.call 5 (.cons (.var 0) (.cons (.var 4) .nil)))))) .nil) (.seq (.ife (.conj (.cmp .Eq (.var 6) (.cst (.int (2)))) (.one (.cmp .Eq (.call 4 (.cons (.var 0) (.cons (.cst (.int (3))) .nil))) (.cst (.int (0)))))) (.seq (.expr (.app 4 (.bin .Mult (.lst (.cons (.cst (.int (0))) .nil)) (.var 2)))) .nil) (.seq (.expr (.app 4 (.comp cs__law_numbers_e1 (.wrange (.var 2)) (.nm 13) [13]))) .nil)) .nil)) .nil)) .nil))
def cs__law_numbers_e2 : CE := (.bin .Add (.bin .Add (.sl (.var 15) .nil (.one (.var 14))) (.lst (.cons (.cst (.int (0))) .nil))) (.sl (.var 15) (.one (.bin .Add (.var 14) (.cst (.int (1))))) .nil))
def cs__law_numbers : CS := (.seq (.set true 3 (.cmp .Eq (.call 4 (.cons (.var 0) (.cons (.cst (.int (4))) .nil))) (.cst (.int (0))))) (.seq (.set false 4 (.lst .nil)) (.seq (.for (.nm 5) (.wrange (.var 1)) cs__law_numbers_f0) (.seq (.ife (.conj (.cmp .Gt (.var 2) (.cst (.int (0)))) (.one (.cmp .Eq (.call 4 (.cons (.var 0) (.cons (.cst (.int (8))) .nil))) (.cst (.int (0)))))) (.seq (.set true 14 (.call 4 (.cons (.var 0) (.cons (.var 2) .nil)))) (.seq (.set false 4 (.comp cs__law_numbers_e2 (.one (.var 4)) (.nm 15) [15])) .nil)) .nil) (.seq (.ret (.call 6 (.cons (.var 0) (.cons (.var 4) .nil)))) .nil)))))
def cs__law_turned_e0 : CE := (.idx (.var 2) (.var 3))
def cs__law_turned_e1 : CE := (.comp cs__law_turned_e0 (.one (.var 0)) (.nm 2) [2])
def cs__law_turned : CS := (.seq (.ret (.comp cs__law_turned_e1 (.wrange (.var 1)) (.nm 3) [3])) .nil)
def cs__law_count_e0 : CE := (.fn .list (.var 3))
def cs__law_count_e1 : CE := (.var 6)
def cs__law_count_t0 : CE := (.cmp .NotEq (.idx (.idx (.var 1) (.var 6)) (.var 4)) (.cst (.int (0))))
def cs__law_count_e2 : CE := (.bin .Sub (.bin .Mult (.var 7) (.var 9)) (.bin .Mult (.var 8) (.var 10)))
def cs__law_count_f0 : CS := (.seq (.setTp [7, 8] (.tup (.cons (.idx (.idx (.var 1) (.var 2)) (.var 4)) (.cons (.idx (.idx (.var 1) (.var 6)) (.var 4)) .nil)))) (.seq (.setIx 1 (.var 6) (.comp cs__law_count_e2 (.wzip (.idx (.var 1) (.var 6)) (.idx (.var 1) (.var 2))) (.tp [9, 10]) [9, 10])) .nil))
def cs__law_count_f1 : CS := (.seq (.set true 5 (.compI cs__law_count_e1 cs__law_count_t0 (.wrange2 (.var 2) (.fn .len (.var 1))) (.nm 6) [6])) (.seq (.ife (.nem 5) (.seq (.expr (.ins 1 (.var 2) (.pop 1 (.idx (.var 5) (.cst (.int (0))))))) (.seq (.for (.nm 6) (.wrange2 (.bin .Add (.var 2) (.cst (.int (1)))) (.fn .len (.var 1))) cs__law_count_f0) (.seq (.set true 2 (.bin .Add (.var 2) (.cst (.int (1))))) .nil))) .nil) .nil))
def cs__law_count : CS := (.seq (.set2o 1 2 (.comp cs__law_count_e0 (.one (.var 0)) (.nm 3) [3]) (0)) (.seq (.for (.nm 4) (.wrange (.ite (.nem 1) (.fn .len (.idx (.var 1) (.cst (.int (0))))) (.cst (.int (0))))) cs__law_count_f1) (.seq (.ret (.var 2)) .nil)))
def cs__law_square_so_e0 : CE := (.fn .list (.var 5))
def cs__law_square_so_e1 : CE := (.fn .tuple (.var 5))
def cs__law_square_so : CS := (.seq (.set2 2 3 (.fn .len (.var 1)) (.call 8 (.cons (.var 1) .nil))) (.seq (.set false 4 (.comp cs__law_square_so_e0 (.one (.var 1)) (.nm 5) [5])) (.seq (.ife (.disj (.no (.call 7 (.cons (.call 1 (.cons (.var 4) .nil)) (.cons (.var 3) .nil)))) (.one (.no (.call 7 (.cons (.var 4) (.cons (.var 1) .nil)))))) (.seq (.ret (.cst (.bl false))) .nil) .nil) (.seq (.ife (.no (.call 7 (.cons (.call 1 (.cons (.fn .tuple (.comp cs__law_square_so_e1 (.one (.call 11 (.cons (.var 1) (.cons (.var 2) .nil)))) (.nm 5) [5])) .nil)) (.cons (.var 3) .nil)))) (.seq (.ret (.cst (.bl false))) .nil) .nil) (.seq (.ife (.cmp .Gt (.var 2) (.cst (.int (1)))) (.seq (.set true 6 (.call 4 (.cons (.var 0) (.cons (.var 2) .nil)))) (.seq (.set true 7 (.bin .Mod (.fn .int (.bin .Add (.bin .Add (.var 6) (.cst (.int (1)))) (.call 4 (.cons (.var 0) (.cons (.bin .Sub (.var 2) (.cst (.int (1)))) .nil))))) (.var 2))) (.seq (.swp 4 (.var 6) (.var 7) (.tup (.cons (.idx (.var 4) (.var 7)) (.cons (.idx (.var 4) (.var 6)) .nil)))) (.seq (.ife (.no (.call 7 (.cons (.call 1 (.cons (.var 4) .nil)) (.cons (.bin .Sub (.cst (.int (0))) (.var 3)) .nil)))) (.seq (.ret (.cst (.bl false))) .nil) .nil) .nil)))) .nil) (.seq (.set true 8 (.cmp .Eq (.call 0 (.cons (.var 1) .nil)) (.var 2))) (.seq (.ret (.conj (.cmp .Eq (.var 8) (.cmp .NotEq (.var 3) (.cst (.int (0))))) (.one (.call 7 (.cons (.call 0 (.cons (.var 4) .nil)) (.cons (.call 12 (.cons (.var 1) .nil)) .nil)))))) .nil)))))))
def cs_law_e0 : CE := (.fn .list (.var 8))
def cs_law_f0 : CS := (.seq (.set true 3 (.call 5 (.cons (.var 1) (.cons (.lst (.cons (.cst (.int (2))) (.cons (.cst (.int (3))) (.cons (.cst (.int (4))) (.cons (.cst (.int (1))) (.cons (.cst (.int (3))) (.cons (.cst (.int (5))) .nil))))))) .nil)))) (.seq (.set true 4 (.call 10 (.cons (.var 1) (.cons (.var 3) (.cons (.var 3) .nil))))) (.seq (.ife (.no (.call 13 (.cons (.var 1) (.cons (.var 4) .nil)))) (.seq (.ret (.cst (.bl false))) .nil) .nil) (.seq (.set2 5 3 (.call 4 (.cons (.var 1) (.cons (.cst (.int (7))) .nil))) (.call 5 (.cons (.var 1) (.cons (.lst (.cons (.cst (.int (3))) (.cons (.cst (.int (4))) (.cons (.cst (.int (2))) (.cons (.cst (.int (5))) (.cons (.cst (.int (6))) (.cons (.cst (.int (1))) (.cons (.cst (.int (0))) .nil)))))))) .nil)))) (.seq (.set true 6 (.call 10 (.cons (.var 1) (.cons (.var 5) (.cons (.var 3) .nil))))) (.seq (.set true 7 (.comp cs_law_e0 (.one (.var 6)) (.nm 8) [8])) (.seq (.set true 9 (.call 12 (.cons (.var 6) .nil))) (.seq (.ife (.disj (.no (.call 7 (.cons (.call 0 (.cons (.var 7) .nil)) (.cons (.var 9) .nil)))) (.one (.no (.call 7 (.cons (.var 7) (.cons (.var 6) .nil)))))) (.seq (.ret (.cst (.bl false))) .nil) .nil) (.seq (.ife (.conj (.cmp .Gt (.var 5) (.cst (.int (0)))) (.one (.no (.call 7 (.cons (.call 0 (.cons (.call 11 (.cons (.var 6) (.cons (.var 3) .nil))) .nil)) (.cons (.var 9) .nil)))))) (.seq (.ret (.cst (.bl false))) .nil) .nil) (.seq (.ife (.no (.call 7 (.cons (.call 0 (.cons (.bin .Add (.var 7) (.var 7)) .nil)) (.cons (.var 9) .nil)))) (.seq (.ret (.cst (.bl false))) .nil) .nil) (.seq (.ife (.conj (.cmp .Gt (.var 3) (.cst (.int (0)))) (.one (.no (.call 7 (.cons (.call 0 (.cons (.bin .Add (.var 7) (.lst (.cons (.bin .Mult (.lst (.cons (.cst (.int (0))) .nil)) (.var 3)) .nil))) .nil)) (.cons (.var 9) .nil)))))) (.seq (.ret (.cst (.bl false))) .nil) .nil) .nil)))))))))))
def cs_law : CS := (.seq (.set false 1 (.call 3 (.cons (.var 0) .nil))) (.seq (.ife (.no (.call 7 (.cons (.lst (.cons (.call 1 (.cons (.lst .nil) .nil)) (.cons (.call 0 (.cons (.lst .nil) .nil)) (.cons (.call 0 (.cons (.tup .nil) .nil)) (.cons (.call 1 (.cons (.tup .nil) .nil)) .nil))))) (.cons (.lst (.cons (.cst (.int (1))) (.cons (.cst (.int (0))) (.cons (.cst (.int (0))) (.cons (.cst (.int (1))) .nil))))) .nil)))) (.seq (.ret (.cst (.bl false))) .nil) .nil) (.seq (.for (.nm 2) (.wrange (.cst (.int (2)))) cs_law_f0) (.seq (.ret (.cst (.bl true))) .nil))))
noncomputable def tab : List De := [
  ⟨"independent_rows", ["rows"], ["rows"], top 1, [false], [], cs_independent_rows, none⟩,
  ⟨"determinant", ["rows"], ["rows", "many", "last"], top 2, [false], [], cs_determinant, none⟩,
  ⟨"_eliminated", ["rows"], ["rows", "left", "done", "pivot", "sign", "at", "found", "k", "top", "item", "other"], top 3, [false], [1], cs__eliminated, none⟩,
  ⟨"_law_bag", ["script"], ["script", "mix", "cell"], top 5, [false], [], cs__law_bag, none⟩,
  ⟨"_law_draw", ["bag", "size"], ["bag", "size", "cell", "digit"], top 6, [true, false], [0], cs__law_draw, none⟩,
  ⟨"_law_of", ["bag", "things"], ["bag", "things"], top 7, [true, false], [0], cs__law_of, none⟩,
  ⟨"_law_mixed", ["bag", "things"], ["bag", "things", "found", "thing"], top 8, [true, false], [0, 2], cs__law_mixed, none⟩,
  ⟨"_law_like", ["told", "due"], ["told", "due", "a", "b"], top 9, [false, false], [], cs__law_like, none⟩,
  ⟨"_law_det", ["square"], ["square", "total", "k", "line"], top 10, [false], [], cs__law_det, none⟩,
  ⟨"_law_number", ["bag", "great"], ["bag", "great", "way", "item"], top 11, [true, false], [0], cs__law_number, none⟩,
  ⟨"_law_numbers", ["bag", "many", "size"], ["bag", "many", "size", "great", "found", "k", "way", "left", "right", "x", "y", "a", "b", "t", "at", "some"], top 12, [true, false, false], [0, 4], cs__law_numbers, none⟩,
  ⟨"_law_turned", ["items", "size"], ["items", "size", "some", "t"], top 13, [false, false], [], cs__law_turned, none⟩,
  ⟨"_law_count", ["items"], ["items", "left", "found", "some", "t", "at", "k", "a", "b", "x", "y"], top 14, [false], [1], cs__law_count, none⟩,
  ⟨"_law_square_so", ["bag", "square"], ["bag", "square", "size", "due", "handed", "some", "a", "b", "full"], top 15, [true, false], [0, 4], cs__law_square_so, none⟩,
  ⟨"law", ["script"], ["script", "bag", "lap", "size", "square", "many", "items", "handed", "some", "due"], top 16, [false], [1], cs_law, none⟩]
def cst0 (x : Str) : Option D :=
  none
end K30
namespace K30
open PySem L2 DL RL PyProof.Rows
local macro_rules | `(tactic| k_whileD _ _ _ "ev") => `(tactic| simp only [*, is_non_list, is_non_tuple, is_non_bool, is_non_str, is_non_int, is_non_dict, pl_non, isn_non, is_bl_list, is_bl_tuple, is_bl_bool, is_bl_str, is_bl_int, is_bl_dict, pl_bl, isn_bl, is_int_list, is_int_tuple, is_int_bool, is_int_str, is_int_int, is_int_dict, pl_int, isn_int, is_str_list, is_str_tuple, is_str_bool, is_str_str, is_str_int, is_str_dict, pl_str, isn_str, is_lst_list, is_lst_tuple, is_lst_bool, is_lst_str, is_lst_int, is_lst_dict, pl_lst, isn_lst, is_tup_list, is_tup_tuple, is_tup_bool, is_tup_str, is_tup_int, is_tup_dict, pl_tup, isn_tup, is_dk_list, is_dk_tuple, is_dk_bool, is_dk_str, is_dk_int, is_dk_dict, pl_dk, isn_dk, qv_atN, qv_atL, qv_ixLit, qv_mulL, qv_fdivL, qv_modL, qv_powL, Nat.reduceLT, Nat.reduceLeDiff, Nat.reduceAdd, Nat.zero_add, Nat.add_zero, Int.reduceLT, Int.reduceLE, Int.reducePow, Int.reduceToNat, Int.reduceEq, Int.reduceNeg, Int.reduceAdd, Int.reduceSub, Int.reduceMul, and_self, and_true, true_and, eq_self, not_true_eq_false, not_false_eq_true,
  ob_o, ob_v, ob_n, ob_s, fr_nil, fr_0, fr_s, nt_t, nt_f, iv_cst, iv_bin, iv_neg, iv_no, iv_one, iv_conj, iv_disj, iv_cmp, iv_ite, iv_idx, iv_sl, iv_lst, iv_tup, iv_fn, iv_isi, iv_call, iv_app, iv_ext, iv_pop, iv_rev, iv_count, iv_join, iv_comp, iv_compI, iv_comp2, iv_dk0, bf_int, bf_str, bf_list, bf_tuple, bf_sum, bf_all, bf_any, bf_sorted, bf_lenSet, chk_true,
  b_nil, b_seq, b_set, b_setIx, b_set2, b_aug, b_setTp, b_set2o, b_swp, b_expr, b_ret, b_retN, b_ife, b_for, b_pass, b_brk, b_cont, qv_nx, qv_ct, qv_bk, qv_ret, m_own, m_var, m_any,
  e_cst, e_var, e_bin, e_neg, e_no, e_one, e_conj, e_disj, e_cmp, e_ite, e_idxO, e_idxV, e_idx, e_sl, e_lst, e_tup, e_lenO, e_fnV, e_fnL, e_fn, e_isi, e_call, e_app, e_ext, e_pop, e_ins, e_rev, e_count, e_join, e_comp, e_compI, e_comp2, e_dk0, f_range,
  t_no, t_one, t_conj, t_disj, t_cmp, t_chain, t_var, e_nem, t_nem, qv_truB, qv_truL, qv_truO, qv_nemO, qv_nemV, t_fn, t_isi, t_call, o_nil, o_one, a_nil, a_cons, a_star, s_nil, s_own, s_var, s_cons, w_range, w_range2, w_zip, w_enum, w_one,
  Option.bind_some, Option.bind_none, Option.map_some, List.getElem?_cons_zero, List.getElem?_cons_succ, List.set_cons_zero, List.set_cons_succ, chk_pos, List.length_cons, List.length_nil, List.length_map, List.all_cons, List.all_nil, Bool.and_true, Bool.true_and, Bool.false_and, Bool.and_false, Bool.and_self, Bool.not_false, Bool.not_true,
  qv_int, qv_bl, qv_str, qv_toT, qv_toO, qv_toI, qv_toS, qv_toB, qv_toN, qv_fixV, qv_fixO, qv_datV, qv_datO, qv_add, qv_addI, qv_addS, qv_addL, qv_sub, qv_mulC, qv_mulW, qv_fdivC, qv_fdivW, qv_rep, qv_iat0, qv_iatS, qv_tupS, qv_tup2, qv_se0, qv_seS, List.isEmpty_nil, List.isEmpty_cons, qv_modC, qv_powC, qv_in, qv_nin, qv_is, qv_isnt, qv_eq, qv_ne, qv_eqI, qv_eqS, qv_eqB, qv_lt, qv_le, qv_gt, qv_ge, qv_dle, qv_inS, qv_inL, qv_inT,
  qv_ixL, qv_ixT, qv_ixS, qv_lenL, qv_lenT, qv_lenO, qv_lenS, qv_itO, qv_itL, qv_itT, qv_itL', qv_itT', qv_sqO, qv_sqL, qv_sqT, qv_lsO, qv_lsV, qv_lkO, qv_lkT, qv_lkS, qv_len, qv_intf, qv_strf, qv_list, qv_tupleT, qv_tupleL, qv_tupleO, qv_sum, qv_all, qv_any, qv_sorted, qv_lenSet, qv_slS, qv_slL, qv_slO, qv_wkO, qv_wkL, qv_wkT, qv_wkS, qv_getO0, qv_getOS, qv_varV, qv_varO,
  qv_nvT, qv_nvI, qv_nvS, qv_nvB, qv_nvN, qv_nvO, qv_argV, qv_argO, qv_atp, qv_ixp, qv_isi1, qv_isi2, qv_call, qv_aNil, qv_aCons, qv_aEx, qv_aOwn, qv_aBor, qv_backV, qv_backO, qv_backB, qv_backN, if_true, if_false, Bool.false_eq_true, reduceIte, decide_true, decide_false, Bool.or_true, Bool.true_or, Bool.or_false, Bool.false_or, sc_non, sc_bl, sc_int, sc_str, sc_lst, sc_tup, sc_dk,
  mk_sv, kp_sv, bk_sv, no_sv, x_ext, wp_nil, wp_cons, mk_nil, mk_o, mk_v, mk_n, mg_nil, mg_cons, mg_t, mg_f, kp_v, kp_n, kp_o, bk_same, bk_o, bk_t, bk_f, bk_n, by_nm, by_two, no_nil, no_o, no_v, no_n, rb_v, rb_o, os_nil, os_o, os_v, fin_ret, fin_nx, List.contains_cons, List.contains_nil, Nat.reduceBEq, Nat.reduceEqDiff, List.nodup_cons, List.nodup_nil, varsOf, List.not_mem_nil, List.mem_cons, List.mem_singleton, or_false, false_or, or_true, true_or, decide_eq_true_eq, Tgt.ix, isOwn, List.map_cons, List.map_nil, List.cons_append, List.nil_append])
/-! ### the bag: draws -/
structure Bag where
  xs : List Int
  at_ : Nat
  rest : Int
  mix : Int
  cnt : Int
def Bag.ds (B : Bag) : List D := [.lst (B.xs.map .int), .int B.at_, .int B.rest, .int B.mix, .int B.cnt]
structure Bag.Ok (B : Bag) : Prop where
  a : B.at_ ≤ B.xs.length
  r : 0 ≤ B.rest
  m : 0 ≤ B.mix ∧ B.mix < 2147483579
  c : 0 ≤ B.cnt
def Bag.fetch (B : Bag) : Bag :=
  if B.rest = 0 ∧ B.at_ < B.xs.length then
    (if 10 ^ 18 ≤ B.xs.getD B.at_ 0 then { B with cnt := B.cnt + 1, at_ := B.at_ + 1, rest := B.xs.getD B.at_ 0 }
     else { B with cnt := B.cnt + 1, at_ := B.at_ + 1, mix := (B.mix * 69621 + B.xs.getD B.at_ 0 % 2147483549 * 30103 + 97) % 2147483579 })
  else { B with cnt := B.cnt + 1 }
def Bag.mixed (B : Bag) : Int := (B.mix ^ 3 + B.cnt * 1299709 + 60013) % 2147483579
def Bag.digit (B : Bag) (t : Int) : Int := if 0 < B.fetch.rest then B.fetch.rest % t else (B.fetch.mixed / 97 + B.fetch.mixed % 7901 * 67) % t
def Bag.next (B : Bag) (t : Int) : Bag := if 0 < B.fetch.rest then { B.fetch with rest := B.fetch.rest / t } else { B.fetch with mix := B.fetch.mixed }
theorem fetch_ok {B : Bag} (h : B.Ok) : B.fetch.Ok := by
  obtain ⟨h1, h2, h3, h4⟩ := h
  unfold Bag.fetch
  split
  · rename_i hc
    split
    · exact ⟨by dsimp only; omega, by dsimp only; omega, h3, by dsimp only; omega⟩
    · exact ⟨by dsimp only; omega, h2, ⟨by dsimp only; omega, by dsimp only; omega⟩, by dsimp only; omega⟩
  · exact ⟨h1, h2, h3, by dsimp only; omega⟩
theorem mixed_ok {B : Bag} : 0 ≤ B.mixed ∧ B.mixed < 2147483579 := by
  unfold Bag.mixed
  exact ⟨Int.emod_nonneg _ (by decide), Int.emod_lt_of_pos _ (by decide)⟩
theorem next_ok {B : Bag} (h : B.Ok) {t : Int} (ht : 0 < t) : (B.next t).Ok := by
  have hf := fetch_ok h
  obtain ⟨h1, h2, h3, h4⟩ := hf
  unfold Bag.next
  split
  · exact ⟨h1, Int.ediv_nonneg h2 (by omega), h3, h4⟩
  · exact ⟨h1, h2, mixed_ok, h4⟩
theorem digit_lt {B : Bag} {t : Int} (ht : 0 < t) : 0 ≤ B.digit t ∧ B.digit t < t := by
  unfold Bag.digit
  split
  · exact ⟨Int.emod_nonneg _ (by omega), Int.emod_lt_of_pos _ ht⟩
  · exact ⟨Int.emod_nonneg _ (by omega), Int.emod_lt_of_pos _ ht⟩
def drawA : CS := (.setIx 0 (.cst (.int (4))) (.bin .Add (.idx (.var 0) (.cst (.int (4)))) (.cst (.int (1)))))
def drawB : CS := (.ife (.conj (.cmp .Eq (.idx (.var 0) (.cst (.int (2)))) (.cst (.int (0)))) (.one (.cmp .Lt (.idx (.var 0) (.cst (.int (1)))) (.fn .len (.idx (.var 0) (.cst (.int (0)))))))) (.seq (.set true 2 (.idx (.idx (.var 0) (.cst (.int (0)))) (.idx (.var 0) (.cst (.int (1))))))
  (.seq (.setIx 0 (.cst (.int (1))) (.bin .Add (.idx (.var 0) (.cst (.int (1)))) (.cst (.int (1)))))
  (.seq (.ife (.cmp .GtE (.var 2) (.bin .Pow (.cst (.int (10))) (.cst (.int (18))))) (.seq (.setIx 0 (.cst (.int (2))) (.var 2))
  .nil) (.seq (.setIx 0 (.cst (.int (3))) (.bin .Mod (.fn .int (.bin .Add (.bin .Add (.bin .Mult (.idx (.var 0) (.cst (.int (3)))) (.cst (.int (69621)))) (.bin .Mult (.bin .Mod (.fn .int (.var 2)) (.cst (.int (2147483549)))) (.cst (.int (30103))))) (.cst (.int (97))))) (.cst (.int (2147483579)))))
  .nil))
  .nil))) .nil)
def drawT : CS := (.seq (.ife (.cmp .Gt (.idx (.var 0) (.cst (.int (2)))) (.cst (.int (0)))) (.seq (.set true 3 (.bin .Mod (.fn .int (.idx (.var 0) (.cst (.int (2))))) (.var 1)))
  (.seq (.setIx 0 (.cst (.int (2))) (.bin .FloorDiv (.idx (.var 0) (.cst (.int (2)))) (.var 1)))
  (.seq (.ret (.var 3))
  .nil))) .nil)
  (.seq (.setIx 0 (.cst (.int (3))) (.bin .Mod (.fn .int (.bin .Add (.bin .Add (.bin .Pow (.idx (.var 0) (.cst (.int (3)))) (.cst (.int (3)))) (.bin .Mult (.idx (.var 0) (.cst (.int (4)))) (.cst (.int (1299709))))) (.cst (.int (60013))))) (.cst (.int (2147483579)))))
  (.seq (.ret (.bin .Mod (.fn .int (.bin .Add (.bin .FloorDiv (.idx (.var 0) (.cst (.int (3)))) (.cst (.int (97)))) (.bin .Mult (.bin .Mod (.fn .int (.idx (.var 0) (.cst (.int (3))))) (.cst (.int (7901)))) (.cst (.int (67)))))) (.var 1)))
  .nil)))
theorem draw_parts : cs__law_draw = .seq drawA (.seq drawB drawT) := rfl
theorem draw_tail (c : Cs) (B : Bag) (hB : B.Ok) (t : Int) (ht : 0 < t) (ht2 : t < 1073741824) (k : Bool) (x : Option Slot) :
    evB c [true, false] drawT [some (.own B.ds), some (.v k (.int t)), x, none] =
    (if 0 < B.rest then some (.ret (.val (.int (B.rest % t))) [some (.own { B with rest := B.rest / t }.ds), some (.v k (.int t)), x, some (.val (.int (B.rest % t)))])
     else some (.ret (.val (.int ((B.mixed / 97 + B.mixed % 7901 * 67) % t))) [some (.own { B with mix := B.mixed }.ds), some (.v k (.int t)), x, none])) := by
  unfold Bag.ds drawT
  have hm := hB.m
  have hc : CPow B.mix 3 := ⟨by omega, by omega, by omega⟩
  have hd : CDiv B.rest t := ⟨ht, ht2⟩
  by_cases h : 0 < B.rest
  · rw [if_pos h]
    k_whileD _ _ _ "ev"
  · rw [if_neg h]
    k_whileD _ _ _ "ev"
    rfl
theorem draw_spec {n : Nat} {B : Bag} (hB : B.Ok) {t : Int} (ht : 0 < t) (ht2 : t < 1073741824) {k : Bool} :
    (csT tab (n + 1)).C 4 [.own B.ds, .v k (.int t)] = some (.val (.int (B.digit t)), [.own (B.next t).ds, .v k (.int t)]) := by
  rw [call_eq (T := tab) (f := 4) rfl rfl]
  show (evB (csT tab n) [true, false] cs__law_draw [some (.own B.ds), some (.v k (.int t)), none, none]).bind _ = _
  have fin : ∀ (x : Option Slot) (B' : Bag), B'.Ok → B' = B.fetch →
    ((if 0 < B'.rest then some (.ret (.val (.int (B'.rest % t))) [some (.own { B' with rest := B'.rest / t }.ds), some (.v k (.int t)), x, some (.val (.int (B'.rest % t)))])
     else some (.ret (.val (.int ((B'.mixed / 97 + B'.mixed % 7901 * 67) % t))) [some (.own { B' with mix := B'.mixed }.ds), some (.v k (.int t)), x, none])) : Option Out).bind (finS [.own B.ds, .v k (.int t)]) = some (.val (.int (B.digit t)), [.own (B.next t).ds, .v k (.int t)]) := by
    intro x B' hB' e
    subst e
    unfold Bag.digit Bag.next
    by_cases h : 0 < B.fetch.rest
    · simp only [if_pos h]
      k_whileD _ _ _ "ev"
    · simp only [if_neg h]
      k_whileD _ _ _ "ev"
  have hm := hB.m
  rw [draw_parts, b_seq]
  have e1 : evB (csT tab n) [true, false] drawA [some (.own B.ds), some (.v k (.int t)), none, none] = some (.nx [some (.own { B with cnt := B.cnt + 1 }.ds), some (.v k (.int t)), none, none]) := by
    unfold Bag.ds drawA
    k_whileD _ _ _ "ev"
  have e2 : ∃ x, evB (csT tab n) [true, false] drawB [some (.own { B with cnt := B.cnt + 1 }.ds), some (.v k (.int t)), none, none] = some (.nx [some (.own B.fetch.ds), some (.v k (.int t)), x, none]) := by
    by_cases h : B.rest = 0 ∧ B.at_ < B.xs.length
    · obtain ⟨h1, h2⟩ := h
      have h3 : (B.at_ : Int) < (B.xs.length : Int) := by omega
      have h4 : (B.xs.map D.int)[B.at_]? = some (.int (B.xs.getD B.at_ 0)) := by
        rw [List.getElem?_map, List.getElem?_eq_getElem h2, List.getD_eq_getElem?_getD, List.getElem?_eq_getElem h2]; rfl
      by_cases h5 : 10 ^ 18 ≤ B.xs.getD B.at_ 0
      · refine ⟨some (.val (.int (B.xs.getD B.at_ 0))), ?_⟩
        have hf : B.fetch = { B with cnt := B.cnt + 1, at_ := B.at_ + 1, rest := B.xs.getD B.at_ 0 } := by unfold Bag.fetch; rw [if_pos ⟨h1, h2⟩, if_pos h5]
        rw [hf]
        have h5 : (1000000000000000000 : Int) ≤ B.xs.getD B.at_ 0 := h5
        unfold Bag.ds drawB
        dsimp only
        clear hf
        k_whileD _ _ _ "ev"
        rfl
      · refine ⟨some (.val (.int (B.xs.getD B.at_ 0))), ?_⟩
        have hf : B.fetch = { B with cnt := B.cnt + 1, at_ := B.at_ + 1, mix := (B.mix * 69621 + B.xs.getD B.at_ 0 % 2147483549 * 30103 + 97) % 2147483579 } := by unfold Bag.fetch; rw [if_pos ⟨h1, h2⟩, if_neg h5]
        rw [hf]
        have h5 : ¬ (1000000000000000000 : Int) ≤ B.xs.getD B.at_ 0 := h5
        unfold Bag.ds drawB
        dsimp only
        clear hf
        k_whileD _ _ _ "ev"
        rfl
    · refine ⟨none, ?_⟩
      have hf : B.fetch = { B with cnt := B.cnt + 1 } := by unfold Bag.fetch; rw [if_neg h]
      rw [hf]
      unfold Bag.ds drawB
      dsimp only
      clear hf
      by_cases h1 : B.rest = 0
      · have h3 : ¬ (B.at_ : Int) < (B.xs.length : Int) := fun q => h ⟨h1, by omega⟩
        k_whileD _ _ _ "ev"
      · clear h
        k_whileD _ _ _ "ev"
  obtain ⟨x, e2⟩ := e2
  rw [e1, Option.bind_some, qv_nx, b_seq_any, e2, Option.bind_some, qv_nx, draw_tail _ _ (fetch_ok hB) t ht ht2]
  exact fin x _ (fetch_ok hB) rfl
theorem of_spec {n : Nat} {B : Bag} (hB : B.Ok) {ds : List D} (h0 : 0 < ds.length) (h1 : ds.length < 1073741824) {k : Bool} :
    (csT tab (n + 2)).C 5 [.own B.ds, .v k (.lst ds)] = some (.val (ds.getD (B.digit ds.length).toNat .non), [.own (B.next ds.length).ds, .v k (.lst ds)]) := by
  rw [call_eq (T := tab) (f := 5) rfl rfl]
  show (evB (csT tab (n + 1)) [true, false] cs__law_of [some (.own B.ds), some (.v k (.lst ds))]).bind _ = _
  have m8 : (csT tab (n + 1)).M 4 = [true, false] := cs_M (T := tab) (f := 4) rfl
  have d8 := draw_spec (n := n) hB (t := ds.length) (by omega) (by omega) (k := true)
  have hd := digit_lt (B := B) (t := ds.length) (by omega)
  have hlt : (B.digit ds.length).toNat < ds.length := by omega
  have hat : atI ds (B.digit ds.length) = some (ds.getD (B.digit ds.length).toNat .non) := by
    have h2 : ((B.digit ds.length).toNat : Int) = B.digit ds.length := by omega
    have h3 := atI_nat (xs := ds) (j := (B.digit ds.length).toNat) (v := ds.getD (B.digit ds.length).toNat .non) (by rw [List.getD_eq_getElem?_getD, List.getElem?_eq_getElem hlt]; rfl)
    rwa [h2] at h3
  unfold cs__law_of
  k_whileD _ _ _ "ev"
def mixOf (ns : List Int) : Int := ns.foldl (fun m i => (m * 69069 + i % 2147483563 * 3 + 41) % 2147483579) 13976
def bag0 (ns : List Int) : Bag := ⟨ns, 0, 0, mixOf ns, 0⟩
theorem mixOf_snoc (ns : List Int) (i : Int) : mixOf (ns ++ [i]) = (mixOf ns * 69069 + i % 2147483563 * 3 + 41) % 2147483579 := by
  unfold mixOf; rw [List.foldl_append]; rfl
theorem mix_lt : ∀ (ns : List Int) (m : Int), 0 ≤ m ∧ m < 2147483579 → 0 ≤ ns.foldl (fun m i => (m * 69069 + i % 2147483563 * 3 + 41) % 2147483579) m ∧ ns.foldl (fun m i => (m * 69069 + i % 2147483563 * 3 + 41) % 2147483579) m < 2147483579
  | [], _, h => h
  | i :: ns, m, _ => mix_lt ns _ ⟨Int.emod_nonneg _ (by decide), Int.emod_lt_of_pos _ (by decide)⟩
theorem mixOf_ok (ns : List Int) : 0 ≤ mixOf ns ∧ mixOf ns < 2147483579 := mix_lt ns _ (by decide)
theorem bag0_ok (ns : List Int) : (bag0 ns).Ok := ⟨Nat.zero_le _, Int.le_refl 0, mixOf_ok ns, Int.le_refl 0⟩
theorem cut_all {ds : List D} {m : Nat} (h : ds.length ≤ m) : DL.cutD ds none (some (m : Int)) = ds := by
  have e : HT.sIx ds.length ds.length (some (m : Int)) = ds.length := by
    rw [HT.sIx_nat ds.length ds.length m]; omega
  unfold DL.cutD
  rw [HT.sIx_none, e, List.drop_zero, Nat.sub_zero, List.take_of_length_le (Nat.le_refl _)]
theorem size_eq : sizeLine = 16777216 := sizeLine_eq
theorem bag_spec {n : Nat} {k : Bool} {ns : List Int} (h : ns.length ≤ 63) :
    (csT tab (n + 1)).C 3 [.v k (.lst (ns.map .int))] = some (.own (bag0 ns).ds, [.v k (.lst (ns.map .int))]) := by
  rw [call_eq (T := tab) (f := 3) rfl rfl]
  show (evB (csT tab n) [false] cs__law_bag [some (.v k _), none, none]).bind _ = _
  have hz := size_eq
  have h5 : 5 ≤ sizeLine := by omega
  have cut : DL.cutD (ns.map D.int) none (some 63) = ns.map D.int := cut_all (m := 63) (by rw [List.length_map]; exact h)
  have hsc : (ns.map D.int).all isSc = true := by rw [List.all_map]; exact List.all_eq_true.mpr fun _ _ => rfl
  obtain ⟨ρ', h1, a, rfl⟩ := forL_ind (f := forF (csT tab n) [false] (.nm 2) (fun t => .one (.v true ((ns.map D.int).getD t .non))) cs__law_bag_f0)
    (fun t ρ => ∃ a, ρ = [some (.v k (.lst (ns.map .int))), some (.v true (.int (mixOf (ns.take t)))), a]) (m := ns.length) (s := 0) (ρ := [some (.v k (.lst (ns.map .int))), some (.v true (.int 13976)), none]) ⟨_, rfl⟩ fun t ρ _ ht ⟨a, hj⟩ => by
      subst hj
      have hx : ns[t]? = some ns[t] := List.getElem?_eq_getElem (by omega)
      have hg : (ns.map D.int).getD t .non = .int ns[t] := by rw [List.getD_eq_getElem?_getD, List.getElem?_map, hx]; rfl
      refine ⟨_, ?_, some (.v true (.int ns[t])), rfl⟩
      have hm := mixOf_ok (ns.take t)
      have hmod := Int.emod_nonneg ns[t] (show (2147483563 : Int) ≠ 0 by decide)
      have e1 : mixOf (ns.take (t + 1)) = (mixOf (ns.take t) * 69069 + ns[t] % 2147483563 * 3 + 41) % 2147483579 := by
        rw [List.take_add_one, hx]; exact mixOf_snoc _ _
      unfold forF
      dsimp only
      rw [hg, e1]
      generalize ns[t] = x at *
      generalize mixOf (ns.take t) = m at *
      clear hx hg e1 cut hsc h ht
      have hp : 0 ≤ m * 69069 + x % 2147483563 * 3 + 41 := by omega
      unfold cs__law_bag_f0
      k_whileD _ _ _ "ev"
  rw [Nat.zero_add, List.take_length] at h1
  unfold Bag.ds bag0
  dsimp only
  rw [show ((0 : Nat) : Int) = 0 from rfl]
  clear h
  unfold cs__law_bag
  k_whileD _ _ _ "ev"
end K30
namespace K30
open PySem L2 DL RL PyProof.Rows
local macro_rules | `(tactic| k_whileD _ _ _ "ev") => `(tactic| simp only [*, is_non_list, is_non_tuple, is_non_bool, is_non_str, is_non_int, is_non_dict, pl_non, isn_non, is_bl_list, is_bl_tuple, is_bl_bool, is_bl_str, is_bl_int, is_bl_dict, pl_bl, isn_bl, is_int_list, is_int_tuple, is_int_bool, is_int_str, is_int_int, is_int_dict, pl_int, isn_int, is_str_list, is_str_tuple, is_str_bool, is_str_str, is_str_int, is_str_dict, pl_str, isn_str, is_lst_list, is_lst_tuple, is_lst_bool, is_lst_str, is_lst_int, is_lst_dict, pl_lst, isn_lst, is_tup_list, is_tup_tuple, is_tup_bool, is_tup_str, is_tup_int, is_tup_dict, pl_tup, isn_tup, is_dk_list, is_dk_tuple, is_dk_bool, is_dk_str, is_dk_int, is_dk_dict, pl_dk, isn_dk, qv_atN, qv_atL, qv_ixLit, qv_mulL, qv_fdivL, qv_modL, qv_powL, Nat.reduceLT, Nat.reduceLeDiff, Nat.reduceAdd, Nat.zero_add, Nat.add_zero, Int.reduceLT, Int.reduceLE, Int.reducePow, Int.reduceToNat, Int.reduceEq, Int.reduceNeg, Int.reduceAdd, Int.reduceSub, Int.reduceMul, and_self, and_true, true_and, eq_self, not_true_eq_false, not_false_eq_true,
  ob_o, ob_v, ob_n, ob_s, fr_nil, fr_0, fr_s, nt_t, nt_f, iv_cst, iv_bin, iv_neg, iv_no, iv_one, iv_conj, iv_disj, iv_cmp, iv_ite, iv_idx, iv_sl, iv_lst, iv_tup, iv_fn, iv_isi, iv_call, iv_app, iv_ext, iv_pop, iv_rev, iv_count, iv_join, iv_comp, iv_compI, iv_comp2, iv_dk0, bf_int, bf_str, bf_list, bf_tuple, bf_sum, bf_all, bf_any, bf_sorted, bf_lenSet, chk_true,
  b_nil, b_seq, b_set, b_setIx, b_set2, b_aug, b_setTp, b_set2o, b_swp, b_expr, b_ret, b_retN, b_ife, b_for, b_pass, b_brk, b_cont, qv_nx, qv_ct, qv_bk, qv_ret, m_own, m_var, m_any,
  e_cst, e_var, e_bin, e_neg, e_no, e_one, e_conj, e_disj, e_cmp, e_ite, e_idxO, e_idxV, e_idx, e_sl, e_lst, e_tup, e_lenO, e_fnV, e_fnL, e_fn, e_isi, e_call, e_app, e_ext, e_pop, e_ins, e_rev, e_count, e_join, e_comp, e_compI, e_comp2, e_dk0, f_range,
  t_no, t_one, t_conj, t_disj, t_cmp, t_chain, t_var, e_nem, t_nem, qv_truB, qv_truL, qv_truO, qv_nemO, qv_nemV, t_fn, t_isi, t_call, o_nil, o_one, a_nil, a_cons, a_star, s_nil, s_own, s_var, s_cons, w_range, w_range2, w_zip, w_enum, w_one,
  Option.bind_some, Option.bind_none, Option.map_some, List.getElem?_cons_zero, List.getElem?_cons_succ, List.set_cons_zero, List.set_cons_succ, chk_pos, List.length_cons, List.length_nil, List.length_map, List.all_cons, List.all_nil, Bool.and_true, Bool.true_and, Bool.false_and, Bool.and_false, Bool.and_self, Bool.not_false, Bool.not_true,
  qv_int, qv_bl, qv_str, qv_toT, qv_toO, qv_toI, qv_toS, qv_toB, qv_toN, qv_fixV, qv_fixO, qv_datV, qv_datO, qv_add, qv_addI, qv_addS, qv_addL, qv_sub, qv_mulC, qv_mulW, qv_fdivC, qv_fdivW, qv_rep, qv_iat0, qv_iatS, qv_tupS, qv_tup2, qv_se0, qv_seS, List.isEmpty_nil, List.isEmpty_cons, qv_modC, qv_powC, qv_in, qv_nin, qv_is, qv_isnt, qv_eq, qv_ne, qv_eqI, qv_eqS, qv_eqB, qv_lt, qv_le, qv_gt, qv_ge, qv_dle, qv_inS, qv_inL, qv_inT,
  qv_ixL, qv_ixT, qv_ixS, qv_lenL, qv_lenT, qv_lenO, qv_lenS, qv_itO, qv_itL, qv_itT, qv_itL', qv_itT', qv_sqO, qv_sqL, qv_sqT, qv_lsO, qv_lsV, qv_lkO, qv_lkT, qv_lkS, qv_len, qv_intf, qv_strf, qv_list, qv_tupleT, qv_tupleL, qv_tupleO, qv_sum, qv_all, qv_any, qv_sorted, qv_lenSet, qv_slS, qv_slL, qv_slO, qv_wkO, qv_wkL, qv_wkT, qv_wkS, qv_getO0, qv_getOS, qv_varV, qv_varO,
  qv_nvT, qv_nvI, qv_nvS, qv_nvB, qv_nvN, qv_nvO, qv_argV, qv_argO, qv_atp, qv_ixp, qv_isi1, qv_isi2, qv_call, qv_aNil, qv_aCons, qv_aEx, qv_aOwn, qv_aBor, qv_backV, qv_backO, qv_backB, qv_backN, if_true, if_false, Bool.false_eq_true, reduceIte, decide_true, decide_false, Bool.or_true, Bool.true_or, Bool.or_false, Bool.false_or, sc_non, sc_bl, sc_int, sc_str, sc_lst, sc_tup, sc_dk,
  mk_sv, kp_sv, bk_sv, no_sv, x_ext, wp_nil, wp_cons, mk_nil, mk_o, mk_v, mk_n, mg_nil, mg_cons, mg_t, mg_f, kp_v, kp_n, kp_o, bk_same, bk_o, bk_t, bk_f, bk_n, by_nm, by_two, no_nil, no_o, no_v, no_n, rb_v, rb_o, os_nil, os_o, os_v, fin_ret, fin_nx, List.contains_cons, List.contains_nil, Nat.reduceBEq, Nat.reduceEqDiff, List.nodup_cons, List.nodup_nil, varsOf, List.not_mem_nil, List.mem_cons, List.mem_singleton, or_false, false_or, or_true, true_or, decide_eq_true_eq, Tgt.ix, isOwn, List.map_cons, List.map_nil, List.cons_append, List.nil_append])
/-! ### _law_like, on equal data -/
def okD : Nat → D → Prop
  | _, .non => True
  | _, .bl _ => True
  | _, .int _ => True
  | _, .str _ => True
  | m + 1, .lst ds => ds.length ≤ sizeLine ∧ ∀ d ∈ ds, okD m d
  | m + 1, .tup ds => ds.length ≤ sizeLine ∧ ∀ d ∈ ds, okD m d
  | _, _ => False
theorem all_true (n : Nat) : ((List.replicate n true).all id) = true := by
  rw [List.all_eq_true]
  intro b hb
  rw [(List.mem_replicate.mp hb).2]; rfl
theorem like_seq {n m : Nat} {ds : List D} (hl : ds.length ≤ sizeLine) (ih : ∀ d ∈ ds, ∀ (k1 k2 : Bool), (csT tab (n + m + 1)).C 7 [.v k1 d, .v k2 d] = some (.val (.bl true), [.v k1 d, .v k2 d])) (k1 k2 : Bool) (D1 D2 : D) :
    compL (compF (csT tab (n + m + 1)) cs__law_like_e0 (.tp [2, 3]) [2, 3] (fun t => .two true (ds.getD t .non) true (ds.getD t .non))) 0 (min ds.length ds.length) [some (.v k1 D1), some (.v k2 D2), none, none] [] = some (ds.map fun _ => .bl true, [some (.v k1 D1), some (.v k2 D2), none, none]) := by
  rw [Nat.min_self]
  refine compL_list (fun _ => .bl true) fun t d h => ?_
  have e : ds.getD t .non = d := by rw [List.getD_eq_getElem?_getD, h]; rfl
  have hd := ih d (List.mem_of_getElem? h)
  have m10 : (csT tab (n + m + 1)).M 7 = [false, false] := cs_M (T := tab) (f := 7) rfl
  have h1 := hd true true
  unfold compF cs__law_like_e0
  dsimp only
  rw [e]
  clear e h ih hl hd
  k_whileD _ _ _ "ev"
theorem like_spec : ∀ (m : Nat) {n : Nat} {d : D}, okD m d → ∀ (k1 k2 : Bool), (csT tab (n + m + 1)).C 7 [.v k1 d, .v k2 d] = some (.val (.bl true), [.v k1 d, .v k2 d]) := by
  intro m
  induction m with
  | zero =>
    intro n d h k1 k2
    rw [call_eq (T := tab) (f := 7) rfl rfl]
    show (evB (csT tab (n + 0)) [false, false] cs__law_like [some (.v k1 d), some (.v k2 d), none, none]).bind _ = _
    unfold cs__law_like
    cases d with
    | non => k_whileD _ _ _ "ev"
    | bl b => k_whileD _ _ _ "ev"
    | int i => k_whileD _ _ _ "ev"
    | str i => k_whileD _ _ _ "ev"
    | _ => exact h.elim
  | succ m ih =>
    intro n d h k1 k2
    rw [call_eq (T := tab) (f := 7) rfl rfl]
    show (evB (csT tab (n + (m + 1))) [false, false] cs__law_like [some (.v k1 d), some (.v k2 d), none, none]).bind _ = _
    cases d with
    | lst ds =>
      obtain ⟨hl, hd⟩ := h
      have hc := like_seq (n := n) (m := m) hl (fun d hx k1 k2 => ih (hd d hx) k1 k2) k1 k2 (.lst ds) (.lst ds)
      have hb : blsOf (ds.map fun _ => D.bl true) = some (List.replicate ds.length true) := by
        rw [← blsOf_map]; congr 1
        rw [List.map_replicate, List.map_const']
      have ha := all_true ds.length
      have hz : min ds.length ds.length ≤ sizeLine := by omega
      rw [show n + (m + 1) = n + m + 1 by omega]
      clear ih hd
      unfold cs__law_like
      k_whileD _ _ _ "ev"
    | tup ds =>
      obtain ⟨hl, hd⟩ := h
      have hc := like_seq (n := n) (m := m) hl (fun d hx k1 k2 => ih (hd d hx) k1 k2) k1 k2 (.tup ds) (.tup ds)
      have hb : blsOf (ds.map fun _ => D.bl true) = some (List.replicate ds.length true) := by
        rw [← blsOf_map]; congr 1
        rw [List.map_replicate, List.map_const']
      have ha := all_true ds.length
      have hz : min ds.length ds.length ≤ sizeLine := by omega
      rw [show n + (m + 1) = n + m + 1 by omega]
      clear ih hd
      unfold cs__law_like
      k_whileD _ _ _ "ev"
    | non =>
      unfold cs__law_like
      k_whileD _ _ _ "ev"
    | bl b =>
      unfold cs__law_like
      k_whileD _ _ _ "ev"
    | int i =>
      unfold cs__law_like
      k_whileD _ _ _ "ev"
    | str i =>
      unfold cs__law_like
      k_whileD _ _ _ "ev"
    | _ => exact h.elim
end K30
namespace K30
open PySem L2 DL RL PyProof.Rows
local macro_rules | `(tactic| k_whileD _ _ _ "ev") => `(tactic| simp only [*, is_non_list, is_non_tuple, is_non_bool, is_non_str, is_non_int, is_non_dict, pl_non, isn_non, is_bl_list, is_bl_tuple, is_bl_bool, is_bl_str, is_bl_int, is_bl_dict, pl_bl, isn_bl, is_int_list, is_int_tuple, is_int_bool, is_int_str, is_int_int, is_int_dict, pl_int, isn_int, is_str_list, is_str_tuple, is_str_bool, is_str_str, is_str_int, is_str_dict, pl_str, isn_str, is_lst_list, is_lst_tuple, is_lst_bool, is_lst_str, is_lst_int, is_lst_dict, pl_lst, isn_lst, is_tup_list, is_tup_tuple, is_tup_bool, is_tup_str, is_tup_int, is_tup_dict, pl_tup, isn_tup, is_dk_list, is_dk_tuple, is_dk_bool, is_dk_str, is_dk_int, is_dk_dict, pl_dk, isn_dk, qv_atN, qv_atL, qv_ixLit, qv_mulL, qv_fdivL, qv_modL, qv_powL, Nat.reduceLT, Nat.reduceLeDiff, Nat.reduceAdd, Nat.zero_add, Nat.add_zero, Int.reduceLT, Int.reduceLE, Int.reducePow, Int.reduceToNat, Int.reduceEq, Int.reduceNeg, Int.reduceAdd, Int.reduceSub, Int.reduceMul, and_self, and_true, true_and, eq_self, not_true_eq_false, not_false_eq_true,
  ob_o, ob_v, ob_n, ob_s, fr_nil, fr_0, fr_s, nt_t, nt_f, iv_cst, iv_bin, iv_neg, iv_no, iv_one, iv_conj, iv_disj, iv_cmp, iv_ite, iv_idx, iv_sl, iv_lst, iv_tup, iv_fn, iv_isi, iv_call, iv_app, iv_ext, iv_pop, iv_rev, iv_count, iv_join, iv_comp, iv_compI, iv_comp2, iv_dk0, bf_int, bf_str, bf_list, bf_tuple, bf_sum, bf_all, bf_any, bf_sorted, bf_lenSet, chk_true,
  b_nil, b_seq, b_set, b_setIx, b_set2, b_aug, b_setTp, b_set2o, b_swp, b_expr, b_ret, b_retN, b_ife, b_for, b_pass, b_brk, b_cont, qv_nx, qv_ct, qv_bk, qv_ret, m_own, m_var, m_any,
  e_cst, e_var, e_bin, e_neg, e_no, e_one, e_conj, e_disj, e_cmp, e_ite, e_idxO, e_idxV, e_idx, e_sl, e_lst, e_tup, e_lenO, e_fnV, e_fnL, e_fn, e_isi, e_call, e_app, e_ext, e_pop, e_ins, e_rev, e_count, e_join, e_comp, e_compI, e_comp2, e_dk0, f_range,
  t_no, t_one, t_conj, t_disj, t_cmp, t_chain, t_var, e_nem, t_nem, qv_truB, qv_truL, qv_truO, qv_nemO, qv_nemV, t_fn, t_isi, t_call, o_nil, o_one, a_nil, a_cons, a_star, s_nil, s_own, s_var, s_cons, w_range, w_range2, w_zip, w_enum, w_one,
  Option.bind_some, Option.bind_none, Option.map_some, List.getElem?_cons_zero, List.getElem?_cons_succ, List.set_cons_zero, List.set_cons_succ, chk_pos, List.length_cons, List.length_nil, List.length_map, List.all_cons, List.all_nil, Bool.and_true, Bool.true_and, Bool.false_and, Bool.and_false, Bool.and_self, Bool.not_false, Bool.not_true,
  qv_int, qv_bl, qv_str, qv_toT, qv_toO, qv_toI, qv_toS, qv_toB, qv_toN, qv_fixV, qv_fixO, qv_datV, qv_datO, qv_add, qv_addI, qv_addS, qv_addL, qv_sub, qv_mulC, qv_mulW, qv_fdivC, qv_fdivW, qv_rep, qv_iat0, qv_iatS, qv_tupS, qv_tup2, qv_se0, qv_seS, List.isEmpty_nil, List.isEmpty_cons, qv_modC, qv_powC, qv_in, qv_nin, qv_is, qv_isnt, qv_eq, qv_ne, qv_eqI, qv_eqS, qv_eqB, qv_lt, qv_le, qv_gt, qv_ge, qv_dle, qv_inS, qv_inL, qv_inT,
  qv_ixL, qv_ixT, qv_ixS, qv_lenL, qv_lenT, qv_lenO, qv_lenS, qv_itO, qv_itL, qv_itT, qv_itL', qv_itT', qv_sqO, qv_sqL, qv_sqT, qv_lsO, qv_lsV, qv_lkO, qv_lkT, qv_lkS, qv_len, qv_intf, qv_strf, qv_list, qv_tupleT, qv_tupleL, qv_tupleO, qv_sum, qv_all, qv_any, qv_sorted, qv_lenSet, qv_slS, qv_slL, qv_slO, qv_wkO, qv_wkL, qv_wkT, qv_wkS, qv_getO0, qv_getOS, qv_varV, qv_varO,
  qv_nvT, qv_nvI, qv_nvS, qv_nvB, qv_nvN, qv_nvO, qv_argV, qv_argO, qv_atp, qv_ixp, qv_isi1, qv_isi2, qv_call, qv_aNil, qv_aCons, qv_aEx, qv_aOwn, qv_aBor, qv_backV, qv_backO, qv_backB, qv_backN, if_true, if_false, Bool.false_eq_true, reduceIte, decide_true, decide_false, Bool.or_true, Bool.true_or, Bool.or_false, Bool.false_or, sc_non, sc_bl, sc_int, sc_str, sc_lst, sc_tup, sc_dk,
  mk_sv, kp_sv, bk_sv, no_sv, x_ext, wp_nil, wp_cons, mk_nil, mk_o, mk_v, mk_n, mg_nil, mg_cons, mg_t, mg_f, kp_v, kp_n, kp_o, bk_same, bk_o, bk_t, bk_f, bk_n, by_nm, by_two, no_nil, no_o, no_v, no_n, rb_v, rb_o, os_nil, os_o, os_v, fin_ret, fin_nx, List.contains_cons, List.contains_nil, Nat.reduceBEq, Nat.reduceEqDiff, List.nodup_cons, List.nodup_nil, varsOf, List.not_mem_nil, List.mem_cons, List.mem_singleton, or_false, false_or, or_true, true_or, decide_eq_true_eq, Tgt.ix, isOwn, List.map_cons, List.map_nil, List.cons_append, List.nil_append])
/-! ### _law_mixed -/
theorem mixed_spec {n : Nat} {B : Bag} (hB : B.Ok) {ds : List D} (h1 : ds.length < 1000000) {k : Bool} :
    ∃ (B' : Bag) (es : List D), B'.Ok ∧ (∀ x, x ∈ es ↔ x ∈ ds) ∧ es.length = ds.length ∧ (csT tab (n + 2)).C 6 [.own B.ds, .v k (.lst ds)] = some (.own es, [.own B'.ds, .v k (.lst ds)]) := by
  rw [call_eq (T := tab) (f := 6) rfl rfl]
  have m4 : (csT tab (n + 1)).M 4 = [true, false] := cs_M (T := tab) (f := 4) rfl
  obtain ⟨ρ', g1, B', L, x, hB', hL, hl, rfl⟩ := forL_ind (f := forF (csT tab (n + 1)) [true, false] (.nm 3) (fun t => .one (.val (ds.getD t .non))) cs__law_mixed_f0)
    (fun t ρ => ∃ (B' : Bag) (L : List D) (x : Option Slot), B'.Ok ∧ (∀ y, y ∈ L ↔ y ∈ ds.take t) ∧ L.length = (ds.take t).length ∧ ρ = [some (.own B'.ds), some (.v k (.lst ds)), some (.own L), x]) (m := ds.length) (s := 0) (ρ := [some (.own B.ds), some (.v k (.lst ds)), some (.own []), none]) ⟨B, [], none, hB, fun y => by simp, by simp, rfl⟩ fun t ρ _ ht ⟨B1, L, x, hB1, hL, hl, hj⟩ => by
      subst hj
      have ht : t < ds.length := by omega
      have hx : ds[t]? = some ds[t] := List.getElem?_eq_getElem ht
      have hg : ds.getD t .non = ds[t] := by rw [List.getD_eq_getElem?_getD, hx]; rfl
      have hlt : L.length < 1000000 := by rw [hl, List.length_take]; omega
      have d4 := draw_spec (n := n) hB1 (t := (L.length : Int) + 1) (by omega) (by omega) (k := true)
      have hd := digit_lt (B := B1) (t := (L.length : Int) + 1) (by omega)
      refine ⟨_, ?_, B1.next ((L.length : Int) + 1), L.take (B1.digit ((L.length : Int) + 1)).toNat ++ ds[t] :: L.drop (B1.digit ((L.length : Int) + 1)).toNat, some (.val ds[t]), next_ok hB1 (by omega), fun y => ?_, ?_, rfl⟩
      · unfold forF
        dsimp only
        rw [hg]
        have hz := size_eq
        have hq : (0 : Int) ≤ B1.digit ((L.length : Int) + 1) ∧ B1.digit ((L.length : Int) + 1) ≤ (L.length : Int) ∧ L.length < sizeLine := ⟨hd.1, by omega, by omega⟩
        generalize ds[t] = y at *
        clear hL hl hx hg ht hz hd hlt
        unfold cs__law_mixed_f0
        k_whileD _ _ _ "ev"
      · rw [List.take_add_one, hx, List.mem_append, List.mem_append, List.mem_cons, ← hL y]
        simp only [Option.toList_some, List.mem_singleton]
        have := List.take_append_drop (B1.digit ((L.length : Int) + 1)).toNat L
        constructor
        · rintro (h | h | h)
          · exact .inl (List.mem_of_mem_take h)
          · exact .inr h
          · exact .inl (List.mem_of_mem_drop h)
        · rintro (h | h)
          · rw [← this, List.mem_append] at h
            exact h.elim .inl fun h => .inr (.inr h)
          · exact .inr (.inl h)
      · rw [List.length_append, List.length_cons, List.length_take, List.length_drop, hl, List.length_take, List.length_take]
        have hdl : (B1.digit ((L.length : Int) + 1)).toNat ≤ L.length := by omega
        rw [hl, List.length_take] at hdl
        omega
  rw [Nat.zero_add, List.take_length] at hL hl
  refine ⟨B', L, hB', hL, hl, ?_⟩
  show (evB (csT tab (n + 1)) [true, false] cs__law_mixed [some (.own B.ds), some (.v k (.lst ds)), none, none]).bind _ = _
  have h0 : 0 ≤ sizeLine := Nat.zero_le _
  clear hL hl
  unfold cs__law_mixed
  k_whileD _ _ _ "ev"
/-! ### _law_number -/
theorem number_spec {n : Nat} {B : Bag} (hB : B.Ok) {great : Bool} {k : Bool} :
    ∃ (B' : Bag) (i : Int), B'.Ok ∧ i.natAbs < 2 ^ 80 ∧ (csT tab (n + 2)).C 9 [.own B.ds, .v k (.bl great)] = some (.val (.int i), [.own B'.ds, .v k (.bl great)]) := by
  rw [call_eq (T := tab) (f := 9) rfl rfl]
  show ∃ (B' : Bag) (i : Int), B'.Ok ∧ i.natAbs < 2 ^ 80 ∧ (evB (csT tab (n + 1)) [true, false] cs__law_number [some (.own B.ds), some (.v k (.bl great)), none, none]).bind _ = _
  have m4 : (csT tab (n + 1)).M 4 = [true, false] := cs_M (T := tab) (f := 4) rfl
  have d1 := draw_spec (n := n) hB (t := 8) (by omega) (by omega) (k := true)
  have e1 := digit_lt (B := B) (t := 8) (by omega)
  have hB1 := next_ok hB (t := 8) (by omega)
  generalize B.next 8 = B1 at *
  generalize B.digit 8 = w at *
  by_cases h1 : w < 2
  · refine ⟨B1, 0, hB1, by decide, ?_⟩
    clear hB hB1
    unfold cs__law_number
    k_whileD _ _ _ "ev"
  · have tail : ∃ (B' : Bag) (i : Int), B'.Ok ∧ i.natAbs < 2 ^ 80 ∧ (great = false ∨ ¬ w < 6) → True := ⟨B1, 0, fun _ => trivial⟩
    by_cases h2 : great = true ∧ w < 6
    · obtain ⟨rfl, h2⟩ := h2
      have d2 := draw_spec (n := n) hB1 (t := 10000000) (by omega) (by omega) (k := true)
      have e2 := digit_lt (B := B1) (t := 10000000) (by omega)
      have hB2 := next_ok hB1 (t := 10000000) (by omega)
      generalize B1.next 10000000 = B2 at *
      generalize B1.digit 10000000 = u at *
      have d3 := draw_spec (n := n) hB2 (t := 10000000) (by omega) (by omega) (k := true)
      have e3 := digit_lt (B := B2) (t := 10000000) (by omega)
      have hB3 := next_ok hB2 (t := 10000000) (by omega)
      generalize B2.next 10000000 = B3 at *
      generalize B2.digit 10000000 = v at *
      have d4 := draw_spec (n := n) hB3 (t := 10000000) (by omega) (by omega) (k := true)
      have e4 := digit_lt (B := B3) (t := 10000000) (by omega)
      have hB4 := next_ok hB3 (t := 10000000) (by omega)
      generalize B3.next 10000000 = B4 at *
      generalize B3.digit 10000000 = x at *
      have hb : (u * 100000000000000 + v * 10000000 + x).natAbs < 2 ^ 80 := by
        have : (2 : Nat) ^ 80 = 1208925819614629174706176 := by decide
        omega
      by_cases h4 : w < 4
      · refine ⟨B4, u * 100000000000000 + v * 10000000 + x, hB4, hb, ?_⟩
        clear hB hB1 hB2 hB3 hB4 hb tail
        unfold cs__law_number
        k_whileD _ _ _ "ev"
      · refine ⟨B4, 0 - (u * 100000000000000 + v * 10000000 + x), hB4, by omega, ?_⟩
        clear hB hB1 hB2 hB3 hB4 hb tail
        unfold cs__law_number
        k_whileD _ _ _ "ev"
    · have d2 := draw_spec (n := n) hB1 (t := 7) (by omega) (by omega) (k := true)
      have e2 := digit_lt (B := B1) (t := 7) (by omega)
      have hB2 := next_ok hB1 (t := 7) (by omega)
      generalize B1.next 7 = B2 at *
      generalize B1.digit 7 = u at *
      refine ⟨B2, u - 3, hB2, ?_, ?_⟩
      · have : (2 : Nat) ^ 80 = 1208925819614629174706176 := by decide
        omega
      · cases great with
        | false =>
          clear hB hB1 hB2 tail
          unfold cs__law_number
          k_whileD _ _ _ "ev"
        | true =>
          have h3 : ¬ w < 6 := fun q => h2 ⟨rfl, q⟩
          clear hB hB1 hB2 tail
          unfold cs__law_number
          k_whileD _ _ _ "ev"
end K30
namespace K30
open PySem L2 DL RL PyProof.Rows LA
local macro_rules | `(tactic| k_whileD _ _ _ "ev") => `(tactic| simp only [*, is_non_list, is_non_tuple, is_non_bool, is_non_str, is_non_int, is_non_dict, pl_non, isn_non, is_bl_list, is_bl_tuple, is_bl_bool, is_bl_str, is_bl_int, is_bl_dict, pl_bl, isn_bl, is_int_list, is_int_tuple, is_int_bool, is_int_str, is_int_int, is_int_dict, pl_int, isn_int, is_str_list, is_str_tuple, is_str_bool, is_str_str, is_str_int, is_str_dict, pl_str, isn_str, is_lst_list, is_lst_tuple, is_lst_bool, is_lst_str, is_lst_int, is_lst_dict, pl_lst, isn_lst, is_tup_list, is_tup_tuple, is_tup_bool, is_tup_str, is_tup_int, is_tup_dict, pl_tup, isn_tup, is_dk_list, is_dk_tuple, is_dk_bool, is_dk_str, is_dk_int, is_dk_dict, pl_dk, isn_dk, qv_atN, qv_atL, qv_ixLit, qv_mulL, qv_fdivL, qv_modL, qv_powL, Nat.reduceLT, Nat.reduceLeDiff, Nat.reduceAdd, Nat.zero_add, Nat.add_zero, Int.reduceLT, Int.reduceLE, Int.reducePow, Int.reduceToNat, Int.reduceEq, Int.reduceNeg, Int.reduceAdd, Int.reduceSub, Int.reduceMul, and_self, and_true, true_and, eq_self, not_true_eq_false, not_false_eq_true,
  ob_o, ob_v, ob_n, ob_s, fr_nil, fr_0, fr_s, nt_t, nt_f, iv_cst, iv_bin, iv_neg, iv_no, iv_one, iv_conj, iv_disj, iv_cmp, iv_ite, iv_idx, iv_sl, iv_lst, iv_tup, iv_fn, iv_isi, iv_call, iv_app, iv_ext, iv_pop, iv_rev, iv_count, iv_join, iv_comp, iv_compI, iv_comp2, iv_dk0, bf_int, bf_str, bf_list, bf_tuple, bf_sum, bf_all, bf_any, bf_sorted, bf_lenSet, chk_true,
  b_nil, b_seq, b_set, b_setIx, b_set2, b_aug, b_setTp, b_set2o, b_swp, b_expr, b_ret, b_retN, b_ife, b_for, b_pass, b_brk, b_cont, qv_nx, qv_ct, qv_bk, qv_ret, m_own, m_var, m_any,
  e_cst, e_var, e_bin, e_neg, e_no, e_one, e_conj, e_disj, e_cmp, e_ite, e_idxO, e_idxV, e_idx, e_sl, e_lst, e_tup, e_lenO, e_fnV, e_fnL, e_fn, e_isi, e_call, e_app, e_ext, e_pop, e_ins, e_rev, e_count, e_join, e_comp, e_compI, e_comp2, e_dk0, f_range,
  t_no, t_one, t_conj, t_disj, t_cmp, t_chain, t_var, e_nem, t_nem, qv_truB, qv_truL, qv_truO, qv_nemO, qv_nemV, t_fn, t_isi, t_call, o_nil, o_one, a_nil, a_cons, a_star, s_nil, s_own, s_var, s_cons, w_range, w_range2, w_zip, w_enum, w_one,
  Option.bind_some, Option.bind_none, Option.map_some, List.getElem?_cons_zero, List.getElem?_cons_succ, List.set_cons_zero, List.set_cons_succ, chk_pos, List.length_cons, List.length_nil, List.length_map, List.all_cons, List.all_nil, Bool.and_true, Bool.true_and, Bool.false_and, Bool.and_false, Bool.and_self, Bool.not_false, Bool.not_true,
  qv_int, qv_bl, qv_str, qv_toT, qv_toO, qv_toI, qv_toS, qv_toB, qv_toN, qv_fixV, qv_fixO, qv_datV, qv_datO, qv_add, qv_addI, qv_addS, qv_addL, qv_sub, qv_mulC, qv_mulW, qv_fdivC, qv_fdivW, qv_rep, qv_iat0, qv_iatS, qv_tupS, qv_tup2, qv_se0, qv_seS, List.isEmpty_nil, List.isEmpty_cons, qv_modC, qv_powC, qv_in, qv_nin, qv_is, qv_isnt, qv_eq, qv_ne, qv_eqI, qv_eqS, qv_eqB, qv_lt, qv_le, qv_gt, qv_ge, qv_dle, qv_inS, qv_inL, qv_inT,
  qv_ixL, qv_ixT, qv_ixS, qv_lenL, qv_lenT, qv_lenO, qv_lenS, qv_itO, qv_itL, qv_itT, qv_itL', qv_itT', qv_sqO, qv_sqL, qv_sqT, qv_lsO, qv_lsV, qv_lkO, qv_lkT, qv_lkS, qv_len, qv_intf, qv_strf, qv_list, qv_tupleT, qv_tupleL, qv_tupleO, qv_sum, qv_all, qv_any, qv_sorted, qv_lenSet, qv_slS, qv_slL, qv_slO, qv_wkO, qv_wkL, qv_wkT, qv_wkS, qv_getO0, qv_getOS, qv_varV, qv_varO,
  qv_nvT, qv_nvI, qv_nvS, qv_nvB, qv_nvN, qv_nvO, qv_argV, qv_argO, qv_atp, qv_ixp, qv_isi1, qv_isi2, qv_call, qv_aNil, qv_aCons, qv_aEx, qv_aOwn, qv_aBor, qv_backV, qv_backO, qv_backB, qv_backN, if_true, if_false, Bool.false_eq_true, reduceIte, decide_true, decide_false, Bool.or_true, Bool.true_or, Bool.or_false, Bool.false_or, sc_non, sc_bl, sc_int, sc_str, sc_lst, sc_tup, sc_dk,
  mk_sv, kp_sv, bk_sv, no_sv, x_ext, wp_nil, wp_cons, mk_nil, mk_o, mk_v, mk_n, mg_nil, mg_cons, mg_t, mg_f, kp_v, kp_n, kp_o, bk_same, bk_o, bk_t, bk_f, bk_n, by_nm, by_two, no_nil, no_o, no_v, no_n, rb_v, rb_o, os_nil, os_o, os_v, fin_ret, fin_nx, List.contains_cons, List.contains_nil, Nat.reduceBEq, Nat.reduceEqDiff, List.nodup_cons, List.nodup_nil, varsOf, List.not_mem_nil, List.mem_cons, List.mem_singleton, or_false, false_or, or_true, true_or, decide_eq_true_eq, Tgt.ix, isOwn, List.map_cons, List.map_nil, List.cons_append, List.nil_append])
/-! ### lines as data -/
def lnD (l : List Int) : D := .lst (l.map .int)
def mxD (A : List (List Int)) : List D := A.map lnD
theorem mx_get {A : List (List Int)} {t : Nat} (h : t < A.length) : (mxD A).getD t .non = lnD (A.getD t []) := by
  unfold mxD
  rw [List.getD_eq_getElem?_getD, List.getElem?_map, List.getElem?_eq_getElem h, List.getD_eq_getElem?_getD, List.getElem?_eq_getElem h]; rfl
theorem ln_at {l : List Int} {t : Nat} (h : t < l.length) : atI (l.map D.int) (t : Int) = some (.int (l.getD t 0)) :=
  atI_nat (by rw [List.getElem?_map, List.getElem?_eq_getElem h, List.getD_eq_getElem?_getD, List.getElem?_eq_getElem h]; rfl)
theorem mx_at {A : List (List Int)} {t : Nat} (h : t < A.length) : atI (mxD A) (t : Int) = some (lnD (A.getD t [])) :=
  atI_nat (by unfold mxD; rw [List.getElem?_map, List.getElem?_eq_getElem h, List.getD_eq_getElem?_getD, List.getElem?_eq_getElem h]; rfl)
theorem mx_len (A : List (List Int)) : (mxD A).length = A.length := List.length_map ..
/-! ### _law_turned -/
theorem turned_spec {n w : Nat} {A : List (List Int)} (hA : ∀ l, l ∈ A → l.length = w) (h1 : A.length < 1000) (h2 : w < 1000) {k1 k2 : Bool} :
    (csT tab (n + 1)).C 11 [.v k1 (.lst (mxD A)), .v k2 (.int (w : Int))] = some (.own (mxD (turned A w)), [.v k1 (.lst (mxD A)), .v k2 (.int (w : Int))]) := by
  rw [call_eq (T := tab) (f := 11) rfl rfl]
  show (evB (csT tab n) [false, false] cs__law_turned [some (.v k1 (.lst (mxD A))), some (.v k2 (.int (w : Int))), none, none]).bind _ = _
  have hz := size_eq
  have inner : ∀ t : Nat, t < w → compL (compF (csT tab n) cs__law_turned_e0 (.nm 2) [2] (fun j => .one (.val ((mxD A).getD j .non)))) 0 (mxD A).length [some (.v k1 (.lst (mxD A))), some (.v k2 (.int (w : Int))), none, some (.v true (.int (t : Int)))] [] =
      some ((A.map fun l => l.getD t 0).map .int, [some (.v k1 (.lst (mxD A))), some (.v k2 (.int (w : Int))), none, some (.v true (.int (t : Int)))]) := fun t ht => by
    rw [mx_len, compL_map (fun j => .int ((A.getD j []).getD t 0)) fun j hj => ?_]
    · congr 1
      congr 1
      refine List.ext_getElem (by simp) fun i a b => ?_
      have hi : i < A.length := by simpa using a
      simp only [List.getElem_map, List.getElem_range, List.getD_eq_getElem?_getD, List.getElem?_eq_getElem hi]
      rfl
    · have hl : (A.getD j []).length = w := hA _ (by rw [List.getD_eq_getElem?_getD, List.getElem?_eq_getElem hj]; exact List.getElem_mem hj)
      have ha := ln_at (l := A.getD j []) (t := t) (by omega)
      unfold compF
      dsimp only
      rw [mx_get hj]
      unfold lnD
      generalize A.getD j [] = l at *
      generalize mxD A = M
      clear hA h1 h2 hz hl hj ht
      unfold cs__law_turned_e0
      k_whileD _ _ _ "ev"
  have outer : compL (compF (csT tab n) cs__law_turned_e1 (.nm 3) [3] (fun t => .one (.val (.int (t : Int))))) 0 w [some (.v k1 (.lst (mxD A))), some (.v k2 (.int (w : Int))), none, none] [] =
      some (mxD (turned A w), [some (.v k1 (.lst (mxD A))), some (.v k2 (.int (w : Int))), none, none]) := by
    rw [compL_map (fun t => lnD (A.map fun l => l.getD t 0)) fun t ht => ?_]
    · congr 1
      congr 1
      unfold turned mxD
      rw [List.map_map]; rfl
    · have hi := inner t ht
      have hm : (mxD A).length ≤ sizeLine := by rw [mx_len]; omega
      unfold compF lnD
      dsimp only
      generalize A.map (fun l => l.getD t 0) = L at *
      clear inner
      generalize mxD A = M at *
      clear hA h1 h2 hz ht
      unfold cs__law_turned_e1
      k_whileD _ _ _ "ev"
  have hw : w ≤ sizeLine := by omega
  have hw2 : (-4611686018427387904 : Int) ≤ (w : Int) ∧ (w : Int) < 4611686018427387904 := by omega
  have hw3 : ((w : Int)).toNat = w := Int.toNat_natCast w
  clear inner hA h1 h2 hz
  unfold cs__law_turned
  k_whileD _ _ _ "ev"
end K30
namespace K30
open PySem L2 DL RL PyProof.Rows LA
local macro_rules | `(tactic| k_whileD _ _ _ "ev") => `(tactic| simp only [*, is_non_list, is_non_tuple, is_non_bool, is_non_str, is_non_int, is_non_dict, pl_non, isn_non, is_bl_list, is_bl_tuple, is_bl_bool, is_bl_str, is_bl_int, is_bl_dict, pl_bl, isn_bl, is_int_list, is_int_tuple, is_int_bool, is_int_str, is_int_int, is_int_dict, pl_int, isn_int, is_str_list, is_str_tuple, is_str_bool, is_str_str, is_str_int, is_str_dict, pl_str, isn_str, is_lst_list, is_lst_tuple, is_lst_bool, is_lst_str, is_lst_int, is_lst_dict, pl_lst, isn_lst, is_tup_list, is_tup_tuple, is_tup_bool, is_tup_str, is_tup_int, is_tup_dict, pl_tup, isn_tup, is_dk_list, is_dk_tuple, is_dk_bool, is_dk_str, is_dk_int, is_dk_dict, pl_dk, isn_dk, qv_atN, qv_atL, qv_ixLit, qv_mulL, qv_fdivL, qv_modL, qv_powL, Nat.reduceLT, Nat.reduceLeDiff, Nat.reduceAdd, Nat.zero_add, Nat.add_zero, Int.reduceLT, Int.reduceLE, Int.reducePow, Int.reduceToNat, Int.reduceEq, Int.reduceNeg, Int.reduceAdd, Int.reduceSub, Int.reduceMul, and_self, and_true, true_and, eq_self, not_true_eq_false, not_false_eq_true,
  ob_o, ob_v, ob_n, ob_s, fr_nil, fr_0, fr_s, nt_t, nt_f, iv_cst, iv_bin, iv_neg, iv_no, iv_one, iv_conj, iv_disj, iv_cmp, iv_ite, iv_idx, iv_sl, iv_lst, iv_tup, iv_fn, iv_isi, iv_call, iv_app, iv_ext, iv_pop, iv_rev, iv_count, iv_join, iv_comp, iv_compI, iv_comp2, iv_dk0, bf_int, bf_str, bf_list, bf_tuple, bf_sum, bf_all, bf_any, bf_sorted, bf_lenSet, chk_true,
  b_nil, b_seq, b_set, b_setIx, b_set2, b_aug, b_setTp, b_set2o, b_swp, b_expr, b_ret, b_retN, b_ife, b_for, b_pass, b_brk, b_cont, qv_nx, qv_ct, qv_bk, qv_ret, m_own, m_var, m_any,
  e_cst, e_var, e_bin, e_neg, e_no, e_one, e_conj, e_disj, e_cmp, e_ite, e_idxO, e_idxV, e_idx, e_sl, e_lst, e_tup, e_lenO, e_fnV, e_fnL, e_fn, e_isi, e_call, e_app, e_ext, e_pop, e_ins, e_rev, e_count, e_join, e_comp, e_compI, e_comp2, e_dk0, f_range,
  t_no, t_one, t_conj, t_disj, t_cmp, t_chain, t_var, e_nem, t_nem, qv_truB, qv_truL, qv_truO, qv_nemO, qv_nemV, t_fn, t_isi, t_call, o_nil, o_one, a_nil, a_cons, a_star, s_nil, s_own, s_var, s_cons, w_range, w_range2, w_zip, w_enum, w_one,
  Option.bind_some, Option.bind_none, Option.map_some, List.getElem?_cons_zero, List.getElem?_cons_succ, List.set_cons_zero, List.set_cons_succ, chk_pos, List.length_cons, List.length_nil, List.length_map, List.all_cons, List.all_nil, Bool.and_true, Bool.true_and, Bool.false_and, Bool.and_false, Bool.and_self, Bool.not_false, Bool.not_true,
  qv_int, qv_bl, qv_str, qv_toT, qv_toO, qv_toI, qv_toS, qv_toB, qv_toN, qv_fixV, qv_fixO, qv_datV, qv_datO, qv_add, qv_addI, qv_addS, qv_addL, qv_sub, qv_mulC, qv_mulW, qv_fdivC, qv_fdivW, qv_rep, qv_iat0, qv_iatS, qv_tupS, qv_tup2, qv_se0, qv_seS, List.isEmpty_nil, List.isEmpty_cons, qv_modC, qv_powC, qv_in, qv_nin, qv_is, qv_isnt, qv_eq, qv_ne, qv_eqI, qv_eqS, qv_eqB, qv_lt, qv_le, qv_gt, qv_ge, qv_dle, qv_inS, qv_inL, qv_inT,
  qv_ixL, qv_ixT, qv_ixS, qv_lenL, qv_lenT, qv_lenO, qv_lenS, qv_itO, qv_itL, qv_itT, qv_itL', qv_itT', qv_sqO, qv_sqL, qv_sqT, qv_lsO, qv_lsV, qv_lkO, qv_lkT, qv_lkS, qv_len, qv_intf, qv_strf, qv_list, qv_tupleT, qv_tupleL, qv_tupleO, qv_sum, qv_all, qv_any, qv_sorted, qv_lenSet, qv_slS, qv_slL, qv_slO, qv_wkO, qv_wkL, qv_wkT, qv_wkS, qv_getO0, qv_getOS, qv_varV, qv_varO,
  qv_nvT, qv_nvI, qv_nvS, qv_nvB, qv_nvN, qv_nvO, qv_argV, qv_argO, qv_atp, qv_ixp, qv_isi1, qv_isi2, qv_call, qv_aNil, qv_aCons, qv_aEx, qv_aOwn, qv_aBor, qv_backV, qv_backO, qv_backB, qv_backN, if_true, if_false, Bool.false_eq_true, reduceIte, decide_true, decide_false, Bool.or_true, Bool.true_or, Bool.or_false, Bool.false_or, sc_non, sc_bl, sc_int, sc_str, sc_lst, sc_tup, sc_dk,
  mk_sv, kp_sv, bk_sv, no_sv, x_ext, wp_nil, wp_cons, mk_nil, mk_o, mk_v, mk_n, mg_nil, mg_cons, mg_t, mg_f, kp_v, kp_n, kp_o, bk_same, bk_o, bk_t, bk_f, bk_n, by_nm, by_two, no_nil, no_o, no_v, no_n, rb_v, rb_o, os_nil, os_o, os_v, fin_ret, fin_nx, List.contains_cons, List.contains_nil, Nat.reduceBEq, Nat.reduceEqDiff, List.nodup_cons, List.nodup_nil, varsOf, List.not_mem_nil, List.mem_cons, List.mem_singleton, or_false, false_or, or_true, true_or, decide_eq_true_eq, Tgt.ix, isOwn, List.map_cons, List.map_nil, List.cons_append, List.nil_append])
/-! ### _law_det -/
theorem cut_take {ds : List D} {k : Nat} : DL.cutD ds none (some (k : Int)) = ds.take k := by
  unfold DL.cutD
  rw [HT.sIx_none, HT.sIx_nat, List.drop_zero, Nat.sub_zero]
  rcases Nat.le_total k ds.length with h | h
  · rw [Nat.min_eq_left h]
  · rw [Nat.min_eq_right h, List.take_of_length_le h, List.take_of_length_le (Nat.le_refl _)]
theorem cut_drop {ds : List D} {k : Nat} : DL.cutD ds (some (k : Int)) none = ds.drop k := by
  unfold DL.cutD
  rw [HT.sIx_none, HT.sIx_nat]
  rcases Nat.le_total k ds.length with h | h
  · rw [Nat.min_eq_left h, List.take_of_length_le (by simp)]
  · rw [Nat.min_eq_right h, List.drop_of_length_le h, List.drop_of_length_le (Nat.le_refl _)]; simp
theorem lap_bits {A : List (List Int)} {n b : Nat} (hn : A.length = n) (hl : ∀ l, l ∈ A → l.length = n) (hb : ∀ l, l ∈ A → ∀ x, x ∈ l → x.natAbs ≤ 2 ^ b) (h8 : n ≤ 8) : (lap n A).natAbs ≤ 2 ^ (n * (b + 3)) := by
  rw [lap_lines hn hl]
  refine dt_bits (fun x hx c => ?_) (by rw [List.length_map]; omega) h8
  obtain ⟨l, hl1, rfl⟩ := List.mem_map.mp hx
  show (l.getD c 0).natAbs ≤ _
  rw [List.getD_eq_getElem?_getD]
  cases q : l[c]? with
  | none => show (0 : Int).natAbs ≤ _; exact Nat.zero_le _
  | some y => exact hb l hl1 y (List.mem_of_getElem? q)
def sub (ls : List (List Int)) (t : Nat) : List (List Int) := ls.map fun line => line.take t ++ line.drop (t + 1)
def term (n : Nat) (l : List Int) (ls : List (List Int)) (t : Nat) : Int := (1 - 2 * ((t : Int) % 2)) * l.getD t 0 * lap n (sub ls t)
theorem lap_succ {n : Nat} {l : List Int} {ls : List (List Int)} : lap (n + 1) (l :: ls) = lsum (term n l ls) (n + 1) := rfl
theorem det_spec {b : Nat} (hb9 : b ≤ 100000) : ∀ (n : Nat) {m : Nat} {A : List (List Int)} {k : Bool}, A.length = n → (∀ l, l ∈ A → l.length = n) → (∀ l, l ∈ A → ∀ x, x ∈ l → x.natAbs ≤ 2 ^ b) → n ≤ 8 →
    (csT tab (m + n + 1)).C 8 [.v k (.lst (mxD A))] = some (.val (.int (lap n A)), [.v k (.lst (mxD A))]) := by
  intro n
  induction n with
  | zero =>
    intro m A k hn _ _ _
    have e : A = [] := List.eq_nil_of_length_eq_zero hn
    subst e
    rw [call_eq (T := tab) (f := 8) rfl rfl]
    show (evB (csT tab (m + 0)) [false] cs__law_det [some (.v k (.lst [])), none, none, none]).bind _ = some ((DL.Slot.val (.int 1), [DL.Slot.v k (.lst [])]) : DL.Slot × List DL.Slot)
    have h0 : 0 ≤ sizeLine := Nat.zero_le _
    have he : eqX (.lst []) (.lst []) = some true := by
      unfold eqX eqL
      rw [show eqS (.lst []) (.lst []) = none from rfl]
      simp [chk, dataD, pyD, dataDs, pyDs, PyData.eqv, SeqAt.shaped, PyData.eqvAll]
      exact ⟨by decide +kernel, by decide +kernel⟩
    unfold cs__law_det
    k_whileD _ _ _ "ev"
    rfl
  | succ n ih =>
    intro m A k hn hl hb h8
    match A, hn with
    | l :: ls, hn =>
    have hls : ls.length = n := by simpa using hn
    have hl0 : l.length = n + 1 := hl l (.head _)
    rw [call_eq (T := tab) (f := 8) rfl rfl]
    have m8 : (csT tab (m + n + 1)).M 8 = [false] := cs_M (T := tab) (f := 8) rfl
    have hz := size_eq
    have dlen : (mxD (l :: ls)).length = n + 1 := by rw [mx_len]; exact hn
    have hA0 := mx_at (A := l :: ls) (t := 0) (by simp)
    have hdr : (mxD (l :: ls)).drop 1 = mxD ls := rfl
    obtain ⟨ρ', g1, x, rfl⟩ := forL_ind (f := forF (csT tab (m + n + 1)) [false] (.nm 2) (fun t => .one (.val (.int (t : Int)))) cs__law_det_f0)
      (fun t ρ => ∃ x, ρ = [some (.v k (.lst (mxD (l :: ls)))), some (.v true (.int (lsum (term n l ls) t))), x, none]) (m := n + 1) (s := 0) (ρ := [some (.v k (.lst (mxD (l :: ls)))), some (.v true (.int 0)), none, none]) ⟨none, rfl⟩ fun t ρ _ ht ⟨x, hj⟩ => by
        subst hj
        have ht : t < n + 1 := by omega
        refine ⟨_, ?_, some (.v true (.int (t : Int))), rfl⟩
        have hsl : (sub ls t).length = n := by unfold sub; rw [List.length_map, hls]
        have hsw : ∀ z, z ∈ sub ls t → z.length = n := fun z hz => by
          obtain ⟨y, hy, rfl⟩ := List.mem_map.mp hz
          have := hl y (.tail _ hy)
          simp only [List.length_append, List.length_take, List.length_drop]; omega
        have hsb : ∀ z, z ∈ sub ls t → ∀ x, x ∈ z → x.natAbs ≤ 2 ^ b := fun z hz x hx => by
          obtain ⟨y, hy, rfl⟩ := List.mem_map.mp hz
          rcases List.mem_append.mp hx with hx | hx
          · exact hb y (.tail _ hy) x (List.mem_of_mem_take hx)
          · exact hb y (.tail _ hy) x (List.mem_of_mem_drop hx)
        have dd := ih (m := m) (k := true) hsl hsw hsb (by omega)
        have bits := lap_bits hsl hsw hsb (by omega)
        have hat := ln_at (l := l) (t := t) (by omega)
        have hx0 : (l.getD t 0).natAbs ≤ 2 ^ b := hb l (.head _) _ (by rw [List.getD_eq_getElem?_getD, List.getElem?_eq_getElem (by omega)]; exact List.getElem_mem _)
        have comp : compL (compF (csT tab (m + n + 1)) cs__law_det_e0 (.nm 3) [3] (fun j => .one (.v true ((mxD ls).getD j .non)))) 0 (mxD ls).length [some (.v k (.lst (mxD (l :: ls)))), some (.v true (.int (lsum (term n l ls) t))), some (.v true (.int (t : Int))), none] [] =
            some (mxD (sub ls t), [some (.v k (.lst (mxD (l :: ls)))), some (.v true (.int (lsum (term n l ls) t))), some (.v true (.int (t : Int))), none]) := by
          rw [mx_len, compL_map (fun j => lnD ((ls.getD j []).take t ++ (ls.getD j []).drop (t + 1))) fun j hj => ?_]
          · congr 1
            congr 1
            unfold mxD sub
            rw [List.map_map]
            refine List.ext_getElem (by simp) fun i a c => ?_
            have hi : i < ls.length := by simpa using a
            simp only [List.getElem_map, List.getElem_range, List.getD_eq_getElem?_getD, List.getElem?_eq_getElem hi, Function.comp]
            rfl
          · have hlj : (ls.getD j []).length = n + 1 := hl _ (.tail _ (by rw [List.getD_eq_getElem?_getD, List.getElem?_eq_getElem hj]; exact List.getElem_mem hj))
            unfold compF
            dsimp only
            rw [mx_get hj]
            generalize ls.getD j [] = y at *
            have c1 : DL.cutD (y.map D.int) none (some (t : Int)) = (y.take t).map D.int := by rw [cut_take, List.map_take]
            have c2 : DL.cutD (y.map D.int) (some ((t : Int) + 1)) none = (y.drop (t + 1)).map D.int := by
              rw [show (t : Int) + 1 = ((t + 1 : Nat) : Int) by omega, cut_drop, List.map_drop]
            have c3 : (y.take t).length + (y.drop (t + 1)).length ≤ sizeLine := by
              rw [List.length_take, List.length_drop]; omega
            have c4 : (y.take t).map D.int ++ (y.drop (t + 1)).map D.int = (y.take t ++ y.drop (t + 1)).map D.int := by rw [List.map_append]
            unfold lnD
            generalize mxD (l :: ls) = M
            generalize lsum (term n l ls) t = S
            clear ih hb hl hls hl0 m8 hz dlen hA0 hdr hsl hsw hsb dd bits hat hx0 hj hlj
            unfold cs__law_det_e0
            k_whileD _ _ _ "ev"
        have hls2 : (mxD ls).length ≤ sizeLine := by rw [mx_len]; omega
        have hlsum : lsum (term n l ls) (t + 1) = lsum (term n l ls) t + (1 - 2 * ((t : Int) % 2)) * l.getD t 0 * lap n (sub ls t) := rfl
        have hc2 : CMul 2 ((t : Int) % 2) := .inl ⟨by decide, by decide⟩
        have hc3 : CMlW (1 - 2 * ((t : Int) % 2)) (l.getD t 0) := .inl (.inl ⟨by omega, by omega⟩)
        have hc4 : CMlW ((1 - 2 * ((t : Int) % 2)) * l.getD t 0) (lap n (sub ls t)) := by
          refine .inr (mulx_ok (a := b + 2) (b := n * (b + 3) + 1) ?_ ?_ ?_)
          · have : ((1 - 2 * ((t : Int) % 2)) * l.getD t 0).natAbs = (l.getD t 0).natAbs := by
              rw [Int.natAbs_mul]
              have : (1 - 2 * ((t : Int) % 2)).natAbs = 1 := by omega
              rw [this, Nat.one_mul]
            rw [this, Nat.pow_add]
            have : 0 < 2 ^ b := Nat.pow_pos (by decide)
            omega
          · rw [Nat.pow_add]
            have : 0 < 2 ^ (n * (b + 3)) := Nat.pow_pos (by decide)
            omega
          · have : n * (b + 3) ≤ 8 * 100003 := Nat.mul_le_mul (by omega) (by omega)
            omega
        unfold forF
        dsimp only
        rw [hlsum]
        generalize l.getD t 0 = y at *
        generalize lap n (sub ls t) = Z at *
        generalize mxD (sub ls t) = SD at *
        generalize lsum (term n l ls) t = S at *
        have cd : DL.cutD (mxD (l :: ls)) (some 1) none = mxD ls := cut_drop (k := 1)
        generalize mxD ls = LS at *
        unfold lnD at hA0
        rw [show (l :: ls).getD 0 [] = l from rfl] at hA0
        have hA1 : atI (mxD (l :: ls)) 0 = some (.lst (l.map D.int)) := hA0
        clear hA0 hlsum
        generalize mxD (l :: ls) = M at *
        generalize l.map D.int = LD at *
        clear ih hb hl hls hl0 hz dlen hdr hsl hsw hsb bits hx0
        by_cases hy : y = 0
        · subst hy
          have e0 : S + (1 - 2 * ((t : Int) % 2)) * 0 * Z = S := by rw [Int.mul_zero, Int.zero_mul, Int.add_zero]
          rw [e0]
          clear dd comp hc2 hc3 hc4 e0
          unfold cs__law_det_f0
          k_whileD _ _ _ "ev"
        · unfold cs__law_det_f0
          k_whileD _ _ _ "ev"
    rw [Nat.zero_add] at g1
    show (evB (csT tab (m + n + 1)) [false] cs__law_det [some (.v k (.lst (mxD (l :: ls)))), none, none, none]).bind _ = _
    rw [lap_succ]
    have he : eqX (.lst (mxD (l :: ls))) (.lst []) = some false := by
      have e : eqL (.lst (mxD (l :: ls))) (.lst []) = some false := chk_pos (show (mxD (l :: ls)).length ≠ ([] : List DL.D).length by rw [dlen]; simp)
      unfold eqX
      rw [show eqS (.lst (mxD (l :: ls))) (.lst []) = none from rfl, e]; rfl
    have h0 : 0 ≤ sizeLine := Nat.zero_le _
    have hw2 : (-4611686018427387904 : Int) ≤ ((n + 1 : Nat) : Int) ∧ ((n + 1 : Nat) : Int) < 4611686018427387904 := by omega
    have hw3 : (((n + 1 : Nat) : Int)).toNat = n + 1 := Int.toNat_natCast _
    generalize lsum (term n l ls) (n + 1) = S at *
    generalize mxD (l :: ls) = M at *
    clear ih hb hl hls hl0 hz hA0 hdr m8
    unfold cs__law_det
    k_whileD _ _ _ "ev"
end K30
namespace K30
open PySem L2 DL RL PyProof.Rows LA
local macro_rules | `(tactic| k_whileD _ _ _ "ev") => `(tactic| simp only [*, is_non_list, is_non_tuple, is_non_bool, is_non_str, is_non_int, is_non_dict, pl_non, isn_non, is_bl_list, is_bl_tuple, is_bl_bool, is_bl_str, is_bl_int, is_bl_dict, pl_bl, isn_bl, is_int_list, is_int_tuple, is_int_bool, is_int_str, is_int_int, is_int_dict, pl_int, isn_int, is_str_list, is_str_tuple, is_str_bool, is_str_str, is_str_int, is_str_dict, pl_str, isn_str, is_lst_list, is_lst_tuple, is_lst_bool, is_lst_str, is_lst_int, is_lst_dict, pl_lst, isn_lst, is_tup_list, is_tup_tuple, is_tup_bool, is_tup_str, is_tup_int, is_tup_dict, pl_tup, isn_tup, is_dk_list, is_dk_tuple, is_dk_bool, is_dk_str, is_dk_int, is_dk_dict, pl_dk, isn_dk, qv_atN, qv_atL, qv_ixLit, qv_mulL, qv_fdivL, qv_modL, qv_powL, Nat.reduceLT, Nat.reduceLeDiff, Nat.reduceAdd, Nat.zero_add, Nat.add_zero, Int.reduceLT, Int.reduceLE, Int.reducePow, Int.reduceToNat, Int.reduceEq, Int.reduceNeg, Int.reduceAdd, Int.reduceSub, Int.reduceMul, and_self, and_true, true_and, eq_self, not_true_eq_false, not_false_eq_true,
  ob_o, ob_v, ob_n, ob_s, fr_nil, fr_0, fr_s, nt_t, nt_f, iv_cst, iv_bin, iv_neg, iv_no, iv_one, iv_conj, iv_disj, iv_cmp, iv_ite, iv_idx, iv_sl, iv_lst, iv_tup, iv_fn, iv_isi, iv_call, iv_app, iv_ext, iv_pop, iv_rev, iv_count, iv_join, iv_comp, iv_compI, iv_comp2, iv_dk0, bf_int, bf_str, bf_list, bf_tuple, bf_sum, bf_all, bf_any, bf_sorted, bf_lenSet, chk_true,
  b_nil, b_seq, b_set, b_setIx, b_set2, b_aug, b_setTp, b_set2o, b_swp, b_expr, b_ret, b_retN, b_ife, b_for, b_pass, b_brk, b_cont, qv_nx, qv_ct, qv_bk, qv_ret, m_own, m_var, m_any,
  e_cst, e_var, e_bin, e_neg, e_no, e_one, e_conj, e_disj, e_cmp, e_ite, e_idxO, e_idxV, e_idx, e_sl, e_lst, e_tup, e_lenO, e_fnV, e_fnL, e_fn, e_isi, e_call, e_app, e_ext, e_pop, e_ins, e_rev, e_count, e_join, e_comp, e_compI, e_comp2, e_dk0, f_range,
  t_no, t_one, t_conj, t_disj, t_cmp, t_chain, t_var, e_nem, t_nem, qv_truB, qv_truL, qv_truO, qv_nemO, qv_nemV, t_fn, t_isi, t_call, o_nil, o_one, a_nil, a_cons, a_star, s_nil, s_own, s_var, s_cons, w_range, w_range2, w_zip, w_enum, w_one,
  Option.bind_some, Option.bind_none, Option.map_some, List.getElem?_cons_zero, List.getElem?_cons_succ, List.set_cons_zero, List.set_cons_succ, chk_pos, List.length_cons, List.length_nil, List.length_map, List.all_cons, List.all_nil, Bool.and_true, Bool.true_and, Bool.false_and, Bool.and_false, Bool.and_self, Bool.not_false, Bool.not_true,
  qv_int, qv_bl, qv_str, qv_toT, qv_toO, qv_toI, qv_toS, qv_toB, qv_toN, qv_fixV, qv_fixO, qv_datV, qv_datO, qv_add, qv_addI, qv_addS, qv_addL, qv_sub, qv_mulC, qv_mulW, qv_fdivC, qv_fdivW, qv_rep, qv_iat0, qv_iatS, qv_tupS, qv_tup2, qv_se0, qv_seS, List.isEmpty_nil, List.isEmpty_cons, qv_modC, qv_powC, qv_in, qv_nin, qv_is, qv_isnt, qv_eq, qv_ne, qv_eqI, qv_eqS, qv_eqB, qv_lt, qv_le, qv_gt, qv_ge, qv_dle, qv_inS, qv_inL, qv_inT,
  qv_ixL, qv_ixT, qv_ixS, qv_lenL, qv_lenT, qv_lenO, qv_lenS, qv_itO, qv_itL, qv_itT, qv_itL', qv_itT', qv_sqO, qv_sqL, qv_sqT, qv_lsO, qv_lsV, qv_lkO, qv_lkT, qv_lkS, qv_len, qv_intf, qv_strf, qv_list, qv_tupleT, qv_tupleL, qv_tupleO, qv_sum, qv_all, qv_any, qv_sorted, qv_lenSet, qv_slS, qv_slL, qv_slO, qv_wkO, qv_wkL, qv_wkT, qv_wkS, qv_getO0, qv_getOS, qv_varV, qv_varO,
  qv_nvT, qv_nvI, qv_nvS, qv_nvB, qv_nvN, qv_nvO, qv_argV, qv_argO, qv_atp, qv_ixp, qv_isi1, qv_isi2, qv_call, qv_aNil, qv_aCons, qv_aEx, qv_aOwn, qv_aBor, qv_backV, qv_backO, qv_backB, qv_backN, if_true, if_false, Bool.false_eq_true, reduceIte, decide_true, decide_false, Bool.or_true, Bool.true_or, Bool.or_false, Bool.false_or, sc_non, sc_bl, sc_int, sc_str, sc_lst, sc_tup, sc_dk,
  mk_sv, kp_sv, bk_sv, no_sv, x_ext, wp_nil, wp_cons, mk_nil, mk_o, mk_v, mk_n, mg_nil, mg_cons, mg_t, mg_f, kp_v, kp_n, kp_o, bk_same, bk_o, bk_t, bk_f, bk_n, by_nm, by_two, no_nil, no_o, no_v, no_n, rb_v, rb_o, os_nil, os_o, os_v, fin_ret, fin_nx, List.contains_cons, List.contains_nil, Nat.reduceBEq, Nat.reduceEqDiff, List.nodup_cons, List.nodup_nil, varsOf, List.not_mem_nil, List.mem_cons, List.mem_singleton, or_false, false_or, or_true, true_or, decide_eq_true_eq, Tgt.ix, isOwn, List.map_cons, List.map_nil, List.cons_append, List.nil_append])
/-! ### _law_numbers -/
/-- lines of one width, of entries of at most e bits -/
structure Ln (L : List (List Int)) (w e : Nat) : Prop where
  w : ∀ l, l ∈ L → l.length = w
  b : ∀ l, l ∈ L → ∀ x, x ∈ l → x.natAbs ≤ 2 ^ e
theorem Ln.add {L : List (List Int)} {w e e' : Nat} {l : List Int} (h : Ln L w e) (he : e ≤ e') (hl : l.length = w) (hb : ∀ x, x ∈ l → x.natAbs ≤ 2 ^ e') : Ln (L ++ [l]) w e' := by
  refine ⟨fun y hy => ?_, fun y hy x hx => ?_⟩
  · rcases List.mem_append.mp hy with hy | hy
    · exact h.w y hy
    · rw [List.mem_singleton.mp hy]; exact hl
  · rcases List.mem_append.mp hy with hy | hy
    · exact Nat.le_trans (h.b y hy x hx) (Nat.pow_le_pow_right (by decide) he)
    · rw [List.mem_singleton.mp hy] at hx; exact hb x hx
abbrev FN (B : Bag) (k1 k2 : Bool) (many size : Int) (g : Bool) (L : List D) (a5 a6 a7 a8 a9 a10 : Option (Bool × D)) : DL.Env :=
  [some (.own B.ds), some (.v k1 (.int many)), some (.v k2 (.int size)), some (.v true (.bl g)), some (.own L), sv a5, sv a6, sv a7, sv a8, sv a9, sv a10, none, none, none, none, none]
section
variable {n size : Nat} {B : Bag} {k1 k2 g : Bool} {many : Int} {a5 a6 a7 a8 a9 a10 : Option (Bool × D)}
/-- x * a + y * b, two rows -/
theorem combo_comp {la lb : List Int} {x y : Int} {e : Nat} {M : List D} {way kk : D} (ha : la.length = size) (hb : lb.length = size) (hx : x.natAbs < 2 ^ 80) (hy : y.natAbs < 2 ^ 80) (ba : ∀ z, z ∈ la → z.natAbs ≤ 2 ^ e) (bb : ∀ z, z ∈ lb → z.natAbs ≤ 2 ^ e) (he : e ≤ 1000) :
    ∃ row : List Int, row.length = size ∧ (∀ z, z ∈ row → z.natAbs ≤ 2 ^ (e + 81)) ∧
    compL (compF (csT tab (n + 2)) cs__law_numbers_e0 (.tp [11, 12]) [11, 12] (fun t => .two true ((la.map D.int).getD t .non) true ((lb.map D.int).getD t .non))) 0 (min la.length lb.length)
      (FN B k1 k2 many size g M (some (true, kk)) (some (true, way)) (some (true, lnD la)) (some (true, lnD lb)) (some (true, .int x)) (some (true, .int y))) [] =
      some (row.map .int, FN B k1 k2 many size g M (some (true, kk)) (some (true, way)) (some (true, lnD la)) (some (true, lnD lb)) (some (true, .int x)) (some (true, .int y))) := by
  refine ⟨(List.range size).map fun t => x * la.getD t 0 + y * lb.getD t 0, by simp, fun z hz => ?_, ?_⟩
  · obtain ⟨t, ht, rfl⟩ := List.mem_map.mp hz
    have ht := List.mem_range.mp ht
    have h1 : (la.getD t 0).natAbs ≤ 2 ^ e := ba _ (by rw [List.getD_eq_getElem?_getD, List.getElem?_eq_getElem (by omega)]; exact List.getElem_mem _)
    have h2 : (lb.getD t 0).natAbs ≤ 2 ^ e := bb _ (by rw [List.getD_eq_getElem?_getD, List.getElem?_eq_getElem (by omega)]; exact List.getElem_mem _)
    have e1 : (x * la.getD t 0).natAbs ≤ 2 ^ 80 * 2 ^ e := by rw [Int.natAbs_mul]; exact Nat.mul_le_mul (by omega) h1
    have e2 : (y * lb.getD t 0).natAbs ≤ 2 ^ 80 * 2 ^ e := by rw [Int.natAbs_mul]; exact Nat.mul_le_mul (by omega) h2
    have e3 : 2 ^ (e + 81) = 2 * (2 ^ 80 * 2 ^ e) := by
      rw [show e + 81 = 1 + (80 + e) by omega, Nat.pow_add, Nat.pow_add]
    rw [e3]
    generalize 2 ^ 80 * 2 ^ e = Z at *
    omega
  · rw [ha, hb, Nat.min_self]
    rw [List.map_map]
    refine compL_map (fun t => .int (x * la.getD t 0 + y * lb.getD t 0)) fun t ht => ?_
    have q1 : (la.map D.int).getD t .non = .int (la.getD t 0) := by
      rw [List.getD_eq_getElem?_getD, List.getElem?_map, List.getElem?_eq_getElem (by omega), List.getD_eq_getElem?_getD, List.getElem?_eq_getElem (by omega)]; rfl
    have q2 : (lb.map D.int).getD t .non = .int (lb.getD t 0) := by
      rw [List.getD_eq_getElem?_getD, List.getElem?_map, List.getElem?_eq_getElem (by omega), List.getD_eq_getElem?_getD, List.getElem?_eq_getElem (by omega)]; rfl
    have h1 : (la.getD t 0).natAbs ≤ 2 ^ e := ba _ (by rw [List.getD_eq_getElem?_getD, List.getElem?_eq_getElem (by omega)]; exact List.getElem_mem _)
    have h2 : (lb.getD t 0).natAbs ≤ 2 ^ e := bb _ (by rw [List.getD_eq_getElem?_getD, List.getElem?_eq_getElem (by omega)]; exact List.getElem_mem _)
    have p0 : 2 ^ e < 2 ^ (e + 1) := Nat.pow_lt_pow_right (by decide) (by omega)
    have c1 : CMlW x (la.getD t 0) := .inr (mulx_ok (a := 80) (b := e + 1) hx (by omega) (by omega))
    have c2 : CMlW y (lb.getD t 0) := .inr (mulx_ok (a := 80) (b := e + 1) hy (by omega) (by omega))
    unfold compF FN sv
    dsimp only
    rw [q1, q2]
    generalize la.getD t 0 = u at *
    generalize lb.getD t 0 = v at *
    clear ha hb hx hy ba bb h1 h2 p0 q1 q2 ht he
    unfold lnD
    generalize la.map D.int = LA
    generalize lb.map D.int = LB
    simp only [Option.map_some]
    unfold cs__law_numbers_e0
    k_whileD _ _ _ "ev"
/-- a row of fresh numbers -/
theorem fresh_comp {M : List D} {way kk : D} (hB : B.Ok) : ∃ (B' : Bag) (row : List Int), B'.Ok ∧ row.length = size ∧ (∀ z, z ∈ row → z.natAbs < 2 ^ 80) ∧
    compL (compF (csT tab (n + 2)) cs__law_numbers_e1 (.nm 13) [13] (fun t => .one (.val (.int (t : Int))))) 0 size (FN B k1 k2 many size g M (some (true, kk)) (some (true, way)) a7 a8 a9 a10) [] =
      some (row.map .int, FN B' k1 k2 many size g M (some (true, kk)) (some (true, way)) a7 a8 a9 a10) := by
  obtain ⟨acc, ρ', h1, B', row, hB', rfl, rfl, hl, hb⟩ := compL_ind (f := compF (csT tab (n + 2)) cs__law_numbers_e1 (.nm 13) [13] (fun t => .one (.val (.int (t : Int)))))
    (fun t ρ acc => ∃ (B' : Bag) (row : List Int), B'.Ok ∧ ρ = FN B' k1 k2 many size g M (some (true, kk)) (some (true, way)) a7 a8 a9 a10 ∧ acc = row.map .int ∧ row.length = t ∧ ∀ z, z ∈ row → z.natAbs < 2 ^ 80) (m := size) (s := 0) (ρ := FN B k1 k2 many size g M (some (true, kk)) (some (true, way)) a7 a8 a9 a10) (acc := []) ⟨B, [], hB, rfl, rfl, rfl, fun z h => absurd h (by simp)⟩ fun t ρ acc _ ht ⟨B1, row, hB1, e1, e2, hl, hb⟩ => by
      subst e1 e2
      obtain ⟨B2, i, hB2, hi, d9⟩ := number_spec (n := n) hB1 (great := g) (k := true)
      have m9 : (csT tab (n + 2)).M 9 = [true, false] := cs_M (T := tab) (f := 9) rfl
      refine ⟨some (.int i), FN B2 k1 k2 many size g M (some (true, kk)) (some (true, way)) a7 a8 a9 a10, ?_, B2, row ++ [i], hB2, rfl, by simp, by simp [hl], fun z hz => ?_⟩
      · unfold compF FN
        dsimp only
        clear hb hi hB2 hB1
        unfold cs__law_numbers_e1
        k_whileD _ _ _ "ev"
      · rcases List.mem_append.mp hz with hz | hz
        · exact hb z hz
        · rw [List.mem_singleton.mp hz]; exact hi
  exact ⟨B', row, hB', by omega, hb, h1⟩
end
end K30
namespace K30
open PySem L2 DL RL PyProof.Rows LA
local macro_rules | `(tactic| k_whileD _ _ _ "ev") => `(tactic| simp only [*, is_non_list, is_non_tuple, is_non_bool, is_non_str, is_non_int, is_non_dict, pl_non, isn_non, is_bl_list, is_bl_tuple, is_bl_bool, is_bl_str, is_bl_int, is_bl_dict, pl_bl, isn_bl, is_int_list, is_int_tuple, is_int_bool, is_int_str, is_int_int, is_int_dict, pl_int, isn_int, is_str_list, is_str_tuple, is_str_bool, is_str_str, is_str_int, is_str_dict, pl_str, isn_str, is_lst_list, is_lst_tuple, is_lst_bool, is_lst_str, is_lst_int, is_lst_dict, pl_lst, isn_lst, is_tup_list, is_tup_tuple, is_tup_bool, is_tup_str, is_tup_int, is_tup_dict, pl_tup, isn_tup, is_dk_list, is_dk_tuple, is_dk_bool, is_dk_str, is_dk_int, is_dk_dict, pl_dk, isn_dk, qv_atN, qv_atL, qv_ixLit, qv_mulL, qv_fdivL, qv_modL, qv_powL, Nat.reduceLT, Nat.reduceLeDiff, Nat.reduceAdd, Nat.zero_add, Nat.add_zero, Int.reduceLT, Int.reduceLE, Int.reducePow, Int.reduceToNat, Int.reduceEq, Int.reduceNeg, Int.reduceAdd, Int.reduceSub, Int.reduceMul, and_self, and_true, true_and, eq_self, not_true_eq_false, not_false_eq_true,
  ob_o, ob_v, ob_n, ob_s, fr_nil, fr_0, fr_s, nt_t, nt_f, iv_cst, iv_bin, iv_neg, iv_no, iv_one, iv_conj, iv_disj, iv_cmp, iv_ite, iv_idx, iv_sl, iv_lst, iv_tup, iv_fn, iv_isi, iv_call, iv_app, iv_ext, iv_pop, iv_rev, iv_count, iv_join, iv_comp, iv_compI, iv_comp2, iv_dk0, bf_int, bf_str, bf_list, bf_tuple, bf_sum, bf_all, bf_any, bf_sorted, bf_lenSet, chk_true,
  b_nil, b_seq, b_set, b_setIx, b_set2, b_aug, b_setTp, b_set2o, b_swp, b_expr, b_ret, b_retN, b_ife, b_for, b_pass, b_brk, b_cont, qv_nx, qv_ct, qv_bk, qv_ret, m_own, m_var, m_any,
  e_cst, e_var, e_bin, e_neg, e_no, e_one, e_conj, e_disj, e_cmp, e_ite, e_idxO, e_idxV, e_idx, e_sl, e_lst, e_tup, e_lenO, e_fnV, e_fnL, e_fn, e_isi, e_call, e_app, e_ext, e_pop, e_ins, e_rev, e_count, e_join, e_comp, e_compI, e_comp2, e_dk0, f_range,
  t_no, t_one, t_conj, t_disj, t_cmp, t_chain, t_var, e_nem, t_nem, qv_truB, qv_truL, qv_truO, qv_nemO, qv_nemV, t_fn, t_isi, t_call, o_nil, o_one, a_nil, a_cons, a_star, s_nil, s_own, s_var, s_cons, w_range, w_range2, w_zip, w_enum, w_one,
  Option.bind_some, Option.bind_none, Option.map_some, List.getElem?_cons_zero, List.getElem?_cons_succ, List.set_cons_zero, List.set_cons_succ, chk_pos, List.length_cons, List.length_nil, List.length_map, List.all_cons, List.all_nil, Bool.and_true, Bool.true_and, Bool.false_and, Bool.and_false, Bool.and_self, Bool.not_false, Bool.not_true,
  qv_int, qv_bl, qv_str, qv_toT, qv_toO, qv_toI, qv_toS, qv_toB, qv_toN, qv_fixV, qv_fixO, qv_datV, qv_datO, qv_add, qv_addI, qv_addS, qv_addL, qv_sub, qv_mulC, qv_mulW, qv_fdivC, qv_fdivW, qv_rep, qv_iat0, qv_iatS, qv_tupS, qv_tup2, qv_se0, qv_seS, List.isEmpty_nil, List.isEmpty_cons, qv_modC, qv_powC, qv_in, qv_nin, qv_is, qv_isnt, qv_eq, qv_ne, qv_eqI, qv_eqS, qv_eqB, qv_lt, qv_le, qv_gt, qv_ge, qv_dle, qv_inS, qv_inL, qv_inT,
  qv_ixL, qv_ixT, qv_ixS, qv_lenL, qv_lenT, qv_lenO, qv_lenS, qv_itO, qv_itL, qv_itT, qv_itL', qv_itT', qv_sqO, qv_sqL, qv_sqT, qv_lsO, qv_lsV, qv_lkO, qv_lkT, qv_lkS, qv_len, qv_intf, qv_strf, qv_list, qv_tupleT, qv_tupleL, qv_tupleO, qv_sum, qv_all, qv_any, qv_sorted, qv_lenSet, qv_slS, qv_slL, qv_slO, qv_wkO, qv_wkL, qv_wkT, qv_wkS, qv_getO0, qv_getOS, qv_varV, qv_varO,
  qv_nvT, qv_nvI, qv_nvS, qv_nvB, qv_nvN, qv_nvO, qv_argV, qv_argO, qv_atp, qv_ixp, qv_isi1, qv_isi2, qv_call, qv_aNil, qv_aCons, qv_aEx, qv_aOwn, qv_aBor, qv_backV, qv_backO, qv_backB, qv_backN, if_true, if_false, Bool.false_eq_true, reduceIte, decide_true, decide_false, Bool.or_true, Bool.true_or, Bool.or_false, Bool.false_or, sc_non, sc_bl, sc_int, sc_str, sc_lst, sc_tup, sc_dk,
  mk_sv, kp_sv, bk_sv, no_sv, x_ext, wp_nil, wp_cons, mk_nil, mk_o, mk_v, mk_n, mg_nil, mg_cons, mg_t, mg_f, kp_v, kp_n, kp_o, bk_same, bk_o, bk_t, bk_f, bk_n, by_nm, by_two, no_nil, no_o, no_v, no_n, rb_v, rb_o, os_nil, os_o, os_v, fin_ret, fin_nx, List.contains_cons, List.contains_nil, Nat.reduceBEq, Nat.reduceEqDiff, List.nodup_cons, List.nodup_nil, varsOf, List.not_mem_nil, List.mem_cons, List.mem_singleton, or_false, false_or, or_true, true_or, decide_eq_true_eq, Tgt.ix, isOwn, List.map_cons, List.map_nil, List.cons_append, List.nil_append])
section
variable {n size t : Nat} {B : Bag} {k1 k2 g : Bool} {many : Int} {a6 a7 a8 a9 a10 : Option (Bool × D)}
theorem mx_snoc (L : List (List Int)) (l : List Int) : mxD L ++ [.lst (l.map .int)] = mxD (L ++ [l]) := by
  unfold mxD lnD; rw [List.map_append]; rfl
theorem numbers_step {L : List (List Int)} (hB : B.Ok) (hL : L.length = t) (hW : Ln L size (81 * t)) (ht : t < 10) (hs : size < 100) :
    ∃ (B' : Bag) (row : List Int) (b6 b7 b8 b9 b10 : Option (Bool × D)), B'.Ok ∧ row.length = size ∧ (∀ z, z ∈ row → z.natAbs ≤ 2 ^ (81 * (t + 1))) ∧
    evB (csT tab (n + 3)) [true, false, false] cs__law_numbers_f0 (FN B k1 k2 many size g (mxD L) (some (true, .int (t : Int))) a6 a7 a8 a9 a10) =
      some (.nx (FN B' k1 k2 many size g (mxD (L ++ [row])) (some (true, .int (t : Int))) b6 b7 b8 b9 b10)) := by
  have hz := size_eq
  have m4 : (csT tab (n + 3)).M 4 = [true, false] := cs_M (T := tab) (f := 4) rfl
  have m5 : (csT tab (n + 3)).M 5 = [true, false] := cs_M (T := tab) (f := 5) rfl
  have m9 : (csT tab (n + 3)).M 9 = [true, false] := cs_M (T := tab) (f := 9) rfl
  have d1 := draw_spec (n := n + 2) hB (t := 8) (by omega) (by omega) (k := true)
  have e1 := digit_lt (B := B) (t := 8) (by omega)
  have hB1 := next_ok hB (t := 8) (by omega)
  generalize B.next 8 = B1 at *
  generalize B.digit 8 = w at *
  have len : (mxD L).length = t := by rw [mx_len, hL]
  have s4 : (mxD L).length < sizeLine := by omega
  have pick : ∀ {B : Bag}, B.Ok → 0 < t → ∃ (l : List Int) (B' : Bag), l ∈ L ∧ B'.Ok ∧ (csT tab (n + 3)).C 5 [.own B.ds, .v false (.lst (mxD L))] = some (.val (lnD l), [.own B'.ds, .v false (.lst (mxD L))]) := fun {B} hB h0 => by
    have d5 := of_spec (n := n + 1) hB (ds := mxD L) (by omega) (by omega) (k := false)
    have hd := digit_lt (B := B) (t := (mxD L).length) (by omega)
    rw [mx_get (by omega)] at d5
    exact ⟨_, _, by rw [List.getD_eq_getElem?_getD, List.getElem?_eq_getElem (by omega)]; exact List.getElem_mem _, next_ok hB (by omega), d5⟩
  have pw : 81 * (t + 1) = 81 * t + 81 := by omega
  have p80 : 2 ^ 80 ≤ 2 ^ (81 * (t + 1)) := Nat.pow_le_pow_right (by decide) (by omega)
  have fresh : ∀ {B : Bag}, B.Ok → _ := fun {B} hB => fresh_comp (n := n + 1) (size := size) (B := B) (k1 := k1) (k2 := k2) (g := g) (many := many) (a7 := a7) (a8 := a8) (a9 := a9) (a10 := a10) (M := mxD L) (way := .int w) (kk := .int (t : Int)) hB
  have w2 : (-4611686018427387904 : Int) ≤ (size : Int) ∧ (size : Int) < 4611686018427387904 := by omega
  have w3 : ((size : Int)).toNat = size := Int.toNat_natCast _
  have w4 : size ≤ sizeLine := by omega
  by_cases c1 : w = 0 ∧ 1 < t
  · obtain ⟨rfl, c2⟩ := c1
    obtain ⟨la, B2, hla, hB2, q1⟩ := pick hB1 (by omega)
    obtain ⟨lb, B3, hlb, hB3, q2⟩ := pick hB2 (by omega)
    obtain ⟨B4, x, hB4, hx, q3⟩ := number_spec (n := n + 1) hB3 (great := g) (k := true)
    obtain ⟨B5, y, hB5, hy, q4⟩ := number_spec (n := n + 1) hB4 (great := g) (k := true)
    obtain ⟨row, hr1, hr2, hr3⟩ := combo_comp (n := n + 1) (size := size) (B := B5) (k1 := k1) (k2 := k2) (g := g) (many := many) (la := la) (lb := lb) (x := x) (y := y) (e := 81 * t) (M := mxD L) (way := .int 0) (kk := .int (t : Int)) (hW.w la hla) (hW.w lb hlb) hx hy (hW.b la hla) (hW.b lb hlb) (by omega)
    refine ⟨B5, row, some (true, .int 0), some (true, lnD la), some (true, lnD lb), some (true, .int x), some (true, .int y), hB5, hr1, by rw [pw]; exact hr2, ?_⟩
    rw [← mx_snoc]
    have lw : min la.length lb.length ≤ sizeLine := by rw [hW.w la hla]; omega
    have c3 : (1 : Int) < (t : Int) := by omega
    have s2 : 2 ≤ sizeLine := by omega
    unfold lnD at q1 q2 hr3 ⊢
    unfold FN sv at *
    generalize mxD L = M at *
    clear hB hB1 hB2 hB3 hB4 hB5 hx hy hr1 hr2 hL hW hs ht len pick pw p80 fresh hz w2 w3 w4 e1 c2 hla hlb
    simp only [Option.map_some] at *
    unfold cs__law_numbers_f0
    k_whileD _ _ _ "ev"
  · have c1' : ¬ (w = 0 ∧ (1 : Int) < (t : Int)) := fun q => c1 ⟨q.1, by omega⟩
    by_cases c2 : w = 1 ∧ 0 < t
    · obtain ⟨rfl, c3⟩ := c2
      obtain ⟨la, B2, hla, hB2, q1⟩ := pick hB1 c3
      refine ⟨B2, la, some (true, .int 1), a7, a8, a9, a10, hB2, hW.w la hla, fun z hz => Nat.le_trans (hW.b la hla z hz) (Nat.pow_le_pow_right (by decide) (by omega)), ?_⟩
      rw [← mx_snoc]
      have c4 : (0 : Int) < (t : Int) := by omega
      unfold lnD at q1
      unfold FN sv at *
      generalize mxD L = M at *
      clear hB hB1 hB2 hL hW hs ht len pick pw p80 fresh hz w2 w3 w4 e1 c3 c1 c1' hla m9
      simp only [Option.map_some] at *
      unfold cs__law_numbers_f0
      k_whileD _ _ _ "ev"
    · have c2' : ¬ (w = 1 ∧ (0 : Int) < (t : Int)) := fun q => c2 ⟨q.1, by omega⟩
      by_cases c3 : w = 2
      · subst c3
        have d2 := draw_spec (n := n + 2) hB1 (t := 3) (by omega) (by omega) (k := true)
        have hB2 := next_ok hB1 (t := 3) (by omega)
        generalize B1.next 3 = B2 at *
        generalize B1.digit 3 = u at *
        by_cases c4 : u = 0
        · subst c4
          refine ⟨B2, List.replicate size 0, some (true, .int 2), a7, a8, a9, a10, hB2, by simp, fun z hz => by rw [List.eq_of_mem_replicate hz]; exact Nat.zero_le _, ?_⟩
          rw [← mx_snoc]
          have r1 : (List.replicate size [D.int 0]).flatten = (List.replicate size (0 : Int)).map D.int := by
            rw [List.map_replicate]
            have : ∀ k : Nat, (List.replicate k [D.int 0]).flatten = List.replicate k (D.int 0) := by
              intro k
              induction k with
              | zero => rfl
              | succ k ih => rw [List.replicate_succ, List.flatten_cons, ih, List.replicate_succ]; rfl
            exact this size
          have r2 : -(2 ^ 63) ≤ (size : Int) ∧ (size : Int) < 2 ^ 63 ∧ [D.int 0].length * ((size : Int)).toNat ≤ sizeLine := by
            rw [w3]
            exact ⟨by omega, by omega, by rw [List.length_singleton]; omega⟩
          have r3 : 1 ≤ sizeLine := by omega
          rw [List.length_singleton, w3, show ((2 : Int) ^ 63) = 9223372036854775808 by decide] at r2
          unfold FN sv at *
          generalize mxD L = M at *
          clear hB hB1 hB2 hL hW hs ht len pick pw p80 fresh hz w2 w4 e1 c1 c1' c2 c2' m9 m5
          simp only [Option.map_some] at *
          unfold cs__law_numbers_f0
          k_whileD _ _ _ "ev"
        · obtain ⟨B3, row, hB3, hr1, hr2, hr3⟩ := fresh hB2
          refine ⟨B3, row, some (true, .int 2), a7, a8, a9, a10, hB3, hr1, fun z hz => Nat.le_trans (Nat.le_of_lt (hr2 z hz)) p80, ?_⟩
          rw [← mx_snoc]
          unfold FN sv at *
          generalize mxD L = M at *
          clear hB hB1 hB2 hB3 hL hW hs ht len pick pw p80 fresh hz e1 c1 c1' c2 c2' hr1 hr2 m5
          simp only [Option.map_some] at *
          unfold cs__law_numbers_f0
          k_whileD _ _ _ "ev"
      · obtain ⟨B3, row, hB3, hr1, hr2, hr3⟩ := fresh hB1
        refine ⟨B3, row, some (true, .int w), a7, a8, a9, a10, hB3, hr1, fun z hz => Nat.le_trans (Nat.le_of_lt (hr2 z hz)) p80, ?_⟩
        rw [← mx_snoc]
        unfold FN sv at *
        generalize mxD L = M at *
        clear hB hB1 hB3 hL hW hs ht len pick pw p80 fresh hz e1 hr1 hr2 m5
        simp only [Option.map_some] at *
        by_cases z0 : w = 0
        · subst z0
          have z2 : ¬ (1 : Int) < (t : Int) := fun q => c1' ⟨rfl, q⟩
          clear c1 c1' c2 c2' c3
          unfold cs__law_numbers_f0
          k_whileD _ _ _ "ev"
        · by_cases z1 : w = 1
          · subst z1
            have z2 : ¬ (0 : Int) < (t : Int) := fun q => c2' ⟨rfl, q⟩
            clear c1 c1' c2 c2' c3 z0
            unfold cs__law_numbers_f0
            k_whileD _ _ _ "ev"
          · clear c1 c1' c2 c2'
            unfold cs__law_numbers_f0
            k_whileD _ _ _ "ev"
end
end K30
namespace K30
open PySem L2 DL RL PyProof.Rows LA
local macro_rules | `(tactic| k_whileD _ _ _ "ev") => `(tactic| simp only [*, is_non_list, is_non_tuple, is_non_bool, is_non_str, is_non_int, is_non_dict, pl_non, isn_non, is_bl_list, is_bl_tuple, is_bl_bool, is_bl_str, is_bl_int, is_bl_dict, pl_bl, isn_bl, is_int_list, is_int_tuple, is_int_bool, is_int_str, is_int_int, is_int_dict, pl_int, isn_int, is_str_list, is_str_tuple, is_str_bool, is_str_str, is_str_int, is_str_dict, pl_str, isn_str, is_lst_list, is_lst_tuple, is_lst_bool, is_lst_str, is_lst_int, is_lst_dict, pl_lst, isn_lst, is_tup_list, is_tup_tuple, is_tup_bool, is_tup_str, is_tup_int, is_tup_dict, pl_tup, isn_tup, is_dk_list, is_dk_tuple, is_dk_bool, is_dk_str, is_dk_int, is_dk_dict, pl_dk, isn_dk, qv_atN, qv_atL, qv_ixLit, qv_mulL, qv_fdivL, qv_modL, qv_powL, Nat.reduceLT, Nat.reduceLeDiff, Nat.reduceAdd, Nat.zero_add, Nat.add_zero, Int.reduceLT, Int.reduceLE, Int.reducePow, Int.reduceToNat, Int.reduceEq, Int.reduceNeg, Int.reduceAdd, Int.reduceSub, Int.reduceMul, and_self, and_true, true_and, eq_self, not_true_eq_false, not_false_eq_true,
  ob_o, ob_v, ob_n, ob_s, fr_nil, fr_0, fr_s, nt_t, nt_f, iv_cst, iv_bin, iv_neg, iv_no, iv_one, iv_conj, iv_disj, iv_cmp, iv_ite, iv_idx, iv_sl, iv_lst, iv_tup, iv_fn, iv_isi, iv_call, iv_app, iv_ext, iv_pop, iv_rev, iv_count, iv_join, iv_comp, iv_compI, iv_comp2, iv_dk0, bf_int, bf_str, bf_list, bf_tuple, bf_sum, bf_all, bf_any, bf_sorted, bf_lenSet, chk_true,
  b_nil, b_seq, b_set, b_setIx, b_set2, b_aug, b_setTp, b_set2o, b_swp, b_expr, b_ret, b_retN, b_ife, b_for, b_pass, b_brk, b_cont, qv_nx, qv_ct, qv_bk, qv_ret, m_own, m_var, m_any,
  e_cst, e_var, e_bin, e_neg, e_no, e_one, e_conj, e_disj, e_cmp, e_ite, e_idxO, e_idxV, e_idx, e_sl, e_lst, e_tup, e_lenO, e_fnV, e_fnL, e_fn, e_isi, e_call, e_app, e_ext, e_pop, e_ins, e_rev, e_count, e_join, e_comp, e_compI, e_comp2, e_dk0, f_range,
  t_no, t_one, t_conj, t_disj, t_cmp, t_chain, t_var, e_nem, t_nem, qv_truB, qv_truL, qv_truO, qv_nemO, qv_nemV, t_fn, t_isi, t_call, o_nil, o_one, a_nil, a_cons, a_star, s_nil, s_own, s_var, s_cons, w_range, w_range2, w_zip, w_enum, w_one,
  Option.bind_some, Option.bind_none, Option.map_some, List.getElem?_cons_zero, List.getElem?_cons_succ, List.set_cons_zero, List.set_cons_succ, chk_pos, List.length_cons, List.length_nil, List.length_map, List.all_cons, List.all_nil, Bool.and_true, Bool.true_and, Bool.false_and, Bool.and_false, Bool.and_self, Bool.not_false, Bool.not_true,
  qv_int, qv_bl, qv_str, qv_toT, qv_toO, qv_toI, qv_toS, qv_toB, qv_toN, qv_fixV, qv_fixO, qv_datV, qv_datO, qv_add, qv_addI, qv_addS, qv_addL, qv_sub, qv_mulC, qv_mulW, qv_fdivC, qv_fdivW, qv_rep, qv_iat0, qv_iatS, qv_tupS, qv_tup2, qv_se0, qv_seS, List.isEmpty_nil, List.isEmpty_cons, qv_modC, qv_powC, qv_in, qv_nin, qv_is, qv_isnt, qv_eq, qv_ne, qv_eqI, qv_eqS, qv_eqB, qv_lt, qv_le, qv_gt, qv_ge, qv_dle, qv_inS, qv_inL, qv_inT,
  qv_ixL, qv_ixT, qv_ixS, qv_lenL, qv_lenT, qv_lenO, qv_lenS, qv_itO, qv_itL, qv_itT, qv_itL', qv_itT', qv_sqO, qv_sqL, qv_sqT, qv_lsO, qv_lsV, qv_lkO, qv_lkT, qv_lkS, qv_len, qv_intf, qv_strf, qv_list, qv_tupleT, qv_tupleL, qv_tupleO, qv_sum, qv_all, qv_any, qv_sorted, qv_lenSet, qv_slS, qv_slL, qv_slO, qv_wkO, qv_wkL, qv_wkT, qv_wkS, qv_getO0, qv_getOS, qv_varV, qv_varO,
  qv_nvT, qv_nvI, qv_nvS, qv_nvB, qv_nvN, qv_nvO, qv_argV, qv_argO, qv_atp, qv_ixp, qv_isi1, qv_isi2, qv_call, qv_aNil, qv_aCons, qv_aEx, qv_aOwn, qv_aBor, qv_backV, qv_backO, qv_backB, qv_backN, if_true, if_false, Bool.false_eq_true, reduceIte, decide_true, decide_false, Bool.or_true, Bool.true_or, Bool.or_false, Bool.false_or, sc_non, sc_bl, sc_int, sc_str, sc_lst, sc_tup, sc_dk,
  mk_sv, kp_sv, bk_sv, no_sv, x_ext, wp_nil, wp_cons, mk_nil, mk_o, mk_v, mk_n, mg_nil, mg_cons, mg_t, mg_f, kp_v, kp_n, kp_o, bk_same, bk_o, bk_t, bk_f, bk_n, by_nm, by_two, no_nil, no_o, no_v, no_n, rb_v, rb_o, os_nil, os_o, os_v, fin_ret, fin_nx, List.contains_cons, List.contains_nil, Nat.reduceBEq, Nat.reduceEqDiff, List.nodup_cons, List.nodup_nil, varsOf, List.not_mem_nil, List.mem_cons, List.mem_singleton, or_false, false_or, or_true, true_or, decide_eq_true_eq, Tgt.ix, isOwn, List.map_cons, List.map_nil, List.cons_append, List.nil_append])
theorem zcol_comp {n a size : Nat} {ρ4 : List (List Int)} {F1 F2 : DL.Env} {B : Bag} {k1 k2 g : Bool} {many : Int} {a5 a6 a7 a8 a9 a10 : Option (Bool × D)} (hw : ∀ l, l ∈ ρ4 → l.length = size) (ha : a < size) (hs : size < 100) :
    compL (compF (csT tab (n + 3)) cs__law_numbers_e2 (.nm 15) [15] (fun t => .one (.v true ((mxD ρ4).getD t .non)))) 0 (mxD ρ4).length
      [some (.own B.ds), some (.v k1 (.int many)), some (.v k2 (.int (size : Int))), some (.v true (.bl g)), some (.v true (.lst (mxD ρ4))), sv a5, sv a6, sv a7, sv a8, sv a9, sv a10, none, none, none, some (.v true (.int (a : Int))), none] [] =
      some (mxD (ρ4.map fun l => l.take a ++ [0] ++ l.drop (a + 1)), [some (.own B.ds), some (.v k1 (.int many)), some (.v k2 (.int (size : Int))), some (.v true (.bl g)), some (.v true (.lst (mxD ρ4))), sv a5, sv a6, sv a7, sv a8, sv a9, sv a10, none, none, none, some (.v true (.int (a : Int))), none]) := by
  have hz := size_eq
  rw [mx_len, compL_map (fun j => lnD ((ρ4.getD j []).take a ++ [0] ++ (ρ4.getD j []).drop (a + 1))) fun j hj => ?_]
  · congr 1
    congr 1
    unfold mxD
    rw [List.map_map]
    refine List.ext_getElem (by simp) fun i p q => ?_
    have hi : i < ρ4.length := by simpa using p
    simp only [List.getElem_map, List.getElem_range, List.getD_eq_getElem?_getD, List.getElem?_eq_getElem hi, Function.comp]
    rfl
  · have hl : (ρ4.getD j []).length = size := hw _ (by rw [List.getD_eq_getElem?_getD, List.getElem?_eq_getElem hj]; exact List.getElem_mem hj)
    unfold compF
    dsimp only
    rw [mx_get hj]
    generalize ρ4.getD j [] = y at *
    have c1 : DL.cutD (y.map D.int) none (some (a : Int)) = (y.take a).map D.int := by rw [cut_take, List.map_take]
    have c2 : DL.cutD (y.map D.int) (some ((a : Int) + 1)) none = (y.drop (a + 1)).map D.int := by
      rw [show (a : Int) + 1 = ((a + 1 : Nat) : Int) by omega, cut_drop, List.map_drop]
    have c3 : (y.take a).length + 1 ≤ sizeLine := by rw [List.length_take]; omega
    have c4 : ((y.take a).map D.int ++ [D.int 0]).length + (y.drop (a + 1)).length ≤ sizeLine := by rw [List.length_append, List.length_map, List.length_singleton, List.length_take, List.length_drop]; omega
    have c5 : (y.take a).map D.int ++ [D.int 0] ++ (y.drop (a + 1)).map D.int = (y.take a ++ [0] ++ y.drop (a + 1)).map D.int := by simp
    have c7 : 1 ≤ sizeLine := by omega
    unfold lnD
    generalize mxD ρ4 = M
    rw [← c5]
    clear c5 hw ha hs hz hl hj
    unfold cs__law_numbers_e2
    k_whileD _ _ _ "ev"
theorem lift_mx {es : List D} {L : List (List Int)} (h : ∀ x, x ∈ es ↔ x ∈ mxD L) : ∃ A, es = mxD A ∧ ∀ l, l ∈ A → l ∈ L := by
  obtain ⟨A, e, h2⟩ := LA.lift_map (f := lnD) (is := L) (xs := es) fun x hx => (h x).mp hx
  exact ⟨A, e, h2⟩
theorem numbers_spec {n many size : Nat} {B : Bag} {k1 k2 : Bool} (hB : B.Ok) (hm : many < 10) (hs : size < 100) :
    ∃ (B' : Bag) (A : List (List Int)), B'.Ok ∧ A.length = many ∧ Ln A size 810 ∧
    (csT tab (n + 4)).C 10 [.own B.ds, .v k1 (.int (many : Int)), .v k2 (.int (size : Int))] = some (.own (mxD A), [.own B'.ds, .v k1 (.int (many : Int)), .v k2 (.int (size : Int))]) := by
  rw [call_eq (T := tab) (f := 10) rfl rfl]
  have hz := size_eq
  have m4 : (csT tab (n + 3)).M 4 = [true, false] := cs_M (T := tab) (f := 4) rfl
  have m6 : (csT tab (n + 3)).M 6 = [true, false] := cs_M (T := tab) (f := 6) rfl
  have d1 := draw_spec (n := n + 2) hB (t := 4) (by omega) (by omega) (k := true)
  have hB1 := next_ok hB (t := 4) (by omega)
  generalize B.next 4 = B1 at *
  generalize B.digit 4 = w at *
  obtain ⟨ρ', g1, B2, L, b5, b6, b7, b8, b9, b10, hB2, hL, hW, rfl⟩ := forL_ind (f := forF (csT tab (n + 3)) [true, false, false] (.nm 5) (fun t => .one (.val (.int (t : Int)))) cs__law_numbers_f0)
    (fun t ρ => ∃ (B' : Bag) (L : List (List Int)) (b5 b6 b7 b8 b9 b10 : Option (Bool × D)), B'.Ok ∧ L.length = t ∧ Ln L size (81 * t) ∧ ρ = FN B' k1 k2 many size (decide (w = 0)) (mxD L) b5 b6 b7 b8 b9 b10) (m := many) (s := 0) (ρ := FN B1 k1 k2 many size (decide (w = 0)) (mxD []) none none none none none none) ⟨B1, [], none, none, none, none, none, none, hB1, rfl, ⟨fun l h => absurd h (by simp), fun l h => absurd h (by simp)⟩, rfl⟩ fun t ρ _ ht ⟨B', L, b5, b6, b7, b8, b9, b10, hB', hL, hW, hj⟩ => by
      subst hj
      obtain ⟨B2, row, c6, c7, c8, c9, c10, h1, h2, h3, h4⟩ := numbers_step (n := n) (k1 := k1) (k2 := k2) (g := decide (w = 0)) (many := many) (a6 := b6) (a7 := b7) (a8 := b8) (a9 := b9) (a10 := b10) hB' hL hW (by omega) hs
      refine ⟨_, ?_, B2, L ++ [row], some (true, .int (t : Int)), c6, c7, c8, c9, c10, h1, by simp [hL], hW.add (by omega) h2 h3, rfl⟩
      exact h4
  rw [Nat.zero_add] at hL hW
  have hWb : Ln L size 810 := ⟨hW.w, fun l hl x hx => Nat.le_trans (hW.b l hl x hx) (Nat.pow_le_pow_right (by decide) (by omega))⟩
  have w2 : (-4611686018427387904 : Int) ≤ (many : Int) ∧ (many : Int) < 4611686018427387904 := by omega
  have w3 : ((many : Int)).toNat = many := Int.toNat_natCast _
  have h0 : 0 ≤ sizeLine := Nat.zero_le _
  have e0 : (mxD ([] : List (List Int))) = [] := rfl
  rw [e0] at g1
  have len : (mxD L).length = many := by rw [mx_len, hL]
  -- the end: mixed
  have fin : ∀ {B : Bag} {L : List (List Int)}, B.Ok → L.length = many → Ln L size 810 → ∃ (B' : Bag) (A : List (List Int)), B'.Ok ∧ A.length = many ∧ Ln A size 810 ∧ (csT tab (n + 3)).C 6 [.own B.ds, .v false (.lst (mxD L))] = some (.own (mxD A), [.own B'.ds, .v false (.lst (mxD L))]) := fun {B L} hB hL hW => by
    obtain ⟨B', es, h1, h2, h3, h4⟩ := mixed_spec (n := n + 1) hB (ds := mxD L) (by rw [mx_len]; omega) (k := false)
    obtain ⟨A, rfl, h5⟩ := lift_mx h2
    exact ⟨B', A, h1, by rw [mx_len, mx_len] at h3; omega, ⟨fun l hl => hW.w l (h5 l hl), fun l hl => hW.b l (h5 l hl)⟩, h4⟩
  by_cases hs0 : size = 0
  · obtain ⟨B3, A, h1, h2, h3, h4⟩ := fin hB2 hL hWb
    refine ⟨B3, A, h1, h2, h3, ?_⟩
    show (evB (csT tab (n + 3)) [true, false, false] cs__law_numbers [some (.own B.ds), some (.v k1 (.int (many : Int))), some (.v k2 (.int (size : Int))), none, none, none, none, none, none, none, none, none, none, none, none, none]).bind _ = _
    have e1 : ¬ (0 : Int) < (size : Int) := by omega
    unfold FN at g1
    generalize mxD L = M at *
    generalize mxD A = MA at *
    clear hB hB1 hB2 hL hW hWb fin h1 h2 h3 hz hs0 hs
    have sn : sv none = none := rfl
    rw [sn] at g1
    unfold cs__law_numbers
    k_whileD _ _ _ "ev"
  · have hsp : (0 : Int) < (size : Int) := by omega
    have d2 := draw_spec (n := n + 2) hB2 (t := 8) (by omega) (by omega) (k := true)
    have hB3 := next_ok hB2 (t := 8) (by omega)
    generalize B2.next 8 = B3 at *
    generalize B2.digit 8 = u at *
    by_cases hu : u = 0
    · subst hu
      have d3 := draw_spec (n := n + 2) hB3 (t := (size : Int)) (by omega) (by omega) (k := k2 || true)
      have hd := digit_lt (B := B3) (t := (size : Int)) (by omega)
      have hB4 := next_ok hB3 (t := (size : Int)) (by omega)
      generalize B3.next (size : Int) = B4 at *
      obtain ⟨a, ha⟩ : ∃ a : Nat, B3.digit (size : Int) = (a : Int) := ⟨(B3.digit (size : Int)).toNat, by omega⟩
      rw [ha] at d3 hd
      have zc := zcol_comp (n := n) (a := a) (size := size) (ρ4 := L) (F1 := []) (F2 := []) (B := B4) (k1 := k1) (k2 := k2) (g := decide (w = 0)) (many := many) (a5 := b5) (a6 := b6) (a7 := b7) (a8 := b8) (a9 := b9) (a10 := b10) hW.w (by omega) hs
      have hL2 : (L.map fun l => l.take a ++ [0] ++ l.drop (a + 1)).length = many := by rw [List.length_map, hL]
      have hW2 : Ln (L.map fun l => l.take a ++ [0] ++ l.drop (a + 1)) size 810 := by
        refine ⟨fun l hl => ?_, fun l hl x hx => ?_⟩
        · obtain ⟨y, hy, rfl⟩ := List.mem_map.mp hl
          have := hWb.w y hy
          simp only [List.length_append, List.length_take, List.length_drop, List.length_singleton]; omega
        · obtain ⟨y, hy, rfl⟩ := List.mem_map.mp hl
          rcases List.mem_append.mp hx with hx | hx
          · rcases List.mem_append.mp hx with hx | hx
            · exact hWb.b y hy x (List.mem_of_mem_take hx)
            · rw [List.mem_singleton.mp hx]; exact Nat.zero_le _
          · exact hWb.b y hy x (List.mem_of_mem_drop hx)
      obtain ⟨B5, A, h1, h2, h3, h4⟩ := fin hB4 hL2 hW2
      refine ⟨B5, A, h1, h2, h3, ?_⟩
      show (evB (csT tab (n + 3)) [true, false, false] cs__law_numbers [some (.own B.ds), some (.v k1 (.int (many : Int))), some (.v k2 (.int (size : Int))), none, none, none, none, none, none, none, none, none, none, none, none, none]).bind _ = _
      have lm : (mxD L).length ≤ sizeLine := by omega
      have kk : (k2 || true) = true := Bool.or_true _
      rw [kk] at d3
      unfold FN at g1
      generalize mxD (L.map fun l => l.take a ++ [0] ++ l.drop (a + 1)) = M2 at *
      generalize mxD L = M at *
      generalize mxD A = MA at *
      clear hB hB1 hB2 hB3 hB4 hL hW hWb fin h1 h2 h3 hz hL2 hW2 ha hd len kk
      have sn : sv none = none := rfl
      rw [sn] at g1
      unfold cs__law_numbers
      k_whileD _ _ _ "ev"
    · obtain ⟨B4, A, h1, h2, h3, h4⟩ := fin hB3 hL hWb
      refine ⟨B4, A, h1, h2, h3, ?_⟩
      show (evB (csT tab (n + 3)) [true, false, false] cs__law_numbers [some (.own B.ds), some (.v k1 (.int (many : Int))), some (.v k2 (.int (size : Int))), none, none, none, none, none, none, none, none, none, none, none, none, none]).bind _ = _
      unfold FN at g1
      generalize mxD L = M at *
      generalize mxD A = MA at *
      clear hB hB1 hB2 hB3 hL hW hWb fin h1 h2 h3 hz len
      have sn : sv none = none := rfl
      rw [sn] at g1
      unfold cs__law_numbers
      k_whileD _ _ _ "ev"
end K30
namespace K30
open PySem L2 DL RL PyProof.Rows LA
local macro_rules | `(tactic| k_whileD _ _ _ "ev") => `(tactic| simp only [*, is_non_list, is_non_tuple, is_non_bool, is_non_str, is_non_int, is_non_dict, pl_non, isn_non, is_bl_list, is_bl_tuple, is_bl_bool, is_bl_str, is_bl_int, is_bl_dict, pl_bl, isn_bl, is_int_list, is_int_tuple, is_int_bool, is_int_str, is_int_int, is_int_dict, pl_int, isn_int, is_str_list, is_str_tuple, is_str_bool, is_str_str, is_str_int, is_str_dict, pl_str, isn_str, is_lst_list, is_lst_tuple, is_lst_bool, is_lst_str, is_lst_int, is_lst_dict, pl_lst, isn_lst, is_tup_list, is_tup_tuple, is_tup_bool, is_tup_str, is_tup_int, is_tup_dict, pl_tup, isn_tup, is_dk_list, is_dk_tuple, is_dk_bool, is_dk_str, is_dk_int, is_dk_dict, pl_dk, isn_dk, qv_atN, qv_atL, qv_ixLit, qv_mulL, qv_fdivL, qv_modL, qv_powL, Nat.reduceLT, Nat.reduceLeDiff, Nat.reduceAdd, Nat.zero_add, Nat.add_zero, Int.reduceLT, Int.reduceLE, Int.reducePow, Int.reduceToNat, Int.reduceEq, Int.reduceNeg, Int.reduceAdd, Int.reduceSub, Int.reduceMul, and_self, and_true, true_and, eq_self, not_true_eq_false, not_false_eq_true,
  ob_o, ob_v, ob_n, ob_s, fr_nil, fr_0, fr_s, nt_t, nt_f, iv_cst, iv_bin, iv_neg, iv_no, iv_one, iv_conj, iv_disj, iv_cmp, iv_ite, iv_idx, iv_sl, iv_lst, iv_tup, iv_fn, iv_isi, iv_call, iv_app, iv_ext, iv_pop, iv_rev, iv_count, iv_join, iv_comp, iv_compI, iv_comp2, iv_dk0, bf_int, bf_str, bf_list, bf_tuple, bf_sum, bf_all, bf_any, bf_sorted, bf_lenSet, chk_true,
  b_nil, b_seq, b_set, b_setIx, b_set2, b_aug, b_setTp, b_set2o, b_swp, b_expr, b_ret, b_retN, b_ife, b_for, b_pass, b_brk, b_cont, qv_nx, qv_ct, qv_bk, qv_ret, m_own, m_var, m_any,
  e_cst, e_var, e_bin, e_neg, e_no, e_one, e_conj, e_disj, e_cmp, e_ite, e_idxO, e_idxV, e_idx, e_sl, e_lst, e_tup, e_lenO, e_fnV, e_fnL, e_fn, e_isi, e_call, e_app, e_ext, e_pop, e_ins, e_rev, e_count, e_join, e_comp, e_compI, e_comp2, e_dk0, f_range,
  t_no, t_one, t_conj, t_disj, t_cmp, t_chain, t_var, e_nem, t_nem, qv_truB, qv_truL, qv_truO, qv_nemO, qv_nemV, t_fn, t_isi, t_call, o_nil, o_one, a_nil, a_cons, a_star, s_nil, s_own, s_var, s_cons, w_range, w_range2, w_zip, w_enum, w_one,
  Option.bind_some, Option.bind_none, Option.map_some, List.getElem?_cons_zero, List.getElem?_cons_succ, List.set_cons_zero, List.set_cons_succ, chk_pos, List.length_cons, List.length_nil, List.length_map, List.all_cons, List.all_nil, Bool.and_true, Bool.true_and, Bool.false_and, Bool.and_false, Bool.and_self, Bool.not_false, Bool.not_true,
  qv_int, qv_bl, qv_str, qv_toT, qv_toO, qv_toI, qv_toS, qv_toB, qv_toN, qv_fixV, qv_fixO, qv_datV, qv_datO, qv_add, qv_addI, qv_addS, qv_addL, qv_sub, qv_mulC, qv_mulW, qv_fdivC, qv_fdivW, qv_rep, qv_iat0, qv_iatS, qv_tupS, qv_tup2, qv_se0, qv_seS, List.isEmpty_nil, List.isEmpty_cons, qv_modC, qv_powC, qv_in, qv_nin, qv_is, qv_isnt, qv_eq, qv_ne, qv_eqI, qv_eqS, qv_eqB, qv_lt, qv_le, qv_gt, qv_ge, qv_dle, qv_inS, qv_inL, qv_inT,
  qv_ixL, qv_ixT, qv_ixS, qv_lenL, qv_lenT, qv_lenO, qv_lenS, qv_itO, qv_itL, qv_itT, qv_itL', qv_itT', qv_sqO, qv_sqL, qv_sqT, qv_lsO, qv_lsV, qv_lkO, qv_lkT, qv_lkS, qv_len, qv_intf, qv_strf, qv_list, qv_tupleT, qv_tupleL, qv_tupleO, qv_sum, qv_all, qv_any, qv_sorted, qv_lenSet, qv_slS, qv_slL, qv_slO, qv_wkO, qv_wkL, qv_wkT, qv_wkS, qv_getO0, qv_getOS, qv_varV, qv_varO,
  qv_nvT, qv_nvI, qv_nvS, qv_nvB, qv_nvN, qv_nvO, qv_argV, qv_argO, qv_atp, qv_ixp, qv_isi1, qv_isi2, qv_call, qv_aNil, qv_aCons, qv_aEx, qv_aOwn, qv_aBor, qv_backV, qv_backO, qv_backB, qv_backN, if_true, if_false, Bool.false_eq_true, reduceIte, decide_true, decide_false, Bool.or_true, Bool.true_or, Bool.or_false, Bool.false_or, sc_non, sc_bl, sc_int, sc_str, sc_lst, sc_tup, sc_dk,
  mk_sv, kp_sv, bk_sv, no_sv, x_ext, wp_nil, wp_cons, mk_nil, mk_o, mk_v, mk_n, mg_nil, mg_cons, mg_t, mg_f, kp_v, kp_n, kp_o, bk_same, bk_o, bk_t, bk_f, bk_n, by_nm, by_two, no_nil, no_o, no_v, no_n, rb_v, rb_o, os_nil, os_o, os_v, fin_ret, fin_nx, List.contains_cons, List.contains_nil, Nat.reduceBEq, Nat.reduceEqDiff, List.nodup_cons, List.nodup_nil, varsOf, List.not_mem_nil, List.mem_cons, List.mem_singleton, or_false, false_or, or_true, true_or, decide_eq_true_eq, Tgt.ix, isOwn, List.map_cons, List.map_nil, List.cons_append, List.nil_append])
/-! ### columns -/
theorem compL_rf {f : Nat → DL.Env → Option (Option D × DL.Env)} {ρ : DL.Env} {m : Nat} (p : Nat → Bool) (g : Nat → D) (h : ∀ t, t < m → f t ρ = some (if p t then some (g t) else none, ρ)) : compL f 0 m ρ [] = some (((List.range m).filter p).map g, ρ) := by
  obtain ⟨acc, ρ', h1, h2, h3⟩ := compL_ind (f := f) (fun t ρ' acc => ρ' = ρ ∧ acc = ((List.range t).filter p).map g) (m := m) (s := 0) (ρ := ρ) (acc := []) ⟨rfl, rfl⟩ fun t ρ' acc _ ht hj => by
    obtain ⟨rfl, rfl⟩ := hj
    refine ⟨_, _, h t (by omega), rfl, ?_⟩
    rw [List.range_succ, List.filter_append, List.map_append]
    cases hb : p t with
    | true => simp [hb]
    | false => simp [hb]
  rw [h1, h2, h3, Nat.zero_add]
/-- the first place with p -/
theorem first_of {m : Nat} {p : Nat → Bool} {i0 : Nat} {rest : List Nat} (h : (List.range m).filter p = i0 :: rest) : i0 < m ∧ p i0 = true ∧ ∀ i, i < i0 → p i = false := by
  have hm : i0 ∈ (List.range m).filter p := by rw [h]; exact .head _
  obtain ⟨h1, h2⟩ := List.mem_filter.mp hm
  refine ⟨List.mem_range.mp h1, h2, fun i hi => ?_⟩
  cases hp : p i with
  | false => rfl
  | true =>
    exfalso
    have h3 : i ∈ (List.range m).filter p := List.mem_filter.mpr ⟨List.mem_range.mpr (by have := List.mem_range.mp h1; omega), hp⟩
    have h4 : ((List.range m).filter p).Pairwise (· < ·) := List.Pairwise.filter _ List.pairwise_lt_range
    rw [h] at h3 h4
    obtain ⟨h5, _⟩ := List.pairwise_cons.mp h4
    cases h3 with
    | head => omega
    | tail _ h3 => have := h5 i h3; omega
theorem none_of {m : Nat} {p : Nat → Bool} (h : (List.range m).filter p = []) : ∀ i, i < m → p i = false := fun i hi => by
  cases hp : p i with
  | false => rfl
  | true =>
    have : i ∈ (List.range m).filter p := List.mem_filter.mpr ⟨List.mem_range.mpr hi, hp⟩
    rw [h] at this; cases this
def pz (X : List (List Int)) (t i : Nat) : Bool := decide ((X.getD i []).getD t 0 ≠ 0)
theorem app_at {T X : List (List Int)} {i : Nat} (h : i < X.length) : atI (mxD (T ++ X)) (((T.length : Nat) : Int) + (i : Int)) = some (lnD (X.getD i [])) := by
  have h2 : T.length + i < (T ++ X).length := by rw [List.length_append]; omega
  have := mx_at h2
  rw [show ((T.length + i : Nat) : Int) = (T.length : Int) + (i : Int) by omega] at this
  rw [this]
  congr 2
  rw [List.getD_eq_getElem?_getD, List.getElem?_append_right (by omega), List.getD_eq_getElem?_getD]
  congr 2
  omega
/-! ### _law_count -/
abbrev FC (k : Bool) (It : D) (L : List D) (f : Int) (t : Option (Bool × D)) (a5 a6 a7 a8 : Option (Bool × D)) : DL.Env :=
  [some (.v k It), some (.own L), some (.val (.int f)), none, sv t, sv a5, sv a6, sv a7, sv a8, none, none]
section
variable {n w t : Nat} {k : Bool} {It : D} {T X : List (List Int)} {a5 a6 a7 a8 : Option (Bool × D)}
theorem at_comp (hw : ∀ l, l ∈ X → l.length = w) (ht : t < w) :
    compL (compIF (csT tab n) cs__law_count_e1 cs__law_count_t0 (.nm 6) [6] (fun i => .one (.val (.int ((T.length : Int) + (i : Int)))))) 0 X.length
      (FC k It (mxD (T ++ X)) T.length (some (true, .int (t : Int))) a5 a6 a7 a8) [] =
      some (((List.range X.length).filter (pz X t)).map (fun i => .int ((T.length : Int) + (i : Int))), FC k It (mxD (T ++ X)) T.length (some (true, .int (t : Int))) a5 a6 a7 a8) := by
  refine compL_rf (pz X t) _ fun i hi => ?_
  have h1 := app_at (T := T) hi
  have hl : (X.getD i []).length = w := hw _ (by rw [List.getD_eq_getElem?_getD, List.getElem?_eq_getElem hi]; exact List.getElem_mem hi)
  have h2 := ln_at (l := X.getD i []) (t := t) (by omega)
  unfold pz
  unfold lnD at h1
  have sv1 : sv (some (true, D.int (t : Int))) = some (.v true (.int (t : Int))) := rfl
  unfold FC compIF
  rw [sv1]
  clear sv1
  dsimp only
  generalize mxD (T ++ X) = M at *
  generalize (X.getD i []).getD t 0 = y at *
  generalize (X.getD i []).map D.int = l at *
  generalize (T.length : Int) + (i : Int) = j at *
  clear hw ht hi hl
  unfold cs__law_count_t0 cs__law_count_e1
  by_cases hy : y = 0
  · have e : decide (y ≠ 0) = false := by simp [hy]
    rw [e]
    subst hy
    clear e
    k_whileD _ _ _ "ev"
  · have e : decide (y ≠ 0) = true := by simp [hy]
    rw [e]
    clear e
    k_whileD _ _ _ "ev"
end
end K30
namespace K30
open PySem L2 DL RL PyProof.Rows LA
local macro_rules | `(tactic| k_whileD _ _ _ "ev") => `(tactic| simp only [*, is_non_list, is_non_tuple, is_non_bool, is_non_str, is_non_int, is_non_dict, pl_non, isn_non, is_bl_list, is_bl_tuple, is_bl_bool, is_bl_str, is_bl_int, is_bl_dict, pl_bl, isn_bl, is_int_list, is_int_tuple, is_int_bool, is_int_str, is_int_int, is_int_dict, pl_int, isn_int, is_str_list, is_str_tuple, is_str_bool, is_str_str, is_str_int, is_str_dict, pl_str, isn_str, is_lst_list, is_lst_tuple, is_lst_bool, is_lst_str, is_lst_int, is_lst_dict, pl_lst, isn_lst, is_tup_list, is_tup_tuple, is_tup_bool, is_tup_str, is_tup_int, is_tup_dict, pl_tup, isn_tup, is_dk_list, is_dk_tuple, is_dk_bool, is_dk_str, is_dk_int, is_dk_dict, pl_dk, isn_dk, qv_atN, qv_atL, qv_ixLit, qv_mulL, qv_fdivL, qv_modL, qv_powL, Nat.reduceLT, Nat.reduceLeDiff, Nat.reduceAdd, Nat.zero_add, Nat.add_zero, Int.reduceLT, Int.reduceLE, Int.reducePow, Int.reduceToNat, Int.reduceEq, Int.reduceNeg, Int.reduceAdd, Int.reduceSub, Int.reduceMul, and_self, and_true, true_and, eq_self, not_true_eq_false, not_false_eq_true,
  ob_o, ob_v, ob_n, ob_s, fr_nil, fr_0, fr_s, nt_t, nt_f, iv_cst, iv_bin, iv_neg, iv_no, iv_one, iv_conj, iv_disj, iv_cmp, iv_ite, iv_idx, iv_sl, iv_lst, iv_tup, iv_fn, iv_isi, iv_call, iv_app, iv_ext, iv_pop, iv_rev, iv_count, iv_join, iv_comp, iv_compI, iv_comp2, iv_dk0, bf_int, bf_str, bf_list, bf_tuple, bf_sum, bf_all, bf_any, bf_sorted, bf_lenSet, chk_true,
  b_nil, b_seq, b_set, b_setIx, b_set2, b_aug, b_setTp, b_set2o, b_swp, b_expr, b_ret, b_retN, b_ife, b_for, b_pass, b_brk, b_cont, qv_nx, qv_ct, qv_bk, qv_ret, m_own, m_var, m_any,
  e_cst, e_var, e_bin, e_neg, e_no, e_one, e_conj, e_disj, e_cmp, e_ite, e_idxO, e_idxV, e_idx, e_sl, e_lst, e_tup, e_lenO, e_fnV, e_fnL, e_fn, e_isi, e_call, e_app, e_ext, e_pop, e_ins, e_rev, e_count, e_join, e_comp, e_compI, e_comp2, e_dk0, f_range,
  t_no, t_one, t_conj, t_disj, t_cmp, t_chain, t_var, e_nem, t_nem, qv_truB, qv_truL, qv_truO, qv_nemO, qv_nemV, t_fn, t_isi, t_call, o_nil, o_one, a_nil, a_cons, a_star, s_nil, s_own, s_var, s_cons, w_range, w_range2, w_zip, w_enum, w_one,
  Option.bind_some, Option.bind_none, Option.map_some, List.getElem?_cons_zero, List.getElem?_cons_succ, List.set_cons_zero, List.set_cons_succ, chk_pos, List.length_cons, List.length_nil, List.length_map, List.all_cons, List.all_nil, Bool.and_true, Bool.true_and, Bool.false_and, Bool.and_false, Bool.and_self, Bool.not_false, Bool.not_true,
  qv_int, qv_bl, qv_str, qv_toT, qv_toO, qv_toI, qv_toS, qv_toB, qv_toN, qv_fixV, qv_fixO, qv_datV, qv_datO, qv_add, qv_addI, qv_addS, qv_addL, qv_sub, qv_mulC, qv_mulW, qv_fdivC, qv_fdivW, qv_rep, qv_iat0, qv_iatS, qv_tupS, qv_tup2, qv_se0, qv_seS, List.isEmpty_nil, List.isEmpty_cons, qv_modC, qv_powC, qv_in, qv_nin, qv_is, qv_isnt, qv_eq, qv_ne, qv_eqI, qv_eqS, qv_eqB, qv_lt, qv_le, qv_gt, qv_ge, qv_dle, qv_inS, qv_inL, qv_inT,
  qv_ixL, qv_ixT, qv_ixS, qv_lenL, qv_lenT, qv_lenO, qv_lenS, qv_itO, qv_itL, qv_itT, qv_itL', qv_itT', qv_sqO, qv_sqL, qv_sqT, qv_lsO, qv_lsV, qv_lkO, qv_lkT, qv_lkS, qv_len, qv_intf, qv_strf, qv_list, qv_tupleT, qv_tupleL, qv_tupleO, qv_sum, qv_all, qv_any, qv_sorted, qv_lenSet, qv_slS, qv_slL, qv_slO, qv_wkO, qv_wkL, qv_wkT, qv_wkS, qv_getO0, qv_getOS, qv_varV, qv_varO,
  qv_nvT, qv_nvI, qv_nvS, qv_nvB, qv_nvN, qv_nvO, qv_argV, qv_argO, qv_atp, qv_ixp, qv_isi1, qv_isi2, qv_call, qv_aNil, qv_aCons, qv_aEx, qv_aOwn, qv_aBor, qv_backV, qv_backO, qv_backB, qv_backN, if_true, if_false, Bool.false_eq_true, reduceIte, decide_true, decide_false, Bool.or_true, Bool.true_or, Bool.or_false, Bool.false_or, sc_non, sc_bl, sc_int, sc_str, sc_lst, sc_tup, sc_dk,
  mk_sv, kp_sv, bk_sv, no_sv, x_ext, wp_nil, wp_cons, mk_nil, mk_o, mk_v, mk_n, mg_nil, mg_cons, mg_t, mg_f, kp_v, kp_n, kp_o, bk_same, bk_o, bk_t, bk_f, bk_n, by_nm, by_two, no_nil, no_o, no_v, no_n, rb_v, rb_o, os_nil, os_o, os_v, fin_ret, fin_nx, List.contains_cons, List.contains_nil, Nat.reduceBEq, Nat.reduceEqDiff, List.nodup_cons, List.nodup_nil, varsOf, List.not_mem_nil, List.mem_cons, List.mem_singleton, or_false, false_or, or_true, true_or, decide_eq_true_eq, Tgt.ix, isOwn, List.map_cons, List.map_nil, List.cons_append, List.nil_append])
def stepL (a b : Int) (xl yl : List Int) : List Int := (List.zip xl yl).map fun p => a * p.1 - b * p.2
theorem stepL_eq {a b : Int} {xl yl : List Int} {w : Nat} (hx : xl.length = w) (hy : yl.length = w) : (stepL a b xl yl).map D.int = (List.range w).map fun j => D.int (a * xl.getD j 0 - b * yl.getD j 0) := by
  unfold stepL
  rw [List.map_map]
  refine List.ext_getElem (by simp [hx, hy]) fun i p q => ?_
  have h1 : i < w := by simpa using q
  simp only [List.getElem_map, List.getElem_zip, List.getElem_range, Function.comp, List.getD_eq_getElem?_getD, List.getElem?_eq_getElem (show i < xl.length by omega), List.getElem?_eq_getElem (show i < yl.length by omega)]
  rfl
theorem ln_get {l : List Int} {j : Nat} (h : j < l.length) : (l.map D.int).getD j .non = .int (l.getD j 0) := by
  rw [List.getD_eq_getElem?_getD, List.getElem?_map, List.getElem?_eq_getElem h, List.getD_eq_getElem?_getD, List.getElem?_eq_getElem h]; rfl
theorem mem_get {l : List Int} {j : Nat} (h : j < l.length) : l.getD j 0 ∈ l := by
  rw [List.getD_eq_getElem?_getD, List.getElem?_eq_getElem h]; exact List.getElem_mem _
/-- the lines behind the pivot's, the first i of them stepped -/
def XS (S : List Int → List Int) (X : List (List Int)) (i : Nat) : List (List Int) := (X.take i).map S ++ X.drop i
theorem xs_len {S : List Int → List Int} {X : List (List Int)} {i : Nat} : (XS S X i).length = X.length := by
  unfold XS
  rw [List.length_append, List.length_map, List.length_take, List.length_drop]; omega
theorem xs_zero {S : List Int → List Int} {X : List (List Int)} : XS S X 0 = X := rfl
theorem xs_all {S : List Int → List Int} {X : List (List Int)} : XS S X X.length = X.map S := by
  unfold XS; rw [List.take_of_length_le (Nat.le_refl _), List.drop_of_length_le (Nat.le_refl _), List.append_nil]
theorem xs_get {S : List Int → List Int} {X : List (List Int)} {i : Nat} (h : i < X.length) : (XS S X i).getD i [] = X.getD i [] := by
  unfold XS
  rw [List.getD_eq_getElem?_getD, List.getElem?_append_right (by rw [List.length_map, List.length_take]; omega), List.length_map, List.length_take, List.getElem?_drop, List.getD_eq_getElem?_getD]
  congr 2
  omega
theorem xs_set {S : List Int → List Int} {T X : List (List Int)} {y : List Int} {i : Nat} (h : i < X.length) : (mxD (T ++ y :: XS S X i)).set (T.length + 1 + i) (lnD (S (X.getD i []))) = mxD (T ++ y :: XS S X (i + 1)) := by
  unfold mxD
  rw [← List.map_set]
  congr 1
  have e : X.getD i [] = X[i] := by rw [List.getD_eq_getElem?_getD, List.getElem?_eq_getElem h]; rfl
  rw [e]
  rw [List.set_append_right _ _ (by omega)]
  congr 1
  rw [show T.length + 1 + i - T.length = i + 1 by omega, List.set_cons_succ]
  congr 1
  unfold XS
  rw [List.set_append_right _ _ (by rw [List.length_map, List.length_take]; omega), List.length_map, List.length_take, show i - min i X.length = 0 by omega]
  rw [List.drop_eq_getElem_cons h, List.set_cons_zero, List.take_add_one, List.getElem?_eq_getElem h, List.map_append]
  simp
section
variable {n w t : Nat} {k : Bool} {It : D} {T X : List (List Int)} {a5 : Option (Bool × D)} {xl yl : List Int} {a b kk f : Int} {M : List D}
theorem step_comp (hx : xl.length = w) (hy : yl.length = w) (ha : ∀ x, x ∈ xl → CMlW a x) (hb : ∀ y, y ∈ yl → CMlW b y) :
    compL (compF (csT tab n) cs__law_count_e2 (.tp [9, 10]) [9, 10] (fun j => .two true ((xl.map D.int).getD j .non) true ((yl.map D.int).getD j .non))) 0 w
      [some (.v k It), some (.own M), some (.val (.int f)), none, some (.val (.int (t : Int))), sv a5, some (.val (.int kk)), some (.val (.int a)), some (.val (.int b)), none, none] [] =
      some ((stepL a b xl yl).map .int, [some (.v k It), some (.own M), some (.val (.int f)), none, some (.val (.int (t : Int))), sv a5, some (.val (.int kk)), some (.val (.int a)), some (.val (.int b)), none, none]) := by
  rw [stepL_eq hx hy]
  refine compL_map (fun j => D.int (a * xl.getD j 0 - b * yl.getD j 0)) fun j hj => ?_
  have c1 := ha _ (mem_get (l := xl) (j := j) (by omega))
  have c2 := hb _ (mem_get (l := yl) (j := j) (by omega))
  unfold compF
  dsimp only
  rw [ln_get (l := xl) (by omega), ln_get (l := yl) (by omega)]
  generalize xl.getD j 0 = u at *
  generalize yl.getD j 0 = v at *
  clear hx hy ha hb hj
  unfold cs__law_count_e2
  k_whileD _ _ _ "ev"
end
theorem setD_mx {A : List (List Int)} {i : Nat} (h : i < A.length) : ixN (mxD A).length (i : Int) = some i := by
  rw [mx_len]
  unfold ixN
  simp [h]
end K30
namespace K30
open PySem L2 DL RL PyProof.Rows LA
local macro_rules | `(tactic| k_whileD _ _ _ "ev") => `(tactic| simp only [*, is_non_list, is_non_tuple, is_non_bool, is_non_str, is_non_int, is_non_dict, pl_non, isn_non, is_bl_list, is_bl_tuple, is_bl_bool, is_bl_str, is_bl_int, is_bl_dict, pl_bl, isn_bl, is_int_list, is_int_tuple, is_int_bool, is_int_str, is_int_int, is_int_dict, pl_int, isn_int, is_str_list, is_str_tuple, is_str_bool, is_str_str, is_str_int, is_str_dict, pl_str, isn_str, is_lst_list, is_lst_tuple, is_lst_bool, is_lst_str, is_lst_int, is_lst_dict, pl_lst, isn_lst, is_tup_list, is_tup_tuple, is_tup_bool, is_tup_str, is_tup_int, is_tup_dict, pl_tup, isn_tup, is_dk_list, is_dk_tuple, is_dk_bool, is_dk_str, is_dk_int, is_dk_dict, pl_dk, isn_dk, qv_atN, qv_atL, qv_ixLit, qv_mulL, qv_fdivL, qv_modL, qv_powL, Nat.reduceLT, Nat.reduceLeDiff, Nat.reduceAdd, Nat.zero_add, Nat.add_zero, Int.reduceLT, Int.reduceLE, Int.reducePow, Int.reduceToNat, Int.reduceEq, Int.reduceNeg, Int.reduceAdd, Int.reduceSub, Int.reduceMul, and_self, and_true, true_and, eq_self, not_true_eq_false, not_false_eq_true,
  ob_o, ob_v, ob_n, ob_s, fr_nil, fr_0, fr_s, nt_t, nt_f, iv_cst, iv_bin, iv_neg, iv_no, iv_one, iv_conj, iv_disj, iv_cmp, iv_ite, iv_idx, iv_sl, iv_lst, iv_tup, iv_fn, iv_isi, iv_call, iv_app, iv_ext, iv_pop, iv_rev, iv_count, iv_join, iv_comp, iv_compI, iv_comp2, iv_dk0, bf_int, bf_str, bf_list, bf_tuple, bf_sum, bf_all, bf_any, bf_sorted, bf_lenSet, chk_true,
  b_nil, b_seq, b_set, b_setIx, b_set2, b_aug, b_setTp, b_set2o, b_swp, b_expr, b_ret, b_retN, b_ife, b_for, b_pass, b_brk, b_cont, qv_nx, qv_ct, qv_bk, qv_ret, m_own, m_var, m_any,
  e_cst, e_var, e_bin, e_neg, e_no, e_one, e_conj, e_disj, e_cmp, e_ite, e_idxO, e_idxV, e_idx, e_sl, e_lst, e_tup, e_lenO, e_fnV, e_fnL, e_fn, e_isi, e_call, e_app, e_ext, e_pop, e_ins, e_rev, e_count, e_join, e_comp, e_compI, e_comp2, e_dk0, f_range,
  t_no, t_one, t_conj, t_disj, t_cmp, t_chain, t_var, e_nem, t_nem, qv_truB, qv_truL, qv_truO, qv_nemO, qv_nemV, t_fn, t_isi, t_call, o_nil, o_one, a_nil, a_cons, a_star, s_nil, s_own, s_var, s_cons, w_range, w_range2, w_zip, w_enum, w_one,
  Option.bind_some, Option.bind_none, Option.map_some, List.getElem?_cons_zero, List.getElem?_cons_succ, List.set_cons_zero, List.set_cons_succ, chk_pos, List.length_cons, List.length_nil, List.length_map, List.all_cons, List.all_nil, Bool.and_true, Bool.true_and, Bool.false_and, Bool.and_false, Bool.and_self, Bool.not_false, Bool.not_true,
  qv_int, qv_bl, qv_str, qv_toT, qv_toO, qv_toI, qv_toS, qv_toB, qv_toN, qv_fixV, qv_fixO, qv_datV, qv_datO, qv_add, qv_addI, qv_addS, qv_addL, qv_sub, qv_mulC, qv_mulW, qv_fdivC, qv_fdivW, qv_rep, qv_iat0, qv_iatS, qv_tupS, qv_tup2, qv_se0, qv_seS, List.isEmpty_nil, List.isEmpty_cons, qv_modC, qv_powC, qv_in, qv_nin, qv_is, qv_isnt, qv_eq, qv_ne, qv_eqI, qv_eqS, qv_eqB, qv_lt, qv_le, qv_gt, qv_ge, qv_dle, qv_inS, qv_inL, qv_inT,
  qv_ixL, qv_ixT, qv_ixS, qv_lenL, qv_lenT, qv_lenO, qv_lenS, qv_itO, qv_itL, qv_itT, qv_itL', qv_itT', qv_sqO, qv_sqL, qv_sqT, qv_lsO, qv_lsV, qv_lkO, qv_lkT, qv_lkS, qv_len, qv_intf, qv_strf, qv_list, qv_tupleT, qv_tupleL, qv_tupleO, qv_sum, qv_all, qv_any, qv_sorted, qv_lenSet, qv_slS, qv_slL, qv_slO, qv_wkO, qv_wkL, qv_wkT, qv_wkS, qv_getO0, qv_getOS, qv_varV, qv_varO,
  qv_nvT, qv_nvI, qv_nvS, qv_nvB, qv_nvN, qv_nvO, qv_argV, qv_argO, qv_atp, qv_ixp, qv_isi1, qv_isi2, qv_call, qv_aNil, qv_aCons, qv_aEx, qv_aOwn, qv_aBor, qv_backV, qv_backO, qv_backB, qv_backN, if_true, if_false, Bool.false_eq_true, reduceIte, decide_true, decide_false, Bool.or_true, Bool.true_or, Bool.or_false, Bool.false_or, sc_non, sc_bl, sc_int, sc_str, sc_lst, sc_tup, sc_dk,
  mk_sv, kp_sv, bk_sv, no_sv, x_ext, wp_nil, wp_cons, mk_nil, mk_o, mk_v, mk_n, mg_nil, mg_cons, mg_t, mg_f, kp_v, kp_n, kp_o, bk_same, bk_o, bk_t, bk_f, bk_n, by_nm, by_two, no_nil, no_o, no_v, no_n, rb_v, rb_o, os_nil, os_o, os_v, fin_ret, fin_nx, List.contains_cons, List.contains_nil, Nat.reduceBEq, Nat.reduceEqDiff, List.nodup_cons, List.nodup_nil, varsOf, List.not_mem_nil, List.mem_cons, List.mem_singleton, or_false, false_or, or_true, true_or, decide_eq_true_eq, Tgt.ix, isOwn, List.map_cons, List.map_nil, List.cons_append, List.nil_append])
theorem mid_at {T Z : List (List Int)} {y : List Int} : atI (mxD (T ++ y :: Z)) (T.length : Int) = some (lnD y) := by
  have := app_at (T := T) (X := y :: Z) (i := 0) (by simp)
  rw [show ((T.length : Nat) : Int) + ((0 : Nat) : Int) = (T.length : Int) by omega] at this
  exact this
theorem beh_at {T Z : List (List Int)} {y : List Int} {i : Nat} (h : i < Z.length) : atI (mxD (T ++ y :: Z)) ((T.length : Int) + 1 + (i : Int)) = some (lnD (Z.getD i [])) := by
  have := app_at (T := T) (X := y :: Z) (i := i + 1) (by simp; omega)
  rw [show (T.length : Int) + ((i + 1 : Nat) : Int) = (T.length : Int) + 1 + (i : Int) by omega] at this
  exact this
section
variable {n w t : Nat} {k : Bool} {It : D} {T X : List (List Int)} {a5 a6 a7 a8 : Option (Bool × D)} {yl : List Int}
/-- the step of every line behind the pivot's -/
theorem row_loop (ht : t < w) (hw : ∀ l, l ∈ X → l.length = w) (hy : yl.length = w) (hs : w < 1000) (hz : T.length + X.length < 1000)
    (ha : ∀ l, l ∈ X → ∀ x, x ∈ l → CMlW (yl.getD t 0) x) (hb : ∀ l, l ∈ X → ∀ y, y ∈ yl → CMlW (l.getD t 0) y) :
    ∃ (b6 b7 b8 : Option (Bool × D)), forL (forF (csT tab n) [false] (.nm 6) (fun i => .one (.val (.int ((T.length : Int) + 1 + (i : Int))))) cs__law_count_f0) 0 X.length
      [some (.v k It), some (.own (mxD (T ++ yl :: X))), some (.val (.int (T.length : Int))), none, some (.val (.int (t : Int))), sv a5, sv a6, sv a7, sv a8, none, none] =
      some (.nx [some (.v k It), some (.own (mxD (T ++ yl :: X.map fun l => stepL (yl.getD t 0) (l.getD t 0) l yl))), some (.val (.int (T.length : Int))), none, some (.val (.int (t : Int))), sv a5, sv b6, sv b7, sv b8, none, none]) := by
  have sz := size_eq
  obtain ⟨ρ', g1, b6, b7, b8, rfl⟩ := forL_ind (f := forF (csT tab n) [false] (.nm 6) (fun i => .one (.val (.int ((T.length : Int) + 1 + (i : Int))))) cs__law_count_f0)
    (fun i ρ => ∃ b6 b7 b8 : Option (Bool × D), ρ = [some (.v k It), some (.own (mxD (T ++ yl :: XS (fun l => stepL (yl.getD t 0) (l.getD t 0) l yl) X i))), some (.val (.int (T.length : Int))), none, some (.val (.int (t : Int))), sv a5, sv b6, sv b7, sv b8, none, none]) (m := X.length) (s := 0)
    (ρ := [some (.v k It), some (.own (mxD (T ++ yl :: X))), some (.val (.int (T.length : Int))), none, some (.val (.int (t : Int))), sv a5, sv a6, sv a7, sv a8, none, none]) ⟨a6, a7, a8, rfl⟩ fun i ρ _ hi ⟨b6, b7, b8, hj⟩ => by
      subst hj
      have hi : i < X.length := by omega
      have hmem : X.getD i [] ∈ X := by rw [List.getD_eq_getElem?_getD, List.getElem?_eq_getElem hi]; exact List.getElem_mem hi
      have hl := hw _ hmem
      have r1 := mid_at (T := T) (y := yl) (Z := XS (fun l => stepL (yl.getD t 0) (l.getD t 0) l yl) X i)
      have r2 := beh_at (T := T) (y := yl) (Z := XS (fun l => stepL (yl.getD t 0) (l.getD t 0) l yl) X i) (i := i) (by rw [xs_len]; exact hi)
      rw [xs_get hi] at r2
      have r3 := ln_at (l := yl) (t := t) (by omega)
      have r4 := ln_at (l := X.getD i []) (t := t) (by omega)
      have r5 := xs_set (S := fun l => stepL (yl.getD t 0) (l.getD t 0) l yl) (T := T) (y := yl) hi
      have r6 : ixN (mxD (T ++ yl :: XS (fun l => stepL (yl.getD t 0) (l.getD t 0) l yl) X i)).length ((T.length : Int) + 1 + (i : Int)) = some (T.length + 1 + i) := by
        rw [show (T.length : Int) + 1 + (i : Int) = ((T.length + 1 + i : Nat) : Int) by omega]
        exact setD_mx (by rw [List.length_append, List.length_cons, xs_len]; omega)
      have sc := step_comp (n := n) (t := t) (k := k) (It := It) (a5 := a5) (kk := (T.length : Int) + 1 + (i : Int)) (f := (T.length : Int)) (M := mxD (T ++ yl :: XS (fun l => stepL (yl.getD t 0) (l.getD t 0) l yl) X i)) hl hy (ha _ hmem) (hb _ hmem)
      have mw : min (X.getD i []).length yl.length = w := by rw [hl, hy]; exact Nat.min_self _
      have w4 : w ≤ sizeLine := by omega
      have s2 : 2 ≤ sizeLine := by omega
      refine ⟨_, ?_, some (true, .int ((T.length : Int) + 1 + (i : Int))), some (true, .int (yl.getD t 0)), some (true, .int ((X.getD i []).getD t 0)), rfl⟩
      rw [← r5]
      unfold lnD at *
      unfold forF
      dsimp only
      have sv1 : ∀ d : DL.D, sv (some (true, d)) = some (.v true d) := fun _ => rfl
      rw [sv1, sv1, sv1]
      clear r5 sv1
      generalize mxD (T ++ yl :: XS (fun l => stepL (yl.getD t 0) (l.getD t 0) l yl) X i) = M at *
      generalize (X.getD i []).getD t 0 = bb at *
      generalize X.getD i [] = xl at *
      generalize yl.getD t 0 = aa at *
      generalize (T.length : Int) + 1 + (i : Int) = kk at *
      generalize (stepL aa bb xl yl).map D.int = R at *
      generalize T.length + 1 + i = q at *
      have l1 : (xl.map D.int).length = xl.length := List.length_map ..
      have l2 : (yl.map D.int).length = yl.length := List.length_map ..
      clear ha hb hw hy hs hz sz hi hmem hl ht
      unfold cs__law_count_f0
      k_whileD _ _ _ "ev"
  rw [Nat.zero_add, xs_all] at g1
  exact ⟨b6, b7, b8, g1⟩
end
end K30
namespace K30
open PySem L2 DL RL PyProof.Rows LA
local macro_rules | `(tactic| k_whileD _ _ _ "ev") => `(tactic| simp only [*, is_non_list, is_non_tuple, is_non_bool, is_non_str, is_non_int, is_non_dict, pl_non, isn_non, is_bl_list, is_bl_tuple, is_bl_bool, is_bl_str, is_bl_int, is_bl_dict, pl_bl, isn_bl, is_int_list, is_int_tuple, is_int_bool, is_int_str, is_int_int, is_int_dict, pl_int, isn_int, is_str_list, is_str_tuple, is_str_bool, is_str_str, is_str_int, is_str_dict, pl_str, isn_str, is_lst_list, is_lst_tuple, is_lst_bool, is_lst_str, is_lst_int, is_lst_dict, pl_lst, isn_lst, is_tup_list, is_tup_tuple, is_tup_bool, is_tup_str, is_tup_int, is_tup_dict, pl_tup, isn_tup, is_dk_list, is_dk_tuple, is_dk_bool, is_dk_str, is_dk_int, is_dk_dict, pl_dk, isn_dk, qv_atN, qv_atL, qv_ixLit, qv_mulL, qv_fdivL, qv_modL, qv_powL, Nat.reduceLT, Nat.reduceLeDiff, Nat.reduceAdd, Nat.zero_add, Nat.add_zero, Int.reduceLT, Int.reduceLE, Int.reducePow, Int.reduceToNat, Int.reduceEq, Int.reduceNeg, Int.reduceAdd, Int.reduceSub, Int.reduceMul, and_self, and_true, true_and, eq_self, not_true_eq_false, not_false_eq_true,
  ob_o, ob_v, ob_n, ob_s, fr_nil, fr_0, fr_s, nt_t, nt_f, iv_cst, iv_bin, iv_neg, iv_no, iv_one, iv_conj, iv_disj, iv_cmp, iv_ite, iv_idx, iv_sl, iv_lst, iv_tup, iv_fn, iv_isi, iv_call, iv_app, iv_ext, iv_pop, iv_rev, iv_count, iv_join, iv_comp, iv_compI, iv_comp2, iv_dk0, bf_int, bf_str, bf_list, bf_tuple, bf_sum, bf_all, bf_any, bf_sorted, bf_lenSet, chk_true,
  b_nil, b_seq, b_set, b_setIx, b_set2, b_aug, b_setTp, b_set2o, b_swp, b_expr, b_ret, b_retN, b_ife, b_for, b_pass, b_brk, b_cont, qv_nx, qv_ct, qv_bk, qv_ret, m_own, m_var, m_any,
  e_cst, e_var, e_bin, e_neg, e_no, e_one, e_conj, e_disj, e_cmp, e_ite, e_idxO, e_idxV, e_idx, e_sl, e_lst, e_tup, e_lenO, e_fnV, e_fnL, e_fn, e_isi, e_call, e_app, e_ext, e_pop, e_ins, e_rev, e_count, e_join, e_comp, e_compI, e_comp2, e_dk0, f_range,
  t_no, t_one, t_conj, t_disj, t_cmp, t_chain, t_var, e_nem, t_nem, qv_truB, qv_truL, qv_truO, qv_nemO, qv_nemV, t_fn, t_isi, t_call, o_nil, o_one, a_nil, a_cons, a_star, s_nil, s_own, s_var, s_cons, w_range, w_range2, w_zip, w_enum, w_one,
  Option.bind_some, Option.bind_none, Option.map_some, List.getElem?_cons_zero, List.getElem?_cons_succ, List.set_cons_zero, List.set_cons_succ, chk_pos, List.length_cons, List.length_nil, List.length_map, List.all_cons, List.all_nil, Bool.and_true, Bool.true_and, Bool.false_and, Bool.and_false, Bool.and_self, Bool.not_false, Bool.not_true,
  qv_int, qv_bl, qv_str, qv_toT, qv_toO, qv_toI, qv_toS, qv_toB, qv_toN, qv_fixV, qv_fixO, qv_datV, qv_datO, qv_add, qv_addI, qv_addS, qv_addL, qv_sub, qv_mulC, qv_mulW, qv_fdivC, qv_fdivW, qv_rep, qv_iat0, qv_iatS, qv_tupS, qv_tup2, qv_se0, qv_seS, List.isEmpty_nil, List.isEmpty_cons, qv_modC, qv_powC, qv_in, qv_nin, qv_is, qv_isnt, qv_eq, qv_ne, qv_eqI, qv_eqS, qv_eqB, qv_lt, qv_le, qv_gt, qv_ge, qv_dle, qv_inS, qv_inL, qv_inT,
  qv_ixL, qv_ixT, qv_ixS, qv_lenL, qv_lenT, qv_lenO, qv_lenS, qv_itO, qv_itL, qv_itT, qv_itL', qv_itT', qv_sqO, qv_sqL, qv_sqT, qv_lsO, qv_lsV, qv_lkO, qv_lkT, qv_lkS, qv_len, qv_intf, qv_strf, qv_list, qv_tupleT, qv_tupleL, qv_tupleO, qv_sum, qv_all, qv_any, qv_sorted, qv_lenSet, qv_slS, qv_slL, qv_slO, qv_wkO, qv_wkL, qv_wkT, qv_wkS, qv_getO0, qv_getOS, qv_varV, qv_varO,
  qv_nvT, qv_nvI, qv_nvS, qv_nvB, qv_nvN, qv_nvO, qv_argV, qv_argO, qv_atp, qv_ixp, qv_isi1, qv_isi2, qv_call, qv_aNil, qv_aCons, qv_aEx, qv_aOwn, qv_aBor, qv_backV, qv_backO, qv_backB, qv_backN, if_true, if_false, Bool.false_eq_true, reduceIte, decide_true, decide_false, Bool.or_true, Bool.true_or, Bool.or_false, Bool.false_or, sc_non, sc_bl, sc_int, sc_str, sc_lst, sc_tup, sc_dk,
  mk_sv, kp_sv, bk_sv, no_sv, x_ext, wp_nil, wp_cons, mk_nil, mk_o, mk_v, mk_n, mg_nil, mg_cons, mg_t, mg_f, kp_v, kp_n, kp_o, bk_same, bk_o, bk_t, bk_f, bk_n, by_nm, by_two, no_nil, no_o, no_v, no_n, rb_v, rb_o, os_nil, os_o, os_v, fin_ret, fin_nx, List.contains_cons, List.contains_nil, Nat.reduceBEq, Nat.reduceEqDiff, List.nodup_cons, List.nodup_nil, varsOf, List.not_mem_nil, List.mem_cons, List.mem_singleton, or_false, false_or, or_true, true_or, decide_eq_true_eq, Tgt.ix, isOwn, List.map_cons, List.map_nil, List.cons_append, List.nil_append])
theorem eq_nil_nil : eqX (.lst []) (.lst []) = some true := by
  unfold eqX eqL
  rw [show eqS (.lst []) (.lst []) = none from rfl]
  simp [chk, dataD, pyD, dataDs, pyDs, PyData.eqv, SeqAt.shaped, PyData.eqvAll]
  exact ⟨by decide +kernel, by decide +kernel⟩
theorem eq_cons_nil {d : DL.D} {ds : List DL.D} : eqX (.lst (d :: ds)) (.lst []) = some false := by
  have e : eqL (.lst (d :: ds)) (.lst []) = some false := chk_pos (show (d :: ds).length ≠ ([] : List DL.D).length by simp)
  unfold eqX
  rw [show eqS (.lst (d :: ds)) (.lst []) = none from rfl, e]; rfl
theorem mx_erase {T X1 X2 : List (List Int)} {y : List Int} : (mxD (T ++ (X1 ++ y :: X2))).eraseIdx (T.length + X1.length) = mxD (T ++ (X1 ++ X2)) := by
  unfold mxD
  rw [← List.append_assoc, ← List.append_assoc, List.map_append, List.map_append (l₁ := T ++ X1), List.map_cons, List.eraseIdx_append_of_length_le (by rw [List.length_map, List.length_append]; omega), List.length_map, List.length_append]
  rw [show T.length + X1.length - (T.length + X1.length) = 0 by omega]; rfl
theorem mx_ins {T X : List (List Int)} {y : List Int} : (mxD (T ++ X)).take T.length ++ lnD y :: (mxD (T ++ X)).drop T.length = mxD (T ++ y :: X) := by
  unfold mxD
  rw [List.map_append, List.take_left' (List.length_map ..), List.drop_left' (List.length_map ..), List.map_append, List.map_cons]
section
variable {n w t : Nat} {k : Bool} {It : D} {T X X1 X2 : List (List Int)} {a5 a6 a7 a8 : Option (Bool × D)} {y : List Int}
abbrev FL (k : Bool) (It : D) (L : List D) (f : Int) (t : Int) (a5 a6 a7 a8 : Option (Bool × D)) : DL.Env :=
  [some (.v k It), some (.own L), some (.val (.int f)), none, some (.val (.int t)), sv a5, sv a6, sv a7, sv a8, none, none]
theorem col_skip (ht : t < w) (hw : ∀ l, l ∈ X → l.length = w) (hz : T.length + X.length < 1000) (h : (List.range X.length).filter (pz X t) = []) :
    evB (csT tab n) [false] cs__law_count_f1 (FL k It (mxD (T ++ X)) T.length t a5 a6 a7 a8) = some (.nx (FL k It (mxD (T ++ X)) T.length t (some (true, .lst [])) a6 a7 a8)) := by
  have sz := size_eq
  have ac := at_comp (n := n) (k := k) (It := It) (T := T) (a5 := a5) (a6 := a6) (a7 := a7) (a8 := a8) hw ht
  rw [h] at ac
  have sv1 : ∀ d : DL.D, sv (some (true, d)) = some (.v true d) := fun _ => rfl
  have len : (mxD (T ++ X)).length = T.length + X.length := by rw [mx_len, List.length_append]
  have w1 : (((T.length + X.length : Nat) : Int) - (T.length : Int)).toNat = X.length := by omega
  have w2 : (-4611686018427387904 : Int) ≤ (T.length : Int) ∧ (T.length : Int) < 4611686018427387904 ∧ (-4611686018427387904 : Int) ≤ ((T.length + X.length : Nat) : Int) ∧ ((T.length + X.length : Nat) : Int) < 4611686018427387904 := by omega
  have w3 : X.length ≤ sizeLine := by omega
  have e0 := eq_nil_nil
  unfold FC at ac
  unfold FL
  rw [sv1] at ac
  rw [sv1]
  simp only [List.map_nil] at ac
  generalize mxD (T ++ X) = M at *
  generalize hr : (T.length : Int) = r at *
  clear hw hz h sz sv1 ht
  have h0 : 0 ≤ sizeLine := Nat.zero_le _
  unfold cs__law_count_f1
  k_whileD _ _ _ "ev"
theorem col_pivot {rest : List Nat} (ht : t < w) (hw : ∀ l, l ∈ X1 ++ y :: X2 → l.length = w) (hs : w < 1000) (hz : T.length + (X1.length + X2.length) < 900) (h : (List.range (X1 ++ y :: X2).length).filter (pz (X1 ++ y :: X2) t) = X1.length :: rest)
    (ha : ∀ l, l ∈ X1 ++ X2 → ∀ x, x ∈ l → CMlW (y.getD t 0) x) (hb : ∀ l, l ∈ X1 ++ X2 → ∀ z, z ∈ y → CMlW (l.getD t 0) z) :
    ∃ b5 b6 b7 b8 : Option (Bool × D), evB (csT tab n) [false] cs__law_count_f1 (FL k It (mxD (T ++ (X1 ++ y :: X2))) T.length t a5 a6 a7 a8) =
      some (.nx (FL k It (mxD (T ++ y :: (X1 ++ X2).map fun l => stepL (y.getD t 0) (l.getD t 0) l y)) ((T.length : Int) + 1) t b5 b6 b7 b8)) := by
  have sz := size_eq
  have ac := at_comp (n := n) (k := k) (It := It) (T := T) (X := X1 ++ y :: X2) (a5 := a5) (a6 := a6) (a7 := a7) (a8 := a8) hw ht
  rw [h] at ac
  have hw' : ∀ l, l ∈ X1 ++ X2 → l.length = w := fun l hl => hw l (by
    rcases List.mem_append.mp hl with q | q
    · exact List.mem_append.mpr (.inl q)
    · exact List.mem_append.mpr (.inr (.tail _ q)))
  have hy : y.length = w := hw y (List.mem_append.mpr (.inr (.head _)))
  have xl : (X1 ++ y :: X2).length = X1.length + X2.length + 1 := by rw [List.length_append, List.length_cons]; omega
  obtain ⟨b6, b7, b8, rl⟩ := row_loop (n := n) (k := k) (It := It) (T := T) (X := X1 ++ X2) (a5 := some (true, .lst ((X1.length :: rest).map fun (i : Nat) => D.int ((T.length : Int) + (i : Int))))) (a6 := a6) (a7 := a7) (a8 := a8) (yl := y) ht hw' hy hs (by rw [List.length_append]; omega) ha hb
  refine ⟨some (true, .lst ((X1.length :: rest).map fun (i : Nat) => D.int ((T.length : Int) + (i : Int)))), b6, b7, b8, ?_⟩
  have sv1 : ∀ d : DL.D, sv (some (true, d)) = some (.v true d) := fun _ => rfl
  have er := mx_erase (T := T) (X1 := X1) (X2 := X2) (y := y)
  have ins := mx_ins (T := T) (X := X1 ++ X2) (y := y)
  have gt : (mxD (T ++ (X1 ++ y :: X2)))[T.length + X1.length]? = some (lnD y) := by
    unfold mxD
    rw [← List.append_assoc, List.getElem?_map, List.getElem?_append_right (by rw [List.length_append]; omega), List.length_append, Nat.sub_self]; rfl
  have len : (mxD (T ++ (X1 ++ y :: X2))).length = T.length + (X1.length + X2.length + 1) := by rw [mx_len, List.length_append, xl]
  have len2 : (mxD (T ++ (X1 ++ X2))).length = T.length + (X1.length + X2.length) := by rw [mx_len, List.length_append, List.length_append]
  have len3 : (mxD (T ++ y :: (X1 ++ X2))).length = T.length + (X1.length + X2.length + 1) := by rw [mx_len, List.length_append, List.length_cons, List.length_append]
  have w1 : (((T.length + (X1.length + X2.length + 1) : Nat) : Int) - (T.length : Int)).toNat = (X1 ++ y :: X2).length := by rw [xl]; omega
  have w1' : (((T.length + (X1.length + X2.length + 1) : Nat) : Int) - ((T.length : Int) + 1)).toNat = (X1 ++ X2).length := by rw [List.length_append]; omega
  have w2 : (-4611686018427387904 : Int) ≤ (T.length : Int) ∧ (T.length : Int) < 4611686018427387904 ∧ (-4611686018427387904 : Int) ≤ ((T.length + (X1.length + X2.length + 1) : Nat) : Int) ∧ ((T.length + (X1.length + X2.length + 1) : Nat) : Int) < 4611686018427387904 := by omega
  have w2' : (-4611686018427387904 : Int) ≤ (T.length : Int) + 1 ∧ (T.length : Int) + 1 < 4611686018427387904 ∧ (-4611686018427387904 : Int) ≤ ((T.length + (X1.length + X2.length + 1) : Nat) : Int) ∧ ((T.length + (X1.length + X2.length + 1) : Nat) : Int) < 4611686018427387904 := by omega
  have w3 : (X1 ++ y :: X2).length ≤ sizeLine := by rw [xl]; omega
  have p1 : (0 : Int) ≤ (T.length : Int) + (X1.length : Int) ∧ (T.length : Int) + (X1.length : Int) < 9223372036854775808 := by omega
  have p2 : ((T.length : Int) + (X1.length : Int)).toNat = T.length + X1.length := by omega
  have p3 : (0 : Int) ≤ (T.length : Int) ∧ (T.length : Int) ≤ ((T.length + (X1.length + X2.length) : Nat) : Int) ∧ T.length + (X1.length + X2.length) < sizeLine := by omega
  have p4 : ((T.length : Int)).toNat = T.length := Int.toNat_natCast _
  have h0 : 0 ≤ sizeLine := Nat.zero_le _
  rw [List.map_cons] at ac rl ⊢
  have at0 : ∀ (d : DL.D) (ds : List DL.D), atI (d :: ds) 0 = some d := fun d ds => atI_nat (j := 0) rfl
  have ne := fun (d : DL.D) (ds : List DL.D) => eq_cons_nil (d := d) (ds := ds)
  unfold FC at ac
  unfold FL
  rw [sv1] at ac rl ⊢
  generalize mxD (T ++ y :: (X1 ++ X2).map fun l => stepL (y.getD t 0) (l.getD t 0) l y) = M4 at *
  generalize rest.map (fun (i : Nat) => D.int ((T.length : Int) + (i : Int))) = Rs at *
  have ne' := ne (.int ((T.length : Int) + (X1.length : Int))) Rs
  have at0' := at0 (.int ((T.length : Int) + (X1.length : Int))) Rs
  generalize mxD (T ++ (X1 ++ y :: X2)) = M at *
  generalize mxD (T ++ (X1 ++ X2)) = M2 at *
  generalize mxD (T ++ y :: (X1 ++ X2)) = M3 at *
  generalize (X1 ++ y :: X2).length = N1 at *
  generalize (X1 ++ X2).length = N2 at *
  unfold lnD at gt ins
  generalize y.map D.int = yd at *
  clear hw hw' hz h sz sv1 ht ha hb hy xl hs ne at0
  unfold cs__law_count_f1
  k_whileD _ _ _ "ev"
end
end K30
namespace K30
open PySem L2 DL RL PyProof.Rows LA
local macro_rules | `(tactic| k_whileD _ _ _ "ev") => `(tactic| simp only [*, is_non_list, is_non_tuple, is_non_bool, is_non_str, is_non_int, is_non_dict, pl_non, isn_non, is_bl_list, is_bl_tuple, is_bl_bool, is_bl_str, is_bl_int, is_bl_dict, pl_bl, isn_bl, is_int_list, is_int_tuple, is_int_bool, is_int_str, is_int_int, is_int_dict, pl_int, isn_int, is_str_list, is_str_tuple, is_str_bool, is_str_str, is_str_int, is_str_dict, pl_str, isn_str, is_lst_list, is_lst_tuple, is_lst_bool, is_lst_str, is_lst_int, is_lst_dict, pl_lst, isn_lst, is_tup_list, is_tup_tuple, is_tup_bool, is_tup_str, is_tup_int, is_tup_dict, pl_tup, isn_tup, is_dk_list, is_dk_tuple, is_dk_bool, is_dk_str, is_dk_int, is_dk_dict, pl_dk, isn_dk, qv_atN, qv_atL, qv_ixLit, qv_mulL, qv_fdivL, qv_modL, qv_powL, Nat.reduceLT, Nat.reduceLeDiff, Nat.reduceAdd, Nat.zero_add, Nat.add_zero, Int.reduceLT, Int.reduceLE, Int.reducePow, Int.reduceToNat, Int.reduceEq, Int.reduceNeg, Int.reduceAdd, Int.reduceSub, Int.reduceMul, and_self, and_true, true_and, eq_self, not_true_eq_false, not_false_eq_true,
  ob_o, ob_v, ob_n, ob_s, fr_nil, fr_0, fr_s, nt_t, nt_f, iv_cst, iv_bin, iv_neg, iv_no, iv_one, iv_conj, iv_disj, iv_cmp, iv_ite, iv_idx, iv_sl, iv_lst, iv_tup, iv_fn, iv_isi, iv_call, iv_app, iv_ext, iv_pop, iv_rev, iv_count, iv_join, iv_comp, iv_compI, iv_comp2, iv_dk0, bf_int, bf_str, bf_list, bf_tuple, bf_sum, bf_all, bf_any, bf_sorted, bf_lenSet, chk_true,
  b_nil, b_seq, b_set, b_setIx, b_set2, b_aug, b_setTp, b_set2o, b_swp, b_expr, b_ret, b_retN, b_ife, b_for, b_pass, b_brk, b_cont, qv_nx, qv_ct, qv_bk, qv_ret, m_own, m_var, m_any,
  e_cst, e_var, e_bin, e_neg, e_no, e_one, e_conj, e_disj, e_cmp, e_ite, e_idxO, e_idxV, e_idx, e_sl, e_lst, e_tup, e_lenO, e_fnV, e_fnL, e_fn, e_isi, e_call, e_app, e_ext, e_pop, e_ins, e_rev, e_count, e_join, e_comp, e_compI, e_comp2, e_dk0, f_range,
  t_no, t_one, t_conj, t_disj, t_cmp, t_chain, t_var, e_nem, t_nem, qv_truB, qv_truL, qv_truO, qv_nemO, qv_nemV, t_fn, t_isi, t_call, o_nil, o_one, a_nil, a_cons, a_star, s_nil, s_own, s_var, s_cons, w_range, w_range2, w_zip, w_enum, w_one,
  Option.bind_some, Option.bind_none, Option.map_some, List.getElem?_cons_zero, List.getElem?_cons_succ, List.set_cons_zero, List.set_cons_succ, chk_pos, List.length_cons, List.length_nil, List.length_map, List.all_cons, List.all_nil, Bool.and_true, Bool.true_and, Bool.false_and, Bool.and_false, Bool.and_self, Bool.not_false, Bool.not_true,
  qv_int, qv_bl, qv_str, qv_toT, qv_toO, qv_toI, qv_toS, qv_toB, qv_toN, qv_fixV, qv_fixO, qv_datV, qv_datO, qv_add, qv_addI, qv_addS, qv_addL, qv_sub, qv_mulC, qv_mulW, qv_fdivC, qv_fdivW, qv_rep, qv_iat0, qv_iatS, qv_tupS, qv_tup2, qv_se0, qv_seS, List.isEmpty_nil, List.isEmpty_cons, qv_modC, qv_powC, qv_in, qv_nin, qv_is, qv_isnt, qv_eq, qv_ne, qv_eqI, qv_eqS, qv_eqB, qv_lt, qv_le, qv_gt, qv_ge, qv_dle, qv_inS, qv_inL, qv_inT,
  qv_ixL, qv_ixT, qv_ixS, qv_lenL, qv_lenT, qv_lenO, qv_lenS, qv_itO, qv_itL, qv_itT, qv_itL', qv_itT', qv_sqO, qv_sqL, qv_sqT, qv_lsO, qv_lsV, qv_lkO, qv_lkT, qv_lkS, qv_len, qv_intf, qv_strf, qv_list, qv_tupleT, qv_tupleL, qv_tupleO, qv_sum, qv_all, qv_any, qv_sorted, qv_lenSet, qv_slS, qv_slL, qv_slO, qv_wkO, qv_wkL, qv_wkT, qv_wkS, qv_getO0, qv_getOS, qv_varV, qv_varO,
  qv_nvT, qv_nvI, qv_nvS, qv_nvB, qv_nvN, qv_nvO, qv_argV, qv_argO, qv_atp, qv_ixp, qv_isi1, qv_isi2, qv_call, qv_aNil, qv_aCons, qv_aEx, qv_aOwn, qv_aBor, qv_backV, qv_backO, qv_backB, qv_backN, if_true, if_false, Bool.false_eq_true, reduceIte, decide_true, decide_false, Bool.or_true, Bool.true_or, Bool.or_false, Bool.false_or, sc_non, sc_bl, sc_int, sc_str, sc_lst, sc_tup, sc_dk,
  mk_sv, kp_sv, bk_sv, no_sv, x_ext, wp_nil, wp_cons, mk_nil, mk_o, mk_v, mk_n, mg_nil, mg_cons, mg_t, mg_f, kp_v, kp_n, kp_o, bk_same, bk_o, bk_t, bk_f, bk_n, by_nm, by_two, no_nil, no_o, no_v, no_n, rb_v, rb_o, os_nil, os_o, os_v, fin_ret, fin_nx, List.contains_cons, List.contains_nil, Nat.reduceBEq, Nat.reduceEqDiff, List.nodup_cons, List.nodup_nil, varsOf, List.not_mem_nil, List.mem_cons, List.mem_singleton, or_false, false_or, or_true, true_or, decide_eq_true_eq, Tgt.ix, isOwn, List.map_cons, List.map_nil, List.cons_append, List.nil_append])
def Lb : Nat → Nat
  | 0 => 0
  | r + 1 => 2 * Lb r + 6600
theorem Lb_le : ∀ {r : Nat}, Lb r + 6600 = 6600 * 2 ^ r
  | 0 => rfl
  | r + 1 => by
    show 2 * Lb r + 6600 + 6600 = _
    have := Lb_le (r := r)
    rw [Nat.pow_succ]; omega
theorem row_bits {A : List (List Int)} {w e : Nat} (h : Ln A w e) {x : Row Nat} (hx : x ∈ A.map rowF) (c : Nat) : (x c).natAbs ≤ 2 ^ e := by
  obtain ⟨l, hl, rfl⟩ := List.mem_map.mp hx
  show (l.getD c 0).natAbs ≤ _
  rw [List.getD_eq_getElem?_getD]
  cases q : l[c]? with
  | none => exact Nat.zero_le _
  | some y => exact h.b l hl y (List.mem_of_getElem? q)
theorem row_far {A : List (List Int)} {w e : Nat} (h : Ln A w e) {x : Row Nat} (hx : x ∈ A.map rowF) (j : Nat) (hj : w ≤ j) : x j = 0 := by
  obtain ⟨l, hl, rfl⟩ := List.mem_map.mp hx
  show l.getD j 0 = 0
  rw [List.getD_eq_getElem?_getD, List.getElem?_eq_none (by rw [h.w l hl]; exact hj)]; rfl
section
variable {A : List (List Int)} {w t : Nat} {Ds Rest : List (Row Nat)} {Cs : List Nat} {s l : Int}
theorem _root_.LA.El.inA {A : List (Row Nat)} (h : El A w t Ds Cs Rest s) {x : Row Nat} (hx : x ∈ Ds ∨ x ∈ Rest) : x ∈ A := by
  rw [h.ps.mem x, List.mem_append, List.mem_reverse]; exact hx
theorem _root_.LA.El.bits (h : El (A.map rowF) w t Ds Cs Rest s) (hA : Ln A w 810) (hr : Ds.length ≤ 7) {x : Row Nat} (hx : x ∈ Rest) (j : Nat) : (bor Ds Cs x j).natAbs ≤ 2 ^ 6600 := by
  have := dt_bits (a := 810) (n := 8) (xs := x :: Ds) (cs := j :: Cs) (fun y hy c => by
    cases hy with
    | head => exact row_bits hA (h.inA (.inr hx)) c
    | tail _ hy => exact row_bits hA (h.inA (.inl hy)) c) (by simp only [List.length_cons]; omega) (Nat.le_refl _)
  exact Nat.le_trans this (Nat.pow_le_pow_right (by decide) (by decide))
theorem _root_.LA.El.qbits (h : El (A.map rowF) w t Ds Cs Rest s) (hA : Ln A w 810) (hr : Ds.length ≤ 7) : (dt Ds Cs).natAbs ≤ 2 ^ 6600 := by
  have := dt_bits (a := 810) (n := 8) (xs := Ds) (cs := Cs) (fun y hy c => row_bits hA (h.inA (.inl hy)) c) (by omega) (Nat.le_refl _)
  exact Nat.le_trans this (Nat.pow_le_pow_right (by decide) (by decide))
theorem mulw_of {a b : Int} {E : Nat} (ha : a.natAbs ≤ 2 ^ E) (hb : b.natAbs ≤ 2 ^ E) (hE : E ≤ 1000000) : CMlW a b := by
  have p : 2 ^ E < 2 ^ (E + 1) := Nat.pow_lt_pow_right (by decide) (by omega)
  exact .inr (mulx_ok (a := E + 1) (b := E + 1) (by omega) (by omega) (by omega))
end
theorem split_at {α : Type} {l : List α} {i : Nat} (h : i < l.length) : ∃ p y q, l = p ++ y :: q ∧ p.length = i := by
  refine ⟨l.take i, l[i], l.drop (i + 1), ?_, by rw [List.length_take]; omega⟩
  rw [← List.drop_eq_getElem_cons h, List.take_append_drop]
/-- how far the law's count is -/
structure CS (A : List (List Int)) (w t : Nat) (T X : List (List Int)) : Prop where
  ex : ∃ (Ds Rest : List (Row Nat)) (Cs : List Nat) (s l : Int), El (A.map rowF) w t Ds Cs Rest s ∧ Ds.length ≤ t ∧ l ≠ 0 ∧ l.natAbs ≤ 2 ^ Lb Ds.length ∧ T.length = Ds.length ∧ X = Rest.map (bl w l Ds Cs)
section
variable {n w t : Nat} {k : Bool} {It : D} {A T X : List (List Int)} {a5 a6 a7 a8 : Option (Bool × D)}
theorem CS.wid (h : CS A w t T X) : ∀ l, l ∈ X → l.length = w := by
  obtain ⟨Ds, Rest, Cs, s, l, _, _, _, _, _, rfl⟩ := h.ex
  intro y hy
  obtain ⟨x, _, rfl⟩ := List.mem_map.mp hy
  exact bl_len
theorem CS.len (h : CS A w t T X) : T.length + X.length = A.length := by
  obtain ⟨Ds, Rest, Cs, s, l, e, _, _, _, h5, rfl⟩ := h.ex
  have := e.ps.len
  rw [List.length_map, List.length_append, List.length_reverse] at this
  rw [List.length_map]; omega
theorem count_col (hA : Ln A w 810) (hw : w ≤ 7) (hn : A.length < 800) (ht : t < w) (h : CS A w t T X) :
    ∃ (T' X' : List (List Int)) (b5 b6 b7 b8 : Option (Bool × D)), CS A w (t + 1) T' X' ∧ evB (csT tab n) [false] cs__law_count_f1 (FL k It (mxD (T ++ X)) T.length t a5 a6 a7 a8) = some (.nx (FL k It (mxD (T' ++ X')) T'.length t b5 b6 b7 b8)) := by
  have hwid := h.wid
  have hlen := h.len
  obtain ⟨Ds, Rest, Cs, s, l, e, h2, h3, h4, h5, hX⟩ := h.ex
  cases hf : (List.range X.length).filter (pz X t) with
  | nil =>
    refine ⟨T, X, some (true, .lst []), a6, a7, a8, ⟨Ds, Rest, Cs, s, l, e.skip fun x hx => ?_, by omega, h3, h4, h5, hX⟩, col_skip ht hwid (by omega) hf⟩
    obtain ⟨i, hi, rfl⟩ := List.mem_iff_getElem.mp hx
    have hiX : i < X.length := by rw [hX, List.length_map]; exact hi
    have p := none_of hf i hiX
    unfold pz at p
    have e1 : X.getD i [] = bl w l Ds Cs Rest[i] := by
      rw [List.getD_eq_getElem?_getD, hX, List.getElem?_map, List.getElem?_eq_getElem hi]; rfl
    rw [e1, bl_at ht] at p
    have p2 : l * bor Ds Cs Rest[i] t = 0 := by
      have := of_decide_eq_false p
      exact Decidable.not_not.mp this
    exact (Int.mul_eq_zero.mp p2).resolve_left h3
  | cons i0 rest =>
    obtain ⟨f1, f2, _⟩ := first_of hf
    have f1' : i0 < Rest.length := by rw [hX, List.length_map] at f1; exact f1
    obtain ⟨R1, y0, R2, hR, hl1⟩ := split_at f1'
    subst hl1
    have hX2 : X = R1.map (bl w l Ds Cs) ++ bl w l Ds Cs y0 :: R2.map (bl w l Ds Cs) := by rw [hX, hR, List.map_append, List.map_cons]
    have hyt : l * bor Ds Cs y0 t ≠ 0 := by
      unfold pz at f2
      have e1 : X.getD R1.length [] = bl w l Ds Cs y0 := by
        rw [hX2, List.getD_eq_getElem?_getD, List.getElem?_append_right (by rw [List.length_map]; exact Nat.le_refl _), List.length_map, Nat.sub_self]; rfl
      rw [e1, bl_at ht] at f2
      exact of_decide_eq_true f2
    have hy0 : bor Ds Cs y0 t ≠ 0 := fun q => hyt (by rw [q, Int.mul_zero])
    have hr7 : Ds.length ≤ 7 := by omega
    have hLb : Lb Ds.length + 6600 ≤ 1000000 := by
      rw [Lb_le]
      have : 2 ^ Ds.length ≤ 2 ^ 7 := Nat.pow_le_pow_right (by decide) hr7
      omega
    have ebits : ∀ x, x ∈ Rest → ∀ j, (l * bor Ds Cs x j).natAbs ≤ 2 ^ (Lb Ds.length + 6600) := fun x hx j => by
      rw [Int.natAbs_mul, Nat.pow_add]
      exact Nat.mul_le_mul h4 (e.bits hA hr7 hx j)
    have lbits : ∀ x, x ∈ Rest → ∀ z, z ∈ bl w l Ds Cs x → z.natAbs ≤ 2 ^ (Lb Ds.length + 6600) := fun x hx z hz => by
      unfold bl at hz
      obtain ⟨j, _, rfl⟩ := List.mem_map.mp hz
      exact ebits x hx j
    have tbits : ∀ x, x ∈ Rest → ((bl w l Ds Cs x).getD t 0).natAbs ≤ 2 ^ (Lb Ds.length + 6600) := fun x hx => by
      rw [bl_at ht]; exact ebits x hx t
    have m0 : y0 ∈ Rest := by rw [hR]; exact List.mem_append.mpr (.inr (.head _))
    have mm : ∀ L, L ∈ R1.map (bl w l Ds Cs) ++ R2.map (bl w l Ds Cs) → ∃ x, x ∈ Rest ∧ L = bl w l Ds Cs x := fun L hL => by
      rw [← List.map_append] at hL
      obtain ⟨x, hx, rfl⟩ := List.mem_map.mp hL
      refine ⟨x, ?_, rfl⟩
      rw [hR]
      rcases List.mem_append.mp hx with q | q
      · exact List.mem_append.mpr (.inl q)
      · exact List.mem_append.mpr (.inr (.tail _ q))
    have hf2 : (List.range (R1.map (bl w l Ds Cs) ++ bl w l Ds Cs y0 :: R2.map (bl w l Ds Cs)).length).filter (pz (R1.map (bl w l Ds Cs) ++ bl w l Ds Cs y0 :: R2.map (bl w l Ds Cs)) t) = (R1.map (bl w l Ds Cs)).length :: rest := by
      rw [← hX2, List.length_map]; exact hf
    obtain ⟨b5, b6, b7, b8, ev⟩ := col_pivot (n := n) (k := k) (It := It) (T := T) (X1 := R1.map (bl w l Ds Cs)) (X2 := R2.map (bl w l Ds Cs)) (y := bl w l Ds Cs y0) (a5 := a5) (a6 := a6) (a7 := a7) (a8 := a8) ht (by rw [← hX2]; exact hwid) (by omega) (by
      have : X.length = R1.length + (R2.length + 1) := by rw [hX2, List.length_append, List.length_cons, List.length_map, List.length_map]
      rw [List.length_map, List.length_map]; omega) hf2
      (fun L hL x hx => by
        obtain ⟨x0, hx0, rfl⟩ := mm L hL
        exact mulw_of (tbits y0 m0) (lbits x0 hx0 x hx) hLb)
      (fun L hL z hz => by
        obtain ⟨x0, hx0, rfl⟩ := mm L hL
        exact mulw_of (tbits x0 hx0) (lbits y0 m0 z hz) hLb)
    have st : ((R1.map (bl w l Ds Cs) ++ R2.map (bl w l Ds Cs)).map fun L => stepL ((bl w l Ds Cs y0).getD t 0) (L.getD t 0) L (bl w l Ds Cs y0)) = (R1 ++ R2).map (bl w (l * l * dt Ds Cs) (y0 :: Ds) (t :: Cs)) := by
      rw [← List.map_append, List.map_map]
      refine List.map_congr_left fun x _ => ?_
      show stepL _ ((bl w l Ds Cs x).getD t 0) (bl w l Ds Cs x) _ = _
      rw [bl_at ht, bl_at ht]
      exact step_mul e.q
    rw [st] at ev
    refine ⟨T ++ [bl w l Ds Cs y0], (R1 ++ R2).map (bl w (l * l * dt Ds Cs) (y0 :: Ds) (t :: Cs)), b5, b6, b7, b8, ⟨y0 :: Ds, R1 ++ R2, t :: Cs, _, l * l * dt Ds Cs, e.pivot (by rw [hR]; exact PS.back y0 R1 R2) hy0, by simp only [List.length_cons]; omega, ?_, ?_, by rw [List.length_append, List.length_cons, h5]; rfl, rfl⟩, ?_⟩
    · exact Int.mul_ne_zero (Int.mul_ne_zero h3 h3) e.q
    · rw [List.length_cons, show Lb (Ds.length + 1) = Lb Ds.length + Lb Ds.length + 6600 by show 2 * Lb Ds.length + 6600 = _; omega, Nat.pow_add, Nat.pow_add, Int.natAbs_mul, Int.natAbs_mul]
      exact Nat.mul_le_mul (Nat.mul_le_mul h4 h4) (e.qbits hA hr7)
    · rw [hX2, ev]
      have e1 : T ++ bl w l Ds Cs y0 :: (R1 ++ R2).map (bl w (l * l * dt Ds Cs) (y0 :: Ds) (t :: Cs)) = T ++ [bl w l Ds Cs y0] ++ (R1 ++ R2).map (bl w (l * l * dt Ds Cs) (y0 :: Ds) (t :: Cs)) := by simp
      have e2 : (T.length : Int) + 1 = ((T ++ [bl w l Ds Cs y0]).length : Int) := by rw [List.length_append]; simp
      rw [e1, e2]
end
end K30
namespace K30
open PySem L2 DL RL PyProof.Rows LA
local macro_rules | `(tactic| k_whileD _ _ _ "ev") => `(tactic| simp only [*, is_non_list, is_non_tuple, is_non_bool, is_non_str, is_non_int, is_non_dict, pl_non, isn_non, is_bl_list, is_bl_tuple, is_bl_bool, is_bl_str, is_bl_int, is_bl_dict, pl_bl, isn_bl, is_int_list, is_int_tuple, is_int_bool, is_int_str, is_int_int, is_int_dict, pl_int, isn_int, is_str_list, is_str_tuple, is_str_bool, is_str_str, is_str_int, is_str_dict, pl_str, isn_str, is_lst_list, is_lst_tuple, is_lst_bool, is_lst_str, is_lst_int, is_lst_dict, pl_lst, isn_lst, is_tup_list, is_tup_tuple, is_tup_bool, is_tup_str, is_tup_int, is_tup_dict, pl_tup, isn_tup, is_dk_list, is_dk_tuple, is_dk_bool, is_dk_str, is_dk_int, is_dk_dict, pl_dk, isn_dk, qv_atN, qv_atL, qv_ixLit, qv_mulL, qv_fdivL, qv_modL, qv_powL, Nat.reduceLT, Nat.reduceLeDiff, Nat.reduceAdd, Nat.zero_add, Nat.add_zero, Int.reduceLT, Int.reduceLE, Int.reducePow, Int.reduceToNat, Int.reduceEq, Int.reduceNeg, Int.reduceAdd, Int.reduceSub, Int.reduceMul, and_self, and_true, true_and, eq_self, not_true_eq_false, not_false_eq_true,
  ob_o, ob_v, ob_n, ob_s, fr_nil, fr_0, fr_s, nt_t, nt_f, iv_cst, iv_bin, iv_neg, iv_no, iv_one, iv_conj, iv_disj, iv_cmp, iv_ite, iv_idx, iv_sl, iv_lst, iv_tup, iv_fn, iv_isi, iv_call, iv_app, iv_ext, iv_pop, iv_rev, iv_count, iv_join, iv_comp, iv_compI, iv_comp2, iv_dk0, bf_int, bf_str, bf_list, bf_tuple, bf_sum, bf_all, bf_any, bf_sorted, bf_lenSet, chk_true,
  b_nil, b_seq, b_set, b_setIx, b_set2, b_aug, b_setTp, b_set2o, b_swp, b_expr, b_ret, b_retN, b_ife, b_for, b_pass, b_brk, b_cont, qv_nx, qv_ct, qv_bk, qv_ret, m_own, m_var, m_any,
  e_cst, e_var, e_bin, e_neg, e_no, e_one, e_conj, e_disj, e_cmp, e_ite, e_idxO, e_idxV, e_idx, e_sl, e_lst, e_tup, e_lenO, e_fnV, e_fnL, e_fn, e_isi, e_call, e_app, e_ext, e_pop, e_ins, e_rev, e_count, e_join, e_comp, e_compI, e_comp2, e_dk0, f_range,
  t_no, t_one, t_conj, t_disj, t_cmp, t_chain, t_var, e_nem, t_nem, qv_truB, qv_truL, qv_truO, qv_nemO, qv_nemV, t_fn, t_isi, t_call, o_nil, o_one, a_nil, a_cons, a_star, s_nil, s_own, s_var, s_cons, w_range, w_range2, w_zip, w_enum, w_one,
  Option.bind_some, Option.bind_none, Option.map_some, List.getElem?_cons_zero, List.getElem?_cons_succ, List.set_cons_zero, List.set_cons_succ, chk_pos, List.length_cons, List.length_nil, List.length_map, List.all_cons, List.all_nil, Bool.and_true, Bool.true_and, Bool.false_and, Bool.and_false, Bool.and_self, Bool.not_false, Bool.not_true,
  qv_int, qv_bl, qv_str, qv_toT, qv_toO, qv_toI, qv_toS, qv_toB, qv_toN, qv_fixV, qv_fixO, qv_datV, qv_datO, qv_add, qv_addI, qv_addS, qv_addL, qv_sub, qv_mulC, qv_mulW, qv_fdivC, qv_fdivW, qv_rep, qv_iat0, qv_iatS, qv_tupS, qv_tup2, qv_se0, qv_seS, List.isEmpty_nil, List.isEmpty_cons, qv_modC, qv_powC, qv_in, qv_nin, qv_is, qv_isnt, qv_eq, qv_ne, qv_eqI, qv_eqS, qv_eqB, qv_lt, qv_le, qv_gt, qv_ge, qv_dle, qv_inS, qv_inL, qv_inT,
  qv_ixL, qv_ixT, qv_ixS, qv_lenL, qv_lenT, qv_lenO, qv_lenS, qv_itO, qv_itL, qv_itT, qv_itL', qv_itT', qv_sqO, qv_sqL, qv_sqT, qv_lsO, qv_lsV, qv_lkO, qv_lkT, qv_lkS, qv_len, qv_intf, qv_strf, qv_list, qv_tupleT, qv_tupleL, qv_tupleO, qv_sum, qv_all, qv_any, qv_sorted, qv_lenSet, qv_slS, qv_slL, qv_slO, qv_wkO, qv_wkL, qv_wkT, qv_wkS, qv_getO0, qv_getOS, qv_varV, qv_varO,
  qv_nvT, qv_nvI, qv_nvS, qv_nvB, qv_nvN, qv_nvO, qv_argV, qv_argO, qv_atp, qv_ixp, qv_isi1, qv_isi2, qv_call, qv_aNil, qv_aCons, qv_aEx, qv_aOwn, qv_aBor, qv_backV, qv_backO, qv_backB, qv_backN, if_true, if_false, Bool.false_eq_true, reduceIte, decide_true, decide_false, Bool.or_true, Bool.true_or, Bool.or_false, Bool.false_or, sc_non, sc_bl, sc_int, sc_str, sc_lst, sc_tup, sc_dk,
  mk_sv, kp_sv, bk_sv, no_sv, x_ext, wp_nil, wp_cons, mk_nil, mk_o, mk_v, mk_n, mg_nil, mg_cons, mg_t, mg_f, kp_v, kp_n, kp_o, bk_same, bk_o, bk_t, bk_f, bk_n, by_nm, by_two, no_nil, no_o, no_v, no_n, rb_v, rb_o, os_nil, os_o, os_v, fin_ret, fin_nx, List.contains_cons, List.contains_nil, Nat.reduceBEq, Nat.reduceEqDiff, List.nodup_cons, List.nodup_nil, varsOf, List.not_mem_nil, List.mem_cons, List.mem_singleton, or_false, false_or, or_true, true_or, decide_eq_true_eq, Tgt.ix, isOwn, List.map_cons, List.map_nil, List.cons_append, List.nil_append])
theorem lists_comp {n : Nat} {k : Bool} {A : List (List Int)} :
    compL (compF (csT tab n) cs__law_count_e0 (.nm 3) [3] (fun t => .one (.val ((mxD A).getD t .non)))) 0 (mxD A).length
      [some (.v k (.lst (mxD A))), none, none, none, none, none, none, none, none, none, none] [] =
      some (mxD A, [some (.v k (.lst (mxD A))), none, none, none, none, none, none, none, none, none, none]) := by
  have e : (mxD A).map id = mxD A := List.map_id _
  rw [← e]
  rw [e]
  refine (compL_list (ds := mxD A) id fun t d h => ?_).trans (by rw [e])
  have hd : (mxD A).getD t .non = d := by rw [List.getD_eq_getElem?_getD, h]; rfl
  obtain ⟨l, _, rfl⟩ := List.mem_map.mp (show d ∈ A.map lnD from List.mem_of_getElem? h)
  unfold compF
  dsimp only
  rw [hd]
  unfold lnD
  generalize l.map D.int = L
  generalize mxD A = M
  clear h hd e
  unfold cs__law_count_e0
  k_whileD _ _ _ "ev"
  rfl
theorem CS.start (A : List (List Int)) (w : Nat) (hw : ∀ l, l ∈ A → l.length = w) : CS A w 0 [] A := by
  refine ⟨[], A.map rowF, [], 1, 1, El.start _ _, Nat.zero_le _, by decide, by decide, rfl, ?_⟩
  exact linesOf_start A w hw
theorem CS.done {A T X : List (List Int)} {w e : Nat} (h : CS A w w T X) (hA : Ln A w e) : Rk A w T.length := by
  obtain ⟨Ds, Rest, Cs, s, l, el, _, _, _, h5, _⟩ := h.ex
  rw [h5]
  exact el.rank (Nat.le_refl _) el.lt fun x hx j hj => row_far hA hx j hj
theorem count_spec {n w : Nat} {k : Bool} {A : List (List Int)} (hA : Ln A w 810) (hw : w ≤ 7) (hn : A.length < 800) :
    ∃ r : Nat, Rk A w r ∧ (csT tab (n + 1)).C 12 [.v k (.lst (mxD A))] = some (.val (.int (r : Int)), [.v k (.lst (mxD A))]) := by
  rw [call_eq (T := tab) (f := 12) rfl rfl]
  show ∃ r : Nat, _ ∧ (evB (csT tab n) [false] cs__law_count [some (.v k (.lst (mxD A))), none, none, none, none, none, none, none, none, none, none]).bind _ = _
  have sz := size_eq
  have lc := lists_comp (n := n) (k := k) (A := A)
  have ml : (mxD A).length ≤ sizeLine := by rw [mx_len]; omega
  have h0 : 0 ≤ sizeLine := Nat.zero_le _
  by_cases hA0 : A = []
  · subst hA0
    refine ⟨0, (CS.done (T := []) (X := []) ⟨[], [], [], 1, 1, ?_, Nat.zero_le _, by decide, by decide, rfl, rfl⟩ hA), ?_⟩
    · refine ⟨.refl _, rfl, fun c h => absurd h (by simp), .nil, (El.start ([] : List (Row Nat)) 0).q, fun x h => absurd h (by simp)⟩
    · show (evB (csT tab n) [false] cs__law_count [some (.v k (.lst [])), none, none, none, none, none, none, none, none, none, none]).bind _ = some ((DL.Slot.val (.int 0), [DL.Slot.v k (.lst [])]) : DL.Slot × List DL.Slot)
      have lc' : compL (compF (csT tab n) cs__law_count_e0 (.nm 3) [3] (fun t => .one (.val (([] : List DL.D).getD t .non)))) 0 0 [some (.v k (.lst [])), none, none, none, none, none, none, none, none, none, none] [] = some (([] : List DL.D), [some (.v k (.lst [])), none, none, none, none, none, none, none, none, none, none]) := lc
      clear hA hn lc ml sz
      have hr : forL (forF (csT tab n) [false] (.nm 4) (fun t => .one (.val (.int (t : Int)))) cs__law_count_f1) 0 0 [some (.v k (.lst [])), some (.own []), some (.val (.int 0)), none, none, none, none, none, none, none, none] = some (.nx [some (.v k (.lst [])), some (.own []), some (.val (.int 0)), none, none, none, none, none, none, none, none]) := rfl
      have t0 : ((0 : Int)).toNat = 0 := rfl
      have n0 : ([] : List DL.D).isEmpty = true := rfl
      unfold cs__law_count
      k_whileD _ _ _ "ev"
      rfl
  · obtain ⟨ρ', g1, T, X, b4, b5, b6, b7, b8, hc, rfl⟩ := forL_ind (f := forF (csT tab n) [false] (.nm 4) (fun t => .one (.val (.int (t : Int)))) cs__law_count_f1)
      (fun t ρ => ∃ (T X : List (List Int)) (b4 b5 b6 b7 b8 : Option (Bool × D)), CS A w t T X ∧ ρ = [some (.v k (.lst (mxD A))), some (.own (mxD (T ++ X))), some (.val (.int (T.length : Int))), none, sv b4, sv b5, sv b6, sv b7, sv b8, none, none]) (m := w) (s := 0)
      (ρ := [some (.v k (.lst (mxD A))), some (.own (mxD A)), some (.val (.int 0)), none, none, none, none, none, none, none, none]) ⟨[], A, none, none, none, none, none, CS.start A w hA.w, rfl⟩ fun t ρ _ ht ⟨T, X, b4, b5, b6, b7, b8, hc, hj⟩ => by
        subst hj
        obtain ⟨T', X', c5, c6, c7, c8, hc', ev⟩ := count_col (n := n) (k := k) (It := .lst (mxD A)) (a5 := b5) (a6 := b6) (a7 := b7) (a8 := b8) hA hw hn (t := t) (by omega) hc
        exact ⟨_, ev, T', X', some (true, .int (t : Int)), c5, c6, c7, c8, hc', rfl⟩
    rw [Nat.zero_add] at hc
    refine ⟨T.length, hc.done hA, ?_⟩
    obtain ⟨l, ls, rfl⟩ : ∃ l ls, A = l :: ls := by
      cases A with
      | nil => exact absurd rfl hA0
      | cons l ls => exact ⟨l, ls, rfl⟩
    have hl : l.length = w := hA.w l (.head _)
    have a0 : atI (mxD (l :: ls)) 0 = some (lnD l) := mx_at (A := l :: ls) (t := 0) (by simp)
    have ne : (mxD (l :: ls)).isEmpty = false := rfl
    have w1 : ((w : Int)).toNat = w := Int.toNat_natCast w
    have w2 : (-4611686018427387904 : Int) ≤ (w : Int) ∧ (w : Int) < 4611686018427387904 := by omega
    unfold lnD at a0
    have ll : (l.map D.int).length = w := by rw [List.length_map]; exact hl
    generalize mxD (T ++ X) = M4 at *
    generalize mxD (l :: ls) = M at *
    generalize l.map D.int = ld at *
    clear hA hn hA0 hc hl sz
    unfold cs__law_count
    k_whileD _ _ _ "ev"
end K30
namespace K30
open PySem L2 DL RL PyProof.Rows LA
local macro_rules | `(tactic| k_whileD _ _ _ "ev") => `(tactic| simp only [*, is_non_list, is_non_tuple, is_non_bool, is_non_str, is_non_int, is_non_dict, pl_non, isn_non, is_bl_list, is_bl_tuple, is_bl_bool, is_bl_str, is_bl_int, is_bl_dict, pl_bl, isn_bl, is_int_list, is_int_tuple, is_int_bool, is_int_str, is_int_int, is_int_dict, pl_int, isn_int, is_str_list, is_str_tuple, is_str_bool, is_str_str, is_str_int, is_str_dict, pl_str, isn_str, is_lst_list, is_lst_tuple, is_lst_bool, is_lst_str, is_lst_int, is_lst_dict, pl_lst, isn_lst, is_tup_list, is_tup_tuple, is_tup_bool, is_tup_str, is_tup_int, is_tup_dict, pl_tup, isn_tup, is_dk_list, is_dk_tuple, is_dk_bool, is_dk_str, is_dk_int, is_dk_dict, pl_dk, isn_dk, qv_atN, qv_atL, qv_ixLit, qv_mulL, qv_fdivL, qv_modL, qv_powL, Nat.reduceLT, Nat.reduceLeDiff, Nat.reduceAdd, Nat.zero_add, Nat.add_zero, Int.reduceLT, Int.reduceLE, Int.reducePow, Int.reduceToNat, Int.reduceEq, Int.reduceNeg, Int.reduceAdd, Int.reduceSub, Int.reduceMul, and_self, and_true, true_and, eq_self, not_true_eq_false, not_false_eq_true,
  ob_o, ob_v, ob_n, ob_s, fr_nil, fr_0, fr_s, nt_t, nt_f, iv_cst, iv_bin, iv_neg, iv_no, iv_one, iv_conj, iv_disj, iv_cmp, iv_ite, iv_idx, iv_sl, iv_lst, iv_tup, iv_fn, iv_isi, iv_call, iv_app, iv_ext, iv_pop, iv_rev, iv_count, iv_join, iv_comp, iv_compI, iv_comp2, iv_dk0, bf_int, bf_str, bf_list, bf_tuple, bf_sum, bf_all, bf_any, bf_sorted, bf_lenSet, chk_true,
  b_nil, b_seq, b_set, b_setIx, b_set2, b_aug, b_setTp, b_set2o, b_swp, b_expr, b_ret, b_retN, b_ife, b_for, b_pass, b_brk, b_cont, qv_nx, qv_ct, qv_bk, qv_ret, m_own, m_var, m_any,
  e_cst, e_var, e_bin, e_neg, e_no, e_one, e_conj, e_disj, e_cmp, e_ite, e_idxO, e_idxV, e_idx, e_sl, e_lst, e_tup, e_lenO, e_fnV, e_fnL, e_fn, e_isi, e_call, e_app, e_ext, e_pop, e_ins, e_rev, e_count, e_join, e_comp, e_compI, e_comp2, e_dk0, f_range,
  t_no, t_one, t_conj, t_disj, t_cmp, t_chain, t_var, e_nem, t_nem, qv_truB, qv_truL, qv_truO, qv_nemO, qv_nemV, t_fn, t_isi, t_call, o_nil, o_one, a_nil, a_cons, a_star, s_nil, s_own, s_var, s_cons, w_range, w_range2, w_zip, w_enum, w_one,
  Option.bind_some, Option.bind_none, Option.map_some, List.getElem?_cons_zero, List.getElem?_cons_succ, List.set_cons_zero, List.set_cons_succ, chk_pos, List.length_cons, List.length_nil, List.length_map, List.all_cons, List.all_nil, Bool.and_true, Bool.true_and, Bool.false_and, Bool.and_false, Bool.and_self, Bool.not_false, Bool.not_true,
  qv_int, qv_bl, qv_str, qv_toT, qv_toO, qv_toI, qv_toS, qv_toB, qv_toN, qv_fixV, qv_fixO, qv_datV, qv_datO, qv_add, qv_addI, qv_addS, qv_addL, qv_sub, qv_mulC, qv_mulW, qv_fdivC, qv_fdivW, qv_rep, qv_iat0, qv_iatS, qv_tupS, qv_tup2, qv_se0, qv_seS, List.isEmpty_nil, List.isEmpty_cons, qv_modC, qv_powC, qv_in, qv_nin, qv_is, qv_isnt, qv_eq, qv_ne, qv_eqI, qv_eqS, qv_eqB, qv_lt, qv_le, qv_gt, qv_ge, qv_dle, qv_inS, qv_inL, qv_inT,
  qv_ixL, qv_ixT, qv_ixS, qv_lenL, qv_lenT, qv_lenO, qv_lenS, qv_itO, qv_itL, qv_itT, qv_itL', qv_itT', qv_sqO, qv_sqL, qv_sqT, qv_lsO, qv_lsV, qv_lkO, qv_lkT, qv_lkS, qv_len, qv_intf, qv_strf, qv_list, qv_tupleT, qv_tupleL, qv_tupleO, qv_sum, qv_all, qv_any, qv_sorted, qv_lenSet, qv_slS, qv_slL, qv_slO, qv_wkO, qv_wkL, qv_wkT, qv_wkS, qv_getO0, qv_getOS, qv_varV, qv_varO,
  qv_nvT, qv_nvI, qv_nvS, qv_nvB, qv_nvN, qv_nvO, qv_argV, qv_argO, qv_atp, qv_ixp, qv_isi1, qv_isi2, qv_call, qv_aNil, qv_aCons, qv_aEx, qv_aOwn, qv_aBor, qv_backV, qv_backO, qv_backB, qv_backN, if_true, if_false, Bool.false_eq_true, reduceIte, decide_true, decide_false, Bool.or_true, Bool.true_or, Bool.or_false, Bool.false_or, sc_non, sc_bl, sc_int, sc_str, sc_lst, sc_tup, sc_dk,
  mk_sv, kp_sv, bk_sv, no_sv, x_ext, wp_nil, wp_cons, mk_nil, mk_o, mk_v, mk_n, mg_nil, mg_cons, mg_t, mg_f, kp_v, kp_n, kp_o, bk_same, bk_o, bk_t, bk_f, bk_n, by_nm, by_two, no_nil, no_o, no_v, no_n, rb_v, rb_o, os_nil, os_o, os_v, fin_ret, fin_nx, List.contains_cons, List.contains_nil, Nat.reduceBEq, Nat.reduceEqDiff, List.nodup_cons, List.nodup_nil, varsOf, List.not_mem_nil, List.mem_cons, List.mem_singleton, or_false, false_or, or_true, true_or, decide_eq_true_eq, Tgt.ix, isOwn, List.map_cons, List.map_nil, List.cons_append, List.nil_append])
/-! ### _eliminated: lines that are lists or tuples -/
abbrev LB := Bool × List Int
def lnB (p : LB) : D := if p.1 then .tup (p.2.map .int) else .lst (p.2.map .int)
def bxD (A : List LB) : List D := A.map lnB
theorem bx_len (A : List LB) : (bxD A).length = A.length := List.length_map ..
theorem bx_at {A : List LB} {t : Nat} (h : t < A.length) : atI (bxD A) (t : Int) = some (lnB (A.getD t (false, []))) :=
  atI_nat (by unfold bxD; rw [List.getElem?_map, List.getElem?_eq_getElem h, List.getD_eq_getElem?_getD, List.getElem?_eq_getElem h]; rfl)
theorem ixB {p : LB} {t : Nat} (h : t < p.2.length) (k : Bool) : idxS (.v k (lnB p)) (t : Int) = some (.val (.int (p.2.getD t 0))) := by
  have := ln_at h
  obtain ⟨b, l⟩ := p
  cases b with
  | true =>
    show (atI (l.map D.int) (t : Int)).map _ = _
    rw [this]; rfl
  | false =>
    show (atI (l.map D.int) (t : Int)).map _ = _
    rw [this]; rfl
theorem sqB (p : LB) (k : Bool) : seqS (.v k (lnB p)) = some (k, p.2.map .int) := by
  obtain ⟨b, l⟩ := p
  cases b <;> rfl
theorem fixB (p : LB) (k : Bool) : fixS (.v k (lnB p)) = .v k (lnB p) := rfl
def pzB (X : List LB) (t i : Nat) : Bool := decide ((X.getD i (false, [])).2.getD t 0 ≠ 0)
theorem appB_at {T X : List LB} {i : Nat} (h : i < X.length) : atI (bxD (T ++ X)) (((T.length : Nat) : Int) + (i : Int)) = some (lnB (X.getD i (false, []))) := by
  have h2 : T.length + i < (T ++ X).length := by rw [List.length_append]; omega
  have := bx_at h2
  rw [show ((T.length + i : Nat) : Int) = (T.length : Int) + (i : Int) by omega] at this
  rw [this]
  congr 2
  rw [List.getD_eq_getElem?_getD, List.getElem?_append_right (by omega), List.getD_eq_getElem?_getD]
  congr 2
  omega
abbrev FE (k : Bool) (It : D) (L : List D) (r pv sg : Int) (t : Option (Bool × D)) (a6 a7 a8 : Option (Bool × D)) : DL.Env :=
  [some (.v k It), some (.own L), some (.val (.int r)), some (.val (.int pv)), some (.val (.int sg)), sv t, sv a6, sv a7, sv a8, none, none]
section
variable {n w t : Nat} {k : Bool} {It : D} {T X : List LB} {a6 a7 a8 : Option (Bool × D)} {pv sg : Int}
theorem atB_comp (hw : ∀ l, l ∈ X → l.2.length = w) (ht : t < w) :
    compL (compIF (csT tab n) cs__eliminated_e0 cs__eliminated_t0 (.nm 7) [7] (fun i => .one (.val (.int ((T.length : Int) + (i : Int)))))) 0 X.length
      (FE k It (bxD (T ++ X)) T.length pv sg (some (true, .int (t : Int))) a6 a7 a8) [] =
      some (((List.range X.length).filter (pzB X t)).map (fun i => .int ((T.length : Int) + (i : Int))), FE k It (bxD (T ++ X)) T.length pv sg (some (true, .int (t : Int))) a6 a7 a8) := by
  refine compL_rf (pzB X t) _ fun i hi => ?_
  have h1 := appB_at (T := T) hi
  have hl : (X.getD i (false, [])).2.length = w := hw _ (by rw [List.getD_eq_getElem?_getD, List.getElem?_eq_getElem hi]; exact List.getElem_mem hi)
  have h2 := ixB (p := X.getD i (false, [])) (t := t) (by omega)
  unfold pzB
  have sv1 : sv (some (true, D.int (t : Int))) = some (.v true (.int (t : Int))) := rfl
  unfold FE compIF
  rw [sv1]
  clear sv1
  dsimp only
  generalize bxD (T ++ X) = M at *
  generalize (X.getD i (false, [])).2.getD t 0 = y at *
  generalize lnB (X.getD i (false, [])) = l at *
  generalize (T.length : Int) + (i : Int) = j at *
  clear hw ht hi hl
  unfold cs__eliminated_t0 cs__eliminated_e0
  by_cases hy : y = 0
  · have e : decide (y ≠ 0) = false := by simp [hy]
    rw [e]
    subst hy
    clear e
    k_whileD _ _ _ "ev"
  · have e : decide (y ≠ 0) = true := by simp [hy]
    rw [e]
    clear e
    k_whileD _ _ _ "ev"
end
def divL (q a b : Int) (xl yl : List Int) : List Int := (List.zip xl yl).map fun p => (a * p.1 - b * p.2).fdiv q
theorem divL_eq {q a b : Int} {xl yl : List Int} {w : Nat} (hx : xl.length = w) (hy : yl.length = w) : (divL q a b xl yl).map D.int = (List.range w).map fun j => D.int ((a * xl.getD j 0 - b * yl.getD j 0).fdiv q) := by
  unfold divL
  rw [List.map_map]
  refine List.ext_getElem (by simp [hx, hy]) fun i p q' => ?_
  have h1 : i < w := by simpa using q'
  simp only [List.getElem_map, List.getElem_zip, List.getElem_range, Function.comp, List.getD_eq_getElem?_getD, List.getElem?_eq_getElem (show i < xl.length by omega), List.getElem?_eq_getElem (show i < yl.length by omega)]
  rfl
section
variable {n w t : Nat} {k : Bool} {It : D} {a6 : Option (Bool × D)} {pv sg r kk a b : Int} {M : List D} {xp yp : LB}
theorem div_comp (ht : t < w) (hx : xp.2.length = w) (hy : yp.2.length = w) (ea : yp.2.getD t 0 = a) (eb : xp.2.getD t 0 = b) (hk : atI M kk = some (lnB xp)) (ha : ∀ x, x ∈ xp.2 → CMlW a x) (hb : ∀ y, y ∈ yp.2 → CMlW b y) (hq : ∀ z, CDvW z pv) :
    compL (compF (csT tab n) cs__eliminated_e1 (.tp [9, 10]) [9, 10] (fun j => .two true ((xp.2.map D.int).getD j .non) true ((yp.2.map D.int).getD j .non))) 0 w
      [some (.v k It), some (.own M), some (.val (.int r)), some (.val (.int pv)), some (.val (.int sg)), some (.val (.int (t : Int))), sv a6, some (.val (.int kk)), some (.val (lnB yp)), none, none] [] =
      some ((divL pv a b xp.2 yp.2).map .int, [some (.v k It), some (.own M), some (.val (.int r)), some (.val (.int pv)), some (.val (.int sg)), some (.val (.int (t : Int))), sv a6, some (.val (.int kk)), some (.val (lnB yp)), none, none]) := by
  rw [divL_eq hx hy]
  refine compL_map (fun j => D.int ((a * xp.2.getD j 0 - b * yp.2.getD j 0).fdiv pv)) fun j hj => ?_
  have c1 := ha _ (mem_get (l := xp.2) (j := j) (by omega))
  have c2 := hb _ (mem_get (l := yp.2) (j := j) (by omega))
  have c3 := hq (a * xp.2.getD j 0 - b * yp.2.getD j 0)
  have i1 := ixB (p := yp) (t := t) (by omega)
  have i2 := ixB (p := xp) (t := t) (by omega)
  rw [ea] at i1
  rw [eb] at i2
  unfold compF
  dsimp only
  rw [ln_get (l := xp.2) (by omega), ln_get (l := yp.2) (by omega)]
  generalize xp.2.getD j 0 = u at *
  generalize yp.2.getD j 0 = v at *
  generalize lnB xp = xd at *
  generalize lnB yp = yd at *
  clear hx hy ha hb hj hq ht ea eb
  unfold cs__eliminated_e1
  k_whileD _ _ _ "ev"
end
end K30
namespace K30
open PySem L2 DL RL PyProof.Rows LA
local macro_rules | `(tactic| k_whileD _ _ _ "ev") => `(tactic| simp only [*, is_non_list, is_non_tuple, is_non_bool, is_non_str, is_non_int, is_non_dict, pl_non, isn_non, is_bl_list, is_bl_tuple, is_bl_bool, is_bl_str, is_bl_int, is_bl_dict, pl_bl, isn_bl, is_int_list, is_int_tuple, is_int_bool, is_int_str, is_int_int, is_int_dict, pl_int, isn_int, is_str_list, is_str_tuple, is_str_bool, is_str_str, is_str_int, is_str_dict, pl_str, isn_str, is_lst_list, is_lst_tuple, is_lst_bool, is_lst_str, is_lst_int, is_lst_dict, pl_lst, isn_lst, is_tup_list, is_tup_tuple, is_tup_bool, is_tup_str, is_tup_int, is_tup_dict, pl_tup, isn_tup, is_dk_list, is_dk_tuple, is_dk_bool, is_dk_str, is_dk_int, is_dk_dict, pl_dk, isn_dk, qv_atN, qv_atL, qv_ixLit, qv_mulL, qv_fdivL, qv_modL, qv_powL, Nat.reduceLT, Nat.reduceLeDiff, Nat.reduceAdd, Nat.zero_add, Nat.add_zero, Int.reduceLT, Int.reduceLE, Int.reducePow, Int.reduceToNat, Int.reduceEq, Int.reduceNeg, Int.reduceAdd, Int.reduceSub, Int.reduceMul, and_self, and_true, true_and, eq_self, not_true_eq_false, not_false_eq_true,
  ob_o, ob_v, ob_n, ob_s, fr_nil, fr_0, fr_s, nt_t, nt_f, iv_cst, iv_bin, iv_neg, iv_no, iv_one, iv_conj, iv_disj, iv_cmp, iv_ite, iv_idx, iv_sl, iv_lst, iv_tup, iv_fn, iv_isi, iv_call, iv_app, iv_ext, iv_pop, iv_rev, iv_count, iv_join, iv_comp, iv_compI, iv_comp2, iv_dk0, bf_int, bf_str, bf_list, bf_tuple, bf_sum, bf_all, bf_any, bf_sorted, bf_lenSet, chk_true,
  b_nil, b_seq, b_set, b_setIx, b_set2, b_aug, b_setTp, b_set2o, b_swp, b_expr, b_ret, b_retN, b_ife, b_for, b_pass, b_brk, b_cont, qv_nx, qv_ct, qv_bk, qv_ret, m_own, m_var, m_any,
  e_cst, e_var, e_bin, e_neg, e_no, e_one, e_conj, e_disj, e_cmp, e_ite, e_idxO, e_idxV, e_idx, e_sl, e_lst, e_tup, e_lenO, e_fnV, e_fnL, e_fn, e_isi, e_call, e_app, e_ext, e_pop, e_ins, e_rev, e_count, e_join, e_comp, e_compI, e_comp2, e_dk0, f_range,
  t_no, t_one, t_conj, t_disj, t_cmp, t_chain, t_var, e_nem, t_nem, qv_truB, qv_truL, qv_truO, qv_nemO, qv_nemV, t_fn, t_isi, t_call, o_nil, o_one, a_nil, a_cons, a_star, s_nil, s_own, s_var, s_cons, w_range, w_range2, w_zip, w_enum, w_one,
  Option.bind_some, Option.bind_none, Option.map_some, List.getElem?_cons_zero, List.getElem?_cons_succ, List.set_cons_zero, List.set_cons_succ, chk_pos, List.length_cons, List.length_nil, List.length_map, List.all_cons, List.all_nil, Bool.and_true, Bool.true_and, Bool.false_and, Bool.and_false, Bool.and_self, Bool.not_false, Bool.not_true,
  qv_int, qv_bl, qv_str, qv_toT, qv_toO, qv_toI, qv_toS, qv_toB, qv_toN, qv_fixV, qv_fixO, qv_datV, qv_datO, qv_add, qv_addI, qv_addS, qv_addL, qv_sub, qv_mulC, qv_mulW, qv_fdivC, qv_fdivW, qv_rep, qv_iat0, qv_iatS, qv_tupS, qv_tup2, qv_se0, qv_seS, List.isEmpty_nil, List.isEmpty_cons, qv_modC, qv_powC, qv_in, qv_nin, qv_is, qv_isnt, qv_eq, qv_ne, qv_eqI, qv_eqS, qv_eqB, qv_lt, qv_le, qv_gt, qv_ge, qv_dle, qv_inS, qv_inL, qv_inT,
  qv_ixL, qv_ixT, qv_ixS, qv_lenL, qv_lenT, qv_lenO, qv_lenS, qv_itO, qv_itL, qv_itT, qv_itL', qv_itT', qv_sqO, qv_sqL, qv_sqT, qv_lsO, qv_lsV, qv_lkO, qv_lkT, qv_lkS, qv_len, qv_intf, qv_strf, qv_list, qv_tupleT, qv_tupleL, qv_tupleO, qv_sum, qv_all, qv_any, qv_sorted, qv_lenSet, qv_slS, qv_slL, qv_slO, qv_wkO, qv_wkL, qv_wkT, qv_wkS, qv_getO0, qv_getOS, qv_varV, qv_varO,
  qv_nvT, qv_nvI, qv_nvS, qv_nvB, qv_nvN, qv_nvO, qv_argV, qv_argO, qv_atp, qv_ixp, qv_isi1, qv_isi2, qv_call, qv_aNil, qv_aCons, qv_aEx, qv_aOwn, qv_aBor, qv_backV, qv_backO, qv_backB, qv_backN, if_true, if_false, Bool.false_eq_true, reduceIte, decide_true, decide_false, Bool.or_true, Bool.true_or, Bool.or_false, Bool.false_or, sc_non, sc_bl, sc_int, sc_str, sc_lst, sc_tup, sc_dk,
  mk_sv, kp_sv, bk_sv, no_sv, x_ext, wp_nil, wp_cons, mk_nil, mk_o, mk_v, mk_n, mg_nil, mg_cons, mg_t, mg_f, kp_v, kp_n, kp_o, bk_same, bk_o, bk_t, bk_f, bk_n, by_nm, by_two, no_nil, no_o, no_v, no_n, rb_v, rb_o, os_nil, os_o, os_v, fin_ret, fin_nx, List.contains_cons, List.contains_nil, Nat.reduceBEq, Nat.reduceEqDiff, List.nodup_cons, List.nodup_nil, varsOf, List.not_mem_nil, List.mem_cons, List.mem_singleton, or_false, false_or, or_true, true_or, decide_eq_true_eq, Tgt.ix, isOwn, List.map_cons, List.map_nil, List.cons_append, List.nil_append])
/-- the lines behind the pivot's, the first i of them stepped -/
def XB (S : LB → LB) (X : List LB) (i : Nat) : List LB := (X.take i).map S ++ X.drop i
theorem xb_len {S : LB → LB} {X : List LB} {i : Nat} : (XB S X i).length = X.length := by
  unfold XB
  rw [List.length_append, List.length_map, List.length_take, List.length_drop]; omega
theorem xb_all {S : LB → LB} {X : List LB} : XB S X X.length = X.map S := by
  unfold XB; rw [List.take_of_length_le (Nat.le_refl _), List.drop_of_length_le (Nat.le_refl _), List.append_nil]
theorem xb_get {S : LB → LB} {X : List LB} {i : Nat} (h : i < X.length) : (XB S X i).getD i (false, []) = X.getD i (false, []) := by
  unfold XB
  rw [List.getD_eq_getElem?_getD, List.getElem?_append_right (by rw [List.length_map, List.length_take]; omega), List.length_map, List.length_take, List.getElem?_drop, List.getD_eq_getElem?_getD]
  congr 2
  omega
theorem xb_set {S : LB → LB} {T X : List LB} {y : LB} {i : Nat} (h : i < X.length) : (bxD (T ++ y :: XB S X i)).set (T.length + 1 + i) (lnB (S (X.getD i (false, [])))) = bxD (T ++ y :: XB S X (i + 1)) := by
  unfold bxD
  rw [← List.map_set]
  congr 1
  have e : X.getD i (false, []) = X[i] := by rw [List.getD_eq_getElem?_getD, List.getElem?_eq_getElem h]; rfl
  rw [e]
  rw [List.set_append_right _ _ (by omega)]
  congr 1
  rw [show T.length + 1 + i - T.length = i + 1 by omega, List.set_cons_succ]
  congr 1
  unfold XB
  rw [List.set_append_right _ _ (by rw [List.length_map, List.length_take]; omega), List.length_map, List.length_take, show i - min i X.length = 0 by omega]
  rw [List.drop_eq_getElem_cons h, List.set_cons_zero, List.take_add_one, List.getElem?_eq_getElem h, List.map_append]
  simp
theorem midB_at {T Z : List LB} {y : LB} : atI (bxD (T ++ y :: Z)) (T.length : Int) = some (lnB y) := by
  have := appB_at (T := T) (X := y :: Z) (i := 0) (by simp)
  rw [show ((T.length : Nat) : Int) + ((0 : Nat) : Int) = (T.length : Int) by omega] at this
  exact this
theorem behB_at {T Z : List LB} {y : LB} {i : Nat} (h : i < Z.length) : atI (bxD (T ++ y :: Z)) ((T.length : Int) + 1 + (i : Int)) = some (lnB (Z.getD i (false, []))) := by
  have := appB_at (T := T) (X := y :: Z) (i := i + 1) (by simp; omega)
  rw [show (T.length : Int) + ((i + 1 : Nat) : Int) = (T.length : Int) + 1 + (i : Int) by omega] at this
  exact this
theorem ixN_lt {m i : Nat} (h : i < m) : ixN m (i : Int) = some i := by
  unfold ixN
  simp [h]
section
variable {n w t : Nat} {k : Bool} {It : D} {T X : List LB} {a6 a7 : Option (Bool × D)} {y : LB} {pv sg : Int}
theorem rowB_loop (ht : t < w) (hw : ∀ l, l ∈ X → l.2.length = w) (hy : y.2.length = w) (hs : w < 1000) (hz : T.length + X.length < 1000)
    (ha : ∀ l, l ∈ X → ∀ x, x ∈ l.2 → CMlW (y.2.getD t 0) x) (hb : ∀ l, l ∈ X → ∀ z, z ∈ y.2 → CMlW (l.2.getD t 0) z) (hq : ∀ z, CDvW z pv) :
    ∃ (b7 : Option (Bool × D)), forL (forF (csT tab n) [false] (.nm 7) (fun i => .one (.val (.int ((T.length : Int) + 1 + (i : Int))))) cs__eliminated_f0) 0 X.length
      [some (.v k It), some (.own (bxD (T ++ y :: X))), some (.val (.int (T.length : Int))), some (.val (.int pv)), some (.val (.int sg)), some (.val (.int (t : Int))), sv a6, sv a7, some (.val (lnB y)), none, none] =
      some (.nx [some (.v k It), some (.own (bxD (T ++ y :: X.map fun l => (false, divL pv (y.2.getD t 0) (l.2.getD t 0) l.2 y.2)))), some (.val (.int (T.length : Int))), some (.val (.int pv)), some (.val (.int sg)), some (.val (.int (t : Int))), sv a6, sv b7, some (.val (lnB y)), none, none]) := by
  have sz := size_eq
  obtain ⟨ρ', g1, b7, rfl⟩ := forL_ind (f := forF (csT tab n) [false] (.nm 7) (fun i => .one (.val (.int ((T.length : Int) + 1 + (i : Int))))) cs__eliminated_f0)
    (fun i ρ => ∃ b7 : Option (Bool × D), ρ = [some (.v k It), some (.own (bxD (T ++ y :: XB (fun l => (false, divL pv (y.2.getD t 0) (l.2.getD t 0) l.2 y.2)) X i))), some (.val (.int (T.length : Int))), some (.val (.int pv)), some (.val (.int sg)), some (.val (.int (t : Int))), sv a6, sv b7, some (.val (lnB y)), none, none]) (m := X.length) (s := 0)
    (ρ := [some (.v k It), some (.own (bxD (T ++ y :: X))), some (.val (.int (T.length : Int))), some (.val (.int pv)), some (.val (.int sg)), some (.val (.int (t : Int))), sv a6, sv a7, some (.val (lnB y)), none, none]) ⟨a7, rfl⟩ fun i ρ _ hi ⟨b7, hj⟩ => by
      subst hj
      have hi : i < X.length := by omega
      have hmem : X.getD i (false, []) ∈ X := by rw [List.getD_eq_getElem?_getD, List.getElem?_eq_getElem hi]; exact List.getElem_mem hi
      have hl := hw _ hmem
      have r2 := behB_at (T := T) (y := y) (Z := XB (fun l => (false, divL pv (y.2.getD t 0) (l.2.getD t 0) l.2 y.2)) X i) (i := i) (by rw [xb_len]; exact hi)
      rw [xb_get hi] at r2
      have r5 := xb_set (S := fun l => (false, divL pv (y.2.getD t 0) (l.2.getD t 0) l.2 y.2)) (T := T) (y := y) hi
      have r6 : ixN (bxD (T ++ y :: XB (fun l => (false, divL pv (y.2.getD t 0) (l.2.getD t 0) l.2 y.2)) X i)).length ((T.length : Int) + 1 + (i : Int)) = some (T.length + 1 + i) := by
        rw [show (T.length : Int) + 1 + (i : Int) = ((T.length + 1 + i : Nat) : Int) by omega]
        exact ixN_lt (by rw [bx_len, List.length_append, List.length_cons, xb_len]; omega)
      have sc := div_comp (n := n) (t := t) (k := k) (It := It) (a6 := a6) (kk := (T.length : Int) + 1 + (i : Int)) (r := (T.length : Int)) (sg := sg) (pv := pv) (a := y.2.getD t 0) (b := (X.getD i (false, [])).2.getD t 0) (M := bxD (T ++ y :: XB (fun l => (false, divL pv (y.2.getD t 0) (l.2.getD t 0) l.2 y.2)) X i)) ht hl hy rfl rfl r2 (ha _ hmem) (hb _ hmem) hq
      have mw : min ((X.getD i (false, [])).2.map D.int).length (y.2.map D.int).length = w := by rw [List.length_map, List.length_map, hl, hy]; exact Nat.min_self _
      have w4 : w ≤ sizeLine := by omega
      have q1 := sqB (X.getD i (false, [])) true
      have q2 := sqB y true
      refine ⟨_, ?_, some (true, .int ((T.length : Int) + 1 + (i : Int))), rfl⟩
      rw [← r5]
      have sv1 : ∀ d : DL.D, sv (some (true, d)) = some (.v true d) := fun _ => rfl
      rw [sv1]
      have ln1 : ∀ l : List Int, lnB (false, l) = .lst (l.map .int) := fun _ => rfl
      rw [ln1]
      unfold forF
      dsimp only
      clear r5 sv1 ln1
      generalize bxD (T ++ y :: XB (fun l => (false, divL pv (y.2.getD t 0) (l.2.getD t 0) l.2 y.2)) X i) = M at *
      generalize (divL pv (y.2.getD t 0) ((X.getD i (false, [])).2.getD t 0) (X.getD i (false, [])).2 y.2).map D.int = R at *
      generalize (X.getD i (false, [])).2.map D.int = xd at *
      generalize y.2.map D.int = yd at *
      generalize lnB (X.getD i (false, [])) = xl at *
      generalize lnB y = yl at *
      generalize (T.length : Int) + 1 + (i : Int) = kk at *
      generalize T.length + 1 + i = q at *
      clear ha hb hw hy hs hz sz hi hmem hl ht hq
      unfold cs__eliminated_f0
      k_whileD _ _ _ "ev"
  rw [Nat.zero_add, xb_all] at g1
  exact ⟨b7, g1⟩
end
end K30
namespace K30
open PySem L2 DL RL PyProof.Rows LA
local macro_rules | `(tactic| k_whileD _ _ _ "ev") => `(tactic| simp only [*, is_non_list, is_non_tuple, is_non_bool, is_non_str, is_non_int, is_non_dict, pl_non, isn_non, is_bl_list, is_bl_tuple, is_bl_bool, is_bl_str, is_bl_int, is_bl_dict, pl_bl, isn_bl, is_int_list, is_int_tuple, is_int_bool, is_int_str, is_int_int, is_int_dict, pl_int, isn_int, is_str_list, is_str_tuple, is_str_bool, is_str_str, is_str_int, is_str_dict, pl_str, isn_str, is_lst_list, is_lst_tuple, is_lst_bool, is_lst_str, is_lst_int, is_lst_dict, pl_lst, isn_lst, is_tup_list, is_tup_tuple, is_tup_bool, is_tup_str, is_tup_int, is_tup_dict, pl_tup, isn_tup, is_dk_list, is_dk_tuple, is_dk_bool, is_dk_str, is_dk_int, is_dk_dict, pl_dk, isn_dk, qv_atN, qv_atL, qv_ixLit, qv_mulL, qv_fdivL, qv_modL, qv_powL, Nat.reduceLT, Nat.reduceLeDiff, Nat.reduceAdd, Nat.zero_add, Nat.add_zero, Int.reduceLT, Int.reduceLE, Int.reducePow, Int.reduceToNat, Int.reduceEq, Int.reduceNeg, Int.reduceAdd, Int.reduceSub, Int.reduceMul, and_self, and_true, true_and, eq_self, not_true_eq_false, not_false_eq_true,
  ob_o, ob_v, ob_n, ob_s, fr_nil, fr_0, fr_s, nt_t, nt_f, iv_cst, iv_bin, iv_neg, iv_no, iv_one, iv_conj, iv_disj, iv_cmp, iv_ite, iv_idx, iv_sl, iv_lst, iv_tup, iv_fn, iv_isi, iv_call, iv_app, iv_ext, iv_pop, iv_rev, iv_count, iv_join, iv_comp, iv_compI, iv_comp2, iv_dk0, bf_int, bf_str, bf_list, bf_tuple, bf_sum, bf_all, bf_any, bf_sorted, bf_lenSet, chk_true,
  b_nil, b_seq, b_set, b_setIx, b_set2, b_aug, b_setTp, b_set2o, b_swp, b_expr, b_ret, b_retN, b_ife, b_for, b_pass, b_brk, b_cont, qv_nx, qv_ct, qv_bk, qv_ret, m_own, m_var, m_any,
  e_cst, e_var, e_bin, e_neg, e_no, e_one, e_conj, e_disj, e_cmp, e_ite, e_idxO, e_idxV, e_idx, e_sl, e_lst, e_tup, e_lenO, e_fnV, e_fnL, e_fn, e_isi, e_call, e_app, e_ext, e_pop, e_ins, e_rev, e_count, e_join, e_comp, e_compI, e_comp2, e_dk0, f_range,
  t_no, t_one, t_conj, t_disj, t_cmp, t_chain, t_var, e_nem, t_nem, qv_truB, qv_truL, qv_truO, qv_nemO, qv_nemV, t_fn, t_isi, t_call, o_nil, o_one, a_nil, a_cons, a_star, s_nil, s_own, s_var, s_cons, w_range, w_range2, w_zip, w_enum, w_one,
  Option.bind_some, Option.bind_none, Option.map_some, List.getElem?_cons_zero, List.getElem?_cons_succ, List.set_cons_zero, List.set_cons_succ, chk_pos, List.length_cons, List.length_nil, List.length_map, List.all_cons, List.all_nil, Bool.and_true, Bool.true_and, Bool.false_and, Bool.and_false, Bool.and_self, Bool.not_false, Bool.not_true,
  qv_int, qv_bl, qv_str, qv_toT, qv_toO, qv_toI, qv_toS, qv_toB, qv_toN, qv_fixV, qv_fixO, qv_datV, qv_datO, qv_add, qv_addI, qv_addS, qv_addL, qv_sub, qv_mulC, qv_mulW, qv_fdivC, qv_fdivW, qv_rep, qv_iat0, qv_iatS, qv_tupS, qv_tup2, qv_se0, qv_seS, List.isEmpty_nil, List.isEmpty_cons, qv_modC, qv_powC, qv_in, qv_nin, qv_is, qv_isnt, qv_eq, qv_ne, qv_eqI, qv_eqS, qv_eqB, qv_lt, qv_le, qv_gt, qv_ge, qv_dle, qv_inS, qv_inL, qv_inT,
  qv_ixL, qv_ixT, qv_ixS, qv_lenL, qv_lenT, qv_lenO, qv_lenS, qv_itO, qv_itL, qv_itT, qv_itL', qv_itT', qv_sqO, qv_sqL, qv_sqT, qv_lsO, qv_lsV, qv_lkO, qv_lkT, qv_lkS, qv_len, qv_intf, qv_strf, qv_list, qv_tupleT, qv_tupleL, qv_tupleO, qv_sum, qv_all, qv_any, qv_sorted, qv_lenSet, qv_slS, qv_slL, qv_slO, qv_wkO, qv_wkL, qv_wkT, qv_wkS, qv_getO0, qv_getOS, qv_varV, qv_varO,
  qv_nvT, qv_nvI, qv_nvS, qv_nvB, qv_nvN, qv_nvO, qv_argV, qv_argO, qv_atp, qv_ixp, qv_isi1, qv_isi2, qv_call, qv_aNil, qv_aCons, qv_aEx, qv_aOwn, qv_aBor, qv_backV, qv_backO, qv_backB, qv_backN, if_true, if_false, Bool.false_eq_true, reduceIte, decide_true, decide_false, Bool.or_true, Bool.true_or, Bool.or_false, Bool.false_or, sc_non, sc_bl, sc_int, sc_str, sc_lst, sc_tup, sc_dk,
  mk_sv, kp_sv, bk_sv, no_sv, x_ext, wp_nil, wp_cons, mk_nil, mk_o, mk_v, mk_n, mg_nil, mg_cons, mg_t, mg_f, kp_v, kp_n, kp_o, bk_same, bk_o, bk_t, bk_f, bk_n, by_nm, by_two, no_nil, no_o, no_v, no_n, rb_v, rb_o, os_nil, os_o, os_v, fin_ret, fin_nx, List.contains_cons, List.contains_nil, Nat.reduceBEq, Nat.reduceEqDiff, List.nodup_cons, List.nodup_nil, varsOf, List.not_mem_nil, List.mem_cons, List.mem_singleton, or_false, false_or, or_true, true_or, decide_eq_true_eq, Tgt.ix, isOwn, List.map_cons, List.map_nil, List.cons_append, List.nil_append])
theorem swap_bx {T X1 X2 : List LB} {x0 y : LB} : ((bxD (T ++ (x0 :: X1 ++ y :: X2))).set T.length (lnB y)).set (T.length + (X1.length + 1)) (lnB x0) = bxD (T ++ y :: (X1 ++ x0 :: X2)) := by
  unfold bxD
  rw [← List.map_set, ← List.map_set]
  congr 1
  rw [List.set_append_right _ _ (Nat.le_refl _), Nat.sub_self, List.cons_append, List.set_cons_zero, List.set_append_right _ _ (by omega)]
  congr 1
  rw [show T.length + (X1.length + 1) - T.length = X1.length + 1 by omega, List.set_cons_succ, List.set_append_right _ _ (Nat.le_refl _), Nat.sub_self, List.set_cons_zero]
section
variable {n w t : Nat} {k : Bool} {It : D} {T X X1 X2 : List LB} {a6 a7 a8 : Option (Bool × D)} {x0 y : LB} {pv sg : Int} {rest : List Nat}
theorem colB_skip (ht : t < w) (hw : ∀ l, l ∈ X → l.2.length = w) (hz : T.length + X.length < 1000) (h : (List.range X.length).filter (pzB X t) = []) :
    evB (csT tab n) [false] cs__eliminated_f1 (FE k It (bxD (T ++ X)) T.length pv sg (some (true, .int (t : Int))) a6 a7 a8) = some (.nx (FE k It (bxD (T ++ X)) T.length pv sg (some (true, .int (t : Int))) (some (true, .lst [])) a7 a8)) := by
  have sz := size_eq
  have ac := atB_comp (n := n) (k := k) (It := It) (T := T) (pv := pv) (sg := sg) (a6 := a6) (a7 := a7) (a8 := a8) hw ht
  rw [h] at ac
  have sv1 : ∀ d : DL.D, sv (some (true, d)) = some (.v true d) := fun _ => rfl
  have len : (bxD (T ++ X)).length = T.length + X.length := by rw [bx_len, List.length_append]
  have w1 : (((T.length + X.length : Nat) : Int) - (T.length : Int)).toNat = X.length := by omega
  have w2 : (-4611686018427387904 : Int) ≤ (T.length : Int) ∧ (T.length : Int) < 4611686018427387904 ∧ (-4611686018427387904 : Int) ≤ ((T.length + X.length : Nat) : Int) ∧ ((T.length + X.length : Nat) : Int) < 4611686018427387904 := by omega
  have w3 : X.length ≤ sizeLine := by omega
  unfold FE at *
  rw [sv1, sv1]
  rw [sv1] at ac
  simp only [List.map_nil] at ac
  generalize bxD (T ++ X) = M at *
  generalize hr : (T.length : Int) = r at *
  clear hw hz h sz sv1 ht
  unfold cs__eliminated_f1
  k_whileD _ _ _ "ev"
/-- what comes behind the exchange -/
def elTail : RL.CS := (.seq (.set true 8 (.idx (.var 1) (.var 2))) (.seq (.for (.nm 7) (.wrange2 (.bin .Add (.var 2) (.cst (.int (1)))) (.fn .len (.var 1))) cs__eliminated_f0) (.seq (.set true 3 (.idx (.var 8) (.var 5))) (.seq (.aug 2 (.cst (.int (1)))) .nil))))
theorem el_tail (ht : t < w) (hw : ∀ l, l ∈ X → l.2.length = w) (hy : y.2.length = w) (hs : w < 1000) (hz : T.length + X.length < 900)
    (ha : ∀ l, l ∈ X → ∀ x, x ∈ l.2 → CMlW (y.2.getD t 0) x) (hb : ∀ l, l ∈ X → ∀ z, z ∈ y.2 → CMlW (l.2.getD t 0) z) (hq : ∀ z, CDvW z pv) :
    ∃ b7 : Option (Bool × D), evB (csT tab n) [false] elTail (FE k It (bxD (T ++ y :: X)) T.length pv sg (some (true, .int (t : Int))) a6 a7 a8) =
      some (.nx (FE k It (bxD (T ++ y :: X.map fun l => (false, divL pv (y.2.getD t 0) (l.2.getD t 0) l.2 y.2))) ((T.length : Int) + 1) (y.2.getD t 0) sg (some (true, .int (t : Int))) a6 b7 (some (true, lnB y)))) := by
  obtain ⟨b7, rl⟩ := rowB_loop (n := n) (k := k) (It := It) (T := T) (X := X) (a6 := a6) (a7 := a7) (y := y) (pv := pv) (sg := sg) ht hw hy hs (by omega) ha hb hq
  refine ⟨b7, ?_⟩
  have sv1 : ∀ d : DL.D, sv (some (true, d)) = some (.v true d) := fun _ => rfl
  have m1 := midB_at (T := T) (y := y) (Z := X)
  have i1 := ixB (p := y) (t := t) (by omega) true
  have len : (bxD (T ++ y :: X)).length = T.length + (X.length + 1) := by rw [bx_len, List.length_append, List.length_cons]
  have w1' : (((T.length + (X.length + 1) : Nat) : Int) - ((T.length : Int) + 1)).toNat = X.length := by omega
  have w2' : (-4611686018427387904 : Int) ≤ (T.length : Int) + 1 ∧ (T.length : Int) + 1 < 4611686018427387904 ∧ (-4611686018427387904 : Int) ≤ ((T.length + (X.length + 1) : Nat) : Int) ∧ ((T.length + (X.length + 1) : Nat) : Int) < 4611686018427387904 := by omega
  unfold FE
  rw [sv1, sv1]
  generalize bxD (T ++ y :: X.map fun l => (false, divL pv (y.2.getD t 0) (l.2.getD t 0) l.2 y.2)) = M4 at *
  generalize bxD (T ++ y :: X) = M at *
  generalize lnB y = yd at *
  generalize y.2.getD t 0 = yt at *
  clear ha hb hw hy hs hz ht hq sv1
  unfold elTail
  k_whileD _ _ _ "ev"
theorem f1_parts : cs__eliminated_f1 = .seq (.set true 6 (.compI cs__eliminated_e0 cs__eliminated_t0 (.wrange2 (.var 2) (.fn .len (.var 1))) (.nm 7) [7])) (.seq (.ife (.var 6) (.seq (.ife (.cmp .NotEq (.idx (.var 6) (.cst (.int (0)))) (.var 2)) (.seq (.swp 1 (.var 2) (.idx (.var 6) (.cst (.int (0)))) (.tup (.cons (.idx (.var 1) (.idx (.var 6) (.cst (.int (0))))) (.cons (.idx (.var 1) (.var 2)) .nil)))) (.seq (.set true 4 (.neg (.var 4))) .nil)) .nil) elTail) .nil) .nil) := rfl
/-- the pivot stands at its place -/
theorem colB_pivot0 (ht : t < w) (hw : ∀ l, l ∈ y :: X → l.2.length = w) (hs : w < 1000) (hz : T.length + X.length < 900) (h : (List.range (y :: X).length).filter (pzB (y :: X) t) = 0 :: rest)
    (ha : ∀ l, l ∈ X → ∀ x, x ∈ l.2 → CMlW (y.2.getD t 0) x) (hb : ∀ l, l ∈ X → ∀ z, z ∈ y.2 → CMlW (l.2.getD t 0) z) (hq : ∀ z, CDvW z pv) :
    ∃ b6 b7 b8 : Option (Bool × D), evB (csT tab n) [false] cs__eliminated_f1 (FE k It (bxD (T ++ y :: X)) T.length pv sg (some (true, .int (t : Int))) a6 a7 a8) =
      some (.nx (FE k It (bxD (T ++ y :: X.map fun l => (false, divL pv (y.2.getD t 0) (l.2.getD t 0) l.2 y.2))) ((T.length : Int) + 1) (y.2.getD t 0) sg (some (true, .int (t : Int))) b6 b7 b8)) := by
  have sz := size_eq
  have ac := atB_comp (n := n) (k := k) (It := It) (T := T) (X := y :: X) (pv := pv) (sg := sg) (a6 := a6) (a7 := a7) (a8 := a8) hw ht
  rw [h, List.map_cons, show (T.length : Int) + ((0 : Nat) : Int) = (T.length : Int) by omega] at ac
  obtain ⟨b7, tl⟩ := el_tail (n := n) (k := k) (It := It) (T := T) (X := X) (y := y) (a6 := some (true, .lst (.int (T.length : Int) :: rest.map fun (i : Nat) => D.int ((T.length : Int) + (i : Int))))) (a7 := a7) (a8 := a8) (pv := pv) (sg := sg) ht (fun l hl => hw l (.tail _ hl)) (hw y (.head _)) hs hz ha hb hq
  refine ⟨some (true, .lst (.int (T.length : Int) :: rest.map fun (i : Nat) => D.int ((T.length : Int) + (i : Int)))), b7, some (true, lnB y), ?_⟩
  · have sv1 : ∀ d : DL.D, sv (some (true, d)) = some (.v true d) := fun _ => rfl
    have len : (bxD (T ++ y :: X)).length = T.length + (X.length + 1) := by rw [bx_len, List.length_append, List.length_cons]
    have w1 : (((T.length + (X.length + 1) : Nat) : Int) - (T.length : Int)).toNat = (y :: X).length := by rw [List.length_cons]; omega
    have w2 : (-4611686018427387904 : Int) ≤ (T.length : Int) ∧ (T.length : Int) < 4611686018427387904 ∧ (-4611686018427387904 : Int) ≤ ((T.length + (X.length + 1) : Nat) : Int) ∧ ((T.length + (X.length + 1) : Nat) : Int) < 4611686018427387904 := by omega
    have w3 : (y :: X).length ≤ sizeLine := by rw [List.length_cons]; omega
    have at0 : atI (D.int (T.length : Int) :: rest.map fun (i : Nat) => D.int ((T.length : Int) + (i : Int))) 0 = some (.int (T.length : Int)) := atI_nat (j := 0) rfl
    rw [f1_parts]
    unfold FE at *
    rw [sv1] at ac tl ⊢
    generalize bxD (T ++ y :: X.map fun l => (false, divL pv (y.2.getD t 0) (l.2.getD t 0) l.2 y.2)) = M4 at *
    generalize bxD (T ++ y :: X) = M at *
    generalize (y :: X).length = N1 at *
    generalize (rest.map fun (i : Nat) => D.int ((T.length : Int) + (i : Int))) = Rs at *
    generalize (T.length : Int) = r at *
    have sv2 : sv (some (true, D.lst (D.int r :: Rs))) = some (.v true (.lst (.int r :: Rs))) := rfl
    rw [sv2] at tl ⊢
    clear ha hb hw hs hz ht hq sv1 sv2 h sz
    k_whileD _ _ _ "ev"
end
end K30
namespace K30
open PySem L2 DL RL PyProof.Rows LA
local macro_rules | `(tactic| k_whileD _ _ _ "ev") => `(tactic| simp only [*, is_non_list, is_non_tuple, is_non_bool, is_non_str, is_non_int, is_non_dict, pl_non, isn_non, is_bl_list, is_bl_tuple, is_bl_bool, is_bl_str, is_bl_int, is_bl_dict, pl_bl, isn_bl, is_int_list, is_int_tuple, is_int_bool, is_int_str, is_int_int, is_int_dict, pl_int, isn_int, is_str_list, is_str_tuple, is_str_bool, is_str_str, is_str_int, is_str_dict, pl_str, isn_str, is_lst_list, is_lst_tuple, is_lst_bool, is_lst_str, is_lst_int, is_lst_dict, pl_lst, isn_lst, is_tup_list, is_tup_tuple, is_tup_bool, is_tup_str, is_tup_int, is_tup_dict, pl_tup, isn_tup, is_dk_list, is_dk_tuple, is_dk_bool, is_dk_str, is_dk_int, is_dk_dict, pl_dk, isn_dk, qv_atN, qv_atL, qv_ixLit, qv_mulL, qv_fdivL, qv_modL, qv_powL, Nat.reduceLT, Nat.reduceLeDiff, Nat.reduceAdd, Nat.zero_add, Nat.add_zero, Int.reduceLT, Int.reduceLE, Int.reducePow, Int.reduceToNat, Int.reduceEq, Int.reduceNeg, Int.reduceAdd, Int.reduceSub, Int.reduceMul, and_self, and_true, true_and, eq_self, not_true_eq_false, not_false_eq_true,
  ob_o, ob_v, ob_n, ob_s, fr_nil, fr_0, fr_s, nt_t, nt_f, iv_cst, iv_bin, iv_neg, iv_no, iv_one, iv_conj, iv_disj, iv_cmp, iv_ite, iv_idx, iv_sl, iv_lst, iv_tup, iv_fn, iv_isi, iv_call, iv_app, iv_ext, iv_pop, iv_rev, iv_count, iv_join, iv_comp, iv_compI, iv_comp2, iv_dk0, bf_int, bf_str, bf_list, bf_tuple, bf_sum, bf_all, bf_any, bf_sorted, bf_lenSet, chk_true,
  b_nil, b_seq, b_set, b_setIx, b_set2, b_aug, b_setTp, b_set2o, b_swp, b_expr, b_ret, b_retN, b_ife, b_for, b_pass, b_brk, b_cont, qv_nx, qv_ct, qv_bk, qv_ret, m_own, m_var, m_any,
  e_cst, e_var, e_bin, e_neg, e_no, e_one, e_conj, e_disj, e_cmp, e_ite, e_idxO, e_idxV, e_idx, e_sl, e_lst, e_tup, e_lenO, e_fnV, e_fnL, e_fn, e_isi, e_call, e_app, e_ext, e_pop, e_ins, e_rev, e_count, e_join, e_comp, e_compI, e_comp2, e_dk0, f_range,
  t_no, t_one, t_conj, t_disj, t_cmp, t_chain, t_var, e_nem, t_nem, qv_truB, qv_truL, qv_truO, qv_nemO, qv_nemV, t_fn, t_isi, t_call, o_nil, o_one, a_nil, a_cons, a_star, s_nil, s_own, s_var, s_cons, w_range, w_range2, w_zip, w_enum, w_one,
  Option.bind_some, Option.bind_none, Option.map_some, List.getElem?_cons_zero, List.getElem?_cons_succ, List.set_cons_zero, List.set_cons_succ, chk_pos, List.length_cons, List.length_nil, List.length_map, List.all_cons, List.all_nil, Bool.and_true, Bool.true_and, Bool.false_and, Bool.and_false, Bool.and_self, Bool.not_false, Bool.not_true,
  qv_int, qv_bl, qv_str, qv_toT, qv_toO, qv_toI, qv_toS, qv_toB, qv_toN, qv_fixV, qv_fixO, qv_datV, qv_datO, qv_add, qv_addI, qv_addS, qv_addL, qv_sub, qv_mulC, qv_mulW, qv_fdivC, qv_fdivW, qv_rep, qv_iat0, qv_iatS, qv_tupS, qv_tup2, qv_se0, qv_seS, List.isEmpty_nil, List.isEmpty_cons, qv_modC, qv_powC, qv_in, qv_nin, qv_is, qv_isnt, qv_eq, qv_ne, qv_eqI, qv_eqS, qv_eqB, qv_lt, qv_le, qv_gt, qv_ge, qv_dle, qv_inS, qv_inL, qv_inT,
  qv_ixL, qv_ixT, qv_ixS, qv_lenL, qv_lenT, qv_lenO, qv_lenS, qv_itO, qv_itL, qv_itT, qv_itL', qv_itT', qv_sqO, qv_sqL, qv_sqT, qv_lsO, qv_lsV, qv_lkO, qv_lkT, qv_lkS, qv_len, qv_intf, qv_strf, qv_list, qv_tupleT, qv_tupleL, qv_tupleO, qv_sum, qv_all, qv_any, qv_sorted, qv_lenSet, qv_slS, qv_slL, qv_slO, qv_wkO, qv_wkL, qv_wkT, qv_wkS, qv_getO0, qv_getOS, qv_varV, qv_varO,
  qv_nvT, qv_nvI, qv_nvS, qv_nvB, qv_nvN, qv_nvO, qv_argV, qv_argO, qv_atp, qv_ixp, qv_isi1, qv_isi2, qv_call, qv_aNil, qv_aCons, qv_aEx, qv_aOwn, qv_aBor, qv_backV, qv_backO, qv_backB, qv_backN, if_true, if_false, Bool.false_eq_true, reduceIte, decide_true, decide_false, Bool.or_true, Bool.true_or, Bool.or_false, Bool.false_or, sc_non, sc_bl, sc_int, sc_str, sc_lst, sc_tup, sc_dk,
  mk_sv, kp_sv, bk_sv, no_sv, x_ext, wp_nil, wp_cons, mk_nil, mk_o, mk_v, mk_n, mg_nil, mg_cons, mg_t, mg_f, kp_v, kp_n, kp_o, bk_same, bk_o, bk_t, bk_f, bk_n, by_nm, by_two, no_nil, no_o, no_v, no_n, rb_v, rb_o, os_nil, os_o, os_v, fin_ret, fin_nx, List.contains_cons, List.contains_nil, Nat.reduceBEq, Nat.reduceEqDiff, List.nodup_cons, List.nodup_nil, varsOf, List.not_mem_nil, List.mem_cons, List.mem_singleton, or_false, false_or, or_true, true_or, decide_eq_true_eq, Tgt.ix, isOwn, List.map_cons, List.map_nil, List.cons_append, List.nil_append])
section
variable {n w t : Nat} {k : Bool} {It : D} {T X1 X2 : List LB} {a6 a7 a8 : Option (Bool × D)} {x0 y : LB} {pv sg : Int} {rest : List Nat}
theorem atI_ge {T Z : List LB} {i : Nat} (h : i < Z.length) {j : Int} (hj : j = (T.length : Int) + (i : Int)) : atI (bxD (T ++ Z)) j = some (lnB (Z.getD i (false, []))) := by
  rw [hj]; exact appB_at h
/-- the pivot is exchanged with the line at its place -/
theorem colB_pivotS (ht : t < w) (hw : ∀ l, l ∈ x0 :: X1 ++ y :: X2 → l.2.length = w) (hs : w < 1000) (hz : T.length + (X1.length + X2.length) < 800) (h : (List.range (x0 :: X1 ++ y :: X2).length).filter (pzB (x0 :: X1 ++ y :: X2) t) = (X1.length + 1) :: rest)
    (ha : ∀ l, l ∈ X1 ++ x0 :: X2 → ∀ x, x ∈ l.2 → CMlW (y.2.getD t 0) x) (hb : ∀ l, l ∈ X1 ++ x0 :: X2 → ∀ z, z ∈ y.2 → CMlW (l.2.getD t 0) z) (hq : ∀ z, CDvW z pv) :
    ∃ b6 b7 b8 : Option (Bool × D), evB (csT tab n) [false] cs__eliminated_f1 (FE k It (bxD (T ++ (x0 :: X1 ++ y :: X2))) T.length pv sg (some (true, .int (t : Int))) a6 a7 a8) =
      some (.nx (FE k It (bxD (T ++ y :: (X1 ++ x0 :: X2).map fun l => (false, divL pv (y.2.getD t 0) (l.2.getD t 0) l.2 y.2))) ((T.length : Int) + 1) (y.2.getD t 0) (-sg) (some (true, .int (t : Int))) b6 b7 b8)) := by
  have sz := size_eq
  have ac := atB_comp (n := n) (k := k) (It := It) (T := T) (X := x0 :: X1 ++ y :: X2) (pv := pv) (sg := sg) (a6 := a6) (a7 := a7) (a8 := a8) hw ht
  rw [h, List.map_cons] at ac
  have hw2 : ∀ l, l ∈ X1 ++ x0 :: X2 → l.2.length = w := fun l hl => hw l (by
    rcases List.mem_append.mp hl with q | q
    · exact List.mem_append.mpr (.inl (.tail _ q))
    · cases q with
      | head => exact .head _
      | tail _ q => exact List.mem_append.mpr (.inr (.tail _ q)))
  have hy : y.2.length = w := hw y (List.mem_append.mpr (.inr (.head _)))
  obtain ⟨b7, tl⟩ := el_tail (n := n) (k := k) (It := It) (T := T) (X := X1 ++ x0 :: X2) (y := y) (a6 := some (true, .lst (.int ((T.length : Int) + ((X1.length + 1 : Nat) : Int)) :: rest.map fun (i : Nat) => D.int ((T.length : Int) + (i : Int))))) (a7 := a7) (a8 := a8) (pv := pv) (sg := -sg) ht hw2 hy hs (by rw [List.length_append, List.length_cons]; omega) ha hb hq
  refine ⟨some (true, .lst (.int ((T.length : Int) + ((X1.length + 1 : Nat) : Int)) :: rest.map fun (i : Nat) => D.int ((T.length : Int) + (i : Int)))), b7, some (true, lnB y), ?_⟩
  have sv1 : ∀ d : DL.D, sv (some (true, d)) = some (.v true d) := fun _ => rfl
  have xl : (x0 :: X1 ++ y :: X2).length = X1.length + X2.length + 2 := by rw [List.length_append, List.length_cons, List.length_cons]; omega
  have len : (bxD (T ++ (x0 :: X1 ++ y :: X2))).length = T.length + (X1.length + X2.length + 2) := by rw [bx_len, List.length_append, xl]
  have w1 : (((T.length + (X1.length + X2.length + 2) : Nat) : Int) - (T.length : Int)).toNat = (x0 :: X1 ++ y :: X2).length := by rw [xl]; omega
  have w2 : (-4611686018427387904 : Int) ≤ (T.length : Int) ∧ (T.length : Int) < 4611686018427387904 ∧ (-4611686018427387904 : Int) ≤ ((T.length + (X1.length + X2.length + 2) : Nat) : Int) ∧ ((T.length + (X1.length + X2.length + 2) : Nat) : Int) < 4611686018427387904 := by omega
  have w3 : (x0 :: X1 ++ y :: X2).length ≤ sizeLine := by rw [xl]; omega
  have s2 : 2 ≤ sizeLine := by omega
  have at0 : atI (D.int ((T.length : Int) + ((X1.length + 1 : Nat) : Int)) :: rest.map fun (i : Nat) => D.int ((T.length : Int) + (i : Int))) 0 = some (.int ((T.length : Int) + ((X1.length + 1 : Nat) : Int))) := atI_nat (j := 0) rfl
  have ne : ¬ ((T.length : Int) + ((X1.length + 1 : Nat) : Int) = (T.length : Int)) := by omega
  have g1 : atI (bxD (T ++ (x0 :: X1 ++ y :: X2))) ((T.length : Int) + ((X1.length + 1 : Nat) : Int)) = some (lnB y) := by
    rw [atI_ge (T := T) (Z := x0 :: X1 ++ y :: X2) (i := X1.length + 1) (by rw [xl]; omega) rfl]
    congr 2
    rw [List.getD_eq_getElem?_getD, List.getElem?_append_right (by rw [List.length_cons]; omega), List.length_cons, Nat.sub_self]; rfl
  have g2 : atI (bxD (T ++ (x0 :: X1 ++ y :: X2))) (T.length : Int) = some (lnB x0) := by
    rw [atI_ge (T := T) (Z := x0 :: X1 ++ y :: X2) (i := 0) (by rw [xl]; omega) (by omega)]; rfl
  have i1 : ixN (T.length + (X1.length + X2.length + 2)) (T.length : Int) = some T.length := ixN_lt (by omega)
  have i2 : ixN (T.length + (X1.length + X2.length + 2)) ((T.length : Int) + ((X1.length + 1 : Nat) : Int)) = some (T.length + (X1.length + 1)) := by
    rw [show (T.length : Int) + ((X1.length + 1 : Nat) : Int) = ((T.length + (X1.length + 1) : Nat) : Int) by omega]
    exact ixN_lt (by omega)
  have sw := swap_bx (T := T) (X1 := X1) (X2 := X2) (x0 := x0) (y := y)
  rw [f1_parts]
  unfold FE at *
  rw [sv1] at ac tl ⊢
  generalize bxD (T ++ y :: (X1 ++ x0 :: X2).map fun l => (false, divL pv (y.2.getD t 0) (l.2.getD t 0) l.2 y.2)) = M4 at *
  generalize bxD (T ++ y :: (X1 ++ x0 :: X2)) = M5 at *
  generalize bxD (T ++ (x0 :: X1 ++ y :: X2)) = M at *
  generalize (x0 :: X1 ++ y :: X2).length = N1 at *
  generalize (rest.map fun (i : Nat) => D.int ((T.length : Int) + (i : Int))) = Rs at *
  generalize (T.length : Int) + ((X1.length + 1 : Nat) : Int) = j1 at *
  generalize lnB y = yd at *
  generalize lnB x0 = xd at *
  have sv2 : sv (some (true, D.lst (D.int j1 :: Rs))) = some (.v true (.lst (.int j1 :: Rs))) := rfl
  rw [sv2] at tl ⊢
  clear ha hb hw hw2 hy hs hz ht hq sv1 sv2 h sz xl
  k_whileD _ _ _ "ev"
end
end K30
namespace K30
open PySem L2 DL RL PyProof.Rows LA
local macro_rules | `(tactic| k_whileD _ _ _ "ev") => `(tactic| simp only [*, is_non_list, is_non_tuple, is_non_bool, is_non_str, is_non_int, is_non_dict, pl_non, isn_non, is_bl_list, is_bl_tuple, is_bl_bool, is_bl_str, is_bl_int, is_bl_dict, pl_bl, isn_bl, is_int_list, is_int_tuple, is_int_bool, is_int_str, is_int_int, is_int_dict, pl_int, isn_int, is_str_list, is_str_tuple, is_str_bool, is_str_str, is_str_int, is_str_dict, pl_str, isn_str, is_lst_list, is_lst_tuple, is_lst_bool, is_lst_str, is_lst_int, is_lst_dict, pl_lst, isn_lst, is_tup_list, is_tup_tuple, is_tup_bool, is_tup_str, is_tup_int, is_tup_dict, pl_tup, isn_tup, is_dk_list, is_dk_tuple, is_dk_bool, is_dk_str, is_dk_int, is_dk_dict, pl_dk, isn_dk, qv_atN, qv_atL, qv_ixLit, qv_mulL, qv_fdivL, qv_modL, qv_powL, Nat.reduceLT, Nat.reduceLeDiff, Nat.reduceAdd, Nat.zero_add, Nat.add_zero, Int.reduceLT, Int.reduceLE, Int.reducePow, Int.reduceToNat, Int.reduceEq, Int.reduceNeg, Int.reduceAdd, Int.reduceSub, Int.reduceMul, and_self, and_true, true_and, eq_self, not_true_eq_false, not_false_eq_true,
  ob_o, ob_v, ob_n, ob_s, fr_nil, fr_0, fr_s, nt_t, nt_f, iv_cst, iv_bin, iv_neg, iv_no, iv_one, iv_conj, iv_disj, iv_cmp, iv_ite, iv_idx, iv_sl, iv_lst, iv_tup, iv_fn, iv_isi, iv_call, iv_app, iv_ext, iv_pop, iv_rev, iv_count, iv_join, iv_comp, iv_compI, iv_comp2, iv_dk0, bf_int, bf_str, bf_list, bf_tuple, bf_sum, bf_all, bf_any, bf_sorted, bf_lenSet, chk_true,
  b_nil, b_seq, b_set, b_setIx, b_set2, b_aug, b_setTp, b_set2o, b_swp, b_expr, b_ret, b_retN, b_ife, b_for, b_pass, b_brk, b_cont, qv_nx, qv_ct, qv_bk, qv_ret, m_own, m_var, m_any,
  e_cst, e_var, e_bin, e_neg, e_no, e_one, e_conj, e_disj, e_cmp, e_ite, e_idxO, e_idxV, e_idx, e_sl, e_lst, e_tup, e_lenO, e_fnV, e_fnL, e_fn, e_isi, e_call, e_app, e_ext, e_pop, e_ins, e_rev, e_count, e_join, e_comp, e_compI, e_comp2, e_dk0, f_range,
  t_no, t_one, t_conj, t_disj, t_cmp, t_chain, t_var, e_nem, t_nem, qv_truB, qv_truL, qv_truO, qv_nemO, qv_nemV, t_fn, t_isi, t_call, o_nil, o_one, a_nil, a_cons, a_star, s_nil, s_own, s_var, s_cons, w_range, w_range2, w_zip, w_enum, w_one,
  Option.bind_some, Option.bind_none, Option.map_some, List.getElem?_cons_zero, List.getElem?_cons_succ, List.set_cons_zero, List.set_cons_succ, chk_pos, List.length_cons, List.length_nil, List.length_map, List.all_cons, List.all_nil, Bool.and_true, Bool.true_and, Bool.false_and, Bool.and_false, Bool.and_self, Bool.not_false, Bool.not_true,
  qv_int, qv_bl, qv_str, qv_toT, qv_toO, qv_toI, qv_toS, qv_toB, qv_toN, qv_fixV, qv_fixO, qv_datV, qv_datO, qv_add, qv_addI, qv_addS, qv_addL, qv_sub, qv_mulC, qv_mulW, qv_fdivC, qv_fdivW, qv_rep, qv_iat0, qv_iatS, qv_tupS, qv_tup2, qv_se0, qv_seS, List.isEmpty_nil, List.isEmpty_cons, qv_modC, qv_powC, qv_in, qv_nin, qv_is, qv_isnt, qv_eq, qv_ne, qv_eqI, qv_eqS, qv_eqB, qv_lt, qv_le, qv_gt, qv_ge, qv_dle, qv_inS, qv_inL, qv_inT,
  qv_ixL, qv_ixT, qv_ixS, qv_lenL, qv_lenT, qv_lenO, qv_lenS, qv_itO, qv_itL, qv_itT, qv_itL', qv_itT', qv_sqO, qv_sqL, qv_sqT, qv_lsO, qv_lsV, qv_lkO, qv_lkT, qv_lkS, qv_len, qv_intf, qv_strf, qv_list, qv_tupleT, qv_tupleL, qv_tupleO, qv_sum, qv_all, qv_any, qv_sorted, qv_lenSet, qv_slS, qv_slL, qv_slO, qv_wkO, qv_wkL, qv_wkT, qv_wkS, qv_getO0, qv_getOS, qv_varV, qv_varO,
  qv_nvT, qv_nvI, qv_nvS, qv_nvB, qv_nvN, qv_nvO, qv_argV, qv_argO, qv_atp, qv_ixp, qv_isi1, qv_isi2, qv_call, qv_aNil, qv_aCons, qv_aEx, qv_aOwn, qv_aBor, qv_backV, qv_backO, qv_backB, qv_backN, if_true, if_false, Bool.false_eq_true, reduceIte, decide_true, decide_false, Bool.or_true, Bool.true_or, Bool.or_false, Bool.false_or, sc_non, sc_bl, sc_int, sc_str, sc_lst, sc_tup, sc_dk,
  mk_sv, kp_sv, bk_sv, no_sv, x_ext, wp_nil, wp_cons, mk_nil, mk_o, mk_v, mk_n, mg_nil, mg_cons, mg_t, mg_f, kp_v, kp_n, kp_o, bk_same, bk_o, bk_t, bk_f, bk_n, by_nm, by_two, no_nil, no_o, no_v, no_n, rb_v, rb_o, os_nil, os_o, os_v, fin_ret, fin_nx, List.contains_cons, List.contains_nil, Nat.reduceBEq, Nat.reduceEqDiff, List.nodup_cons, List.nodup_nil, varsOf, List.not_mem_nil, List.mem_cons, List.mem_singleton, or_false, false_or, or_true, true_or, decide_eq_true_eq, Tgt.ix, isOwn, List.map_cons, List.map_nil, List.cons_append, List.nil_append])
/-- how far the program's elimination is -/
structure ES (A : List (List Int)) (w t : Nat) (T X : List LB) (pv sg : Int) : Prop where
  ex : ∃ (Ds Rest : List (Row Nat)) (Cs : List Nat), El (A.map rowF) w t Ds Cs Rest sg ∧ Ds.length ≤ t ∧ T.length = Ds.length ∧ X.map (·.2) = Rest.map (bl w 1 Ds Cs) ∧ pv = dt Ds Cs
theorem _root_.LA.El.toS {A : List (Row Nat)} {w t : Nat} {Ds Rest : List (Row Nat)} {Cs : List Nat} {s s' : Int} (h : El A w t Ds Cs Rest s) (e : s = s') : El A w t Ds Cs Rest s' := e ▸ h
theorem split_two {α β : Type} {f : α → β} : ∀ {X : List α} {P : List β} {z : β} {Q : List β}, X.map f = P ++ z :: Q → ∃ p x q, X = p ++ x :: q ∧ p.map f = P ∧ f x = z ∧ q.map f = Q := fun {X P z Q} h => by
  obtain ⟨p, r, rfl, h1, h2⟩ := List.map_eq_append_iff.mp h
  obtain ⟨x, q, rfl, h3, h4⟩ := List.map_eq_cons_iff.mp h2
  exact ⟨p, x, q, rfl, h1, h3, h4⟩
section
variable {n w t : Nat} {k : Bool} {It : D} {A : List (List Int)} {T X : List LB} {a6 a7 a8 : Option (Bool × D)} {pv sg : Int}
theorem ES.wid (h : ES A w t T X pv sg) : ∀ l, l ∈ X → l.2.length = w := by
  obtain ⟨Ds, Rest, Cs, _, _, _, e, _⟩ := h.ex
  intro y hy
  have : y.2 ∈ Rest.map (bl w 1 Ds Cs) := by rw [← e]; exact List.mem_map_of_mem hy
  obtain ⟨x, _, q⟩ := List.mem_map.mp this
  rw [← q]; exact bl_len
theorem ES.len (h : ES A w t T X pv sg) : T.length + X.length = A.length := by
  obtain ⟨Ds, Rest, Cs, e, _, h5, h6, _⟩ := h.ex
  have := e.ps.len
  rw [List.length_map, List.length_append, List.length_reverse] at this
  have h7 : X.length = Rest.length := by have := congrArg List.length h6; simpa using this
  omega
theorem div_step {Ds : List (Row Nat)} {Cs : List Nat} {x y : Row Nat} (ht : t < w) (hq : dt Ds Cs ≠ 0) : divL (dt Ds Cs) ((bl w 1 Ds Cs y).getD t 0) ((bl w 1 Ds Cs x).getD t 0) (bl w 1 Ds Cs x) (bl w 1 Ds Cs y) = bl w 1 (y :: Ds) (t :: Cs) x := by
  rw [bl_at ht, bl_at ht, Int.one_mul, Int.one_mul]
  exact step_div hq
theorem elim_col (hA : Ln A w 810) (hw : w ≤ 7) (hn : A.length < 700) (ht : t < w) (h : ES A w t T X pv sg) :
    ∃ (T' X' : List LB) (pv' sg' : Int) (b6 b7 b8 : Option (Bool × D)), ES A w (t + 1) T' X' pv' sg' ∧ evB (csT tab n) [false] cs__eliminated_f1 (FE k It (bxD (T ++ X)) T.length pv sg (some (true, .int (t : Int))) a6 a7 a8) = some (.nx (FE k It (bxD (T' ++ X')) T'.length pv' sg' (some (true, .int (t : Int))) b6 b7 b8)) := by
  have hwid := h.wid
  have hlen := h.len
  obtain ⟨Ds, Rest, Cs, e, h2, h5, hX, hpv⟩ := h.ex
  have hXR : X.length = Rest.length := by have := congrArg List.length hX; simpa using this
  have hr7 : Ds.length ≤ 7 := by omega
  have hq : ∀ z, CDvW z pv := fun z => by
    rw [hpv]
    refine ⟨e.q, ?_⟩
    have q1 := e.qbits hA hr7
    have q2 : (dt Ds Cs).natAbs ≠ 0 := fun q => e.q (Int.natAbs_eq_zero.mp q)
    have q3 : 2 ^ 6600 < 2 ^ 9000 := Nat.pow_lt_pow_right (by decide) (by decide)
    exact (Nat.log2_lt q2).mpr (Nat.lt_of_le_of_lt q1 q3)
  have lbits : ∀ x, x ∈ Rest → ∀ z, z ∈ bl w 1 Ds Cs x → z.natAbs ≤ 2 ^ 6600 := fun x hx z hz => by
    unfold bl at hz
    obtain ⟨j, _, rfl⟩ := List.mem_map.mp hz
    rw [Int.one_mul]
    exact e.bits hA hr7 hx j
  have tbits : ∀ x, x ∈ Rest → ((bl w 1 Ds Cs x).getD t 0).natAbs ≤ 2 ^ 6600 := fun x hx => by
    rw [bl_at ht, Int.one_mul]; exact e.bits hA hr7 hx t
  have inX : ∀ l, l ∈ X → ∃ x, x ∈ Rest ∧ l.2 = bl w 1 Ds Cs x := fun l hl => by
    have : l.2 ∈ Rest.map (bl w 1 Ds Cs) := by rw [← hX]; exact List.mem_map_of_mem hl
    obtain ⟨x, hx, q⟩ := List.mem_map.mp this
    exact ⟨x, hx, q.symm⟩
  have mA : ∀ l, l ∈ X → ∀ l', l' ∈ X → ∀ z, z ∈ l'.2 → CMlW (l.2.getD t 0) z := fun l hl l' hl' z hz => by
    obtain ⟨x, hx, q⟩ := inX l hl
    obtain ⟨x', hx', q'⟩ := inX l' hl'
    rw [q]
    rw [q'] at hz
    exact mulw_of (tbits x hx) (lbits x' hx' z hz) (by decide)
  cases hf : (List.range X.length).filter (pzB X t) with
  | nil =>
    refine ⟨T, X, pv, sg, some (true, .lst []), a7, a8, ⟨Ds, Rest, Cs, e.skip fun x hx => ?_, by omega, h5, hX, hpv⟩, colB_skip ht hwid (by omega) hf⟩
    obtain ⟨i, hi, rfl⟩ := List.mem_iff_getElem.mp hx
    have hiX : i < X.length := by rw [hXR]; exact hi
    have p := none_of hf i hiX
    unfold pzB at p
    have e1 : (X.getD i (false, [])).2 = bl w 1 Ds Cs Rest[i] := by
      have q : (X.map (·.2))[i]? = (Rest.map (bl w 1 Ds Cs))[i]? := by rw [hX]
      rw [List.getElem?_map, List.getElem?_map, List.getElem?_eq_getElem hiX, List.getElem?_eq_getElem hi] at q
      rw [List.getD_eq_getElem?_getD, List.getElem?_eq_getElem hiX]
      exact Option.some.inj q
    rw [e1, bl_at ht, Int.one_mul] at p
    exact Decidable.not_not.mp (of_decide_eq_false p)
  | cons i0 rest =>
    obtain ⟨f1, f2, _⟩ := first_of hf
    have f1' : i0 < Rest.length := by omega
    cases i0 with
    | zero =>
      obtain ⟨y0, R', rfl⟩ : ∃ y0 R', Rest = y0 :: R' := by
        cases Rest with
        | nil => exact absurd f1' (by simp)
        | cons y0 R' => exact ⟨y0, R', rfl⟩
      obtain ⟨y, X', rfl, hy, hX'⟩ := List.map_eq_cons_iff.mp (show X.map (·.2) = bl w 1 Ds Cs y0 :: R'.map (bl w 1 Ds Cs) from hX)
      have hyt : y.2.getD t 0 = bor Ds Cs y0 t := by
        show y.2.getD t 0 = _
        rw [hy, bl_at ht, Int.one_mul]
      have hy0 : bor Ds Cs y0 t ≠ 0 := by
        unfold pzB at f2
        rw [← hyt]
        exact of_decide_eq_true f2
      obtain ⟨b6, b7, b8, ev⟩ := colB_pivot0 (n := n) (k := k) (It := It) (T := T) (X := X') (y := y) (a6 := a6) (a7 := a7) (a8 := a8) (pv := pv) (sg := sg) ht hwid (by omega) (by simp only [List.length_cons] at hlen; omega) hf
        (fun l hl x hx => mA y (.head _) l (.tail _ hl) x hx) (fun l hl z hz => mA l (.tail _ hl) y (.head _) z hz) hq
      refine ⟨T ++ [y], X'.map fun l => (false, divL pv (y.2.getD t 0) (l.2.getD t 0) l.2 y.2), y.2.getD t 0, sg, b6, b7, b8, ⟨y0 :: Ds, R', t :: Cs, (e.pivot (PS.refl _) hy0).toS (Int.mul_one _), by simp only [List.length_cons]; omega, by rw [List.length_append, List.length_cons, h5]; rfl, ?_, hyt⟩, ?_⟩
      · rw [List.map_map]
        have : (X'.map (·.2)).map (fun L => divL pv (y.2.getD t 0) (L.getD t 0) L y.2) = R'.map (bl w 1 (y0 :: Ds) (t :: Cs)) := by
          rw [hX', List.map_map]
          refine List.map_congr_left fun x _ => ?_
          show divL pv (y.2.getD t 0) ((bl w 1 Ds Cs x).getD t 0) (bl w 1 Ds Cs x) y.2 = _
          rw [show y.2 = bl w 1 Ds Cs y0 from hy, hpv]
          exact div_step ht e.q
        rw [← this, List.map_map]; rfl
      · rw [ev]
        have e1 : T ++ y :: X'.map (fun l => (false, divL pv (y.2.getD t 0) (l.2.getD t 0) l.2 y.2)) = T ++ [y] ++ X'.map (fun l => (false, divL pv (y.2.getD t 0) (l.2.getD t 0) l.2 y.2)) := by simp
        have e2 : (T.length : Int) + 1 = ((T ++ [y]).length : Int) := by rw [List.length_append]; simp
        rw [e1, e2]
    | succ m =>
      obtain ⟨r0, R'', rfl⟩ : ∃ y0 R', Rest = y0 :: R' := by
        cases Rest with
        | nil => exact absurd f1' (by simp)
        | cons y0 R' => exact ⟨y0, R', rfl⟩
      obtain ⟨R1, y0, R2, rfl, hl1⟩ := split_at (l := R'') (i := m) (by simpa using f1')
      subst hl1
      obtain ⟨x0, X'', rfl, hx0, hX''⟩ := List.map_eq_cons_iff.mp (show X.map (·.2) = bl w 1 Ds Cs r0 :: (R1 ++ y0 :: R2).map (bl w 1 Ds Cs) from hX)
      rw [List.map_append, List.map_cons] at hX''
      obtain ⟨X1, y, X2, rfl, hX1, hy, hX2⟩ := split_two hX''
      have l1 : X1.length = R1.length := by have := congrArg List.length hX1; simpa using this
      have hyt : y.2.getD t 0 = bor Ds Cs y0 t := by
        show y.2.getD t 0 = _
        rw [hy, bl_at ht, Int.one_mul]
      have hgy : ((x0 :: (X1 ++ y :: X2)).getD (R1.length + 1) (false, [])) = y := by
        rw [List.getD_eq_getElem?_getD, List.getElem?_cons_succ, ← l1, List.getElem?_append_right (Nat.le_refl _), Nat.sub_self]; rfl
      have hy0 : bor Ds Cs y0 t ≠ 0 := by
        unfold pzB at f2
        rw [hgy] at f2
        rw [← hyt]
        exact of_decide_eq_true f2
      have mem : ∀ l, l ∈ X1 ++ x0 :: X2 → l ∈ x0 :: (X1 ++ y :: X2) := fun l hl => by
        rcases List.mem_append.mp hl with q | q
        · exact .tail _ (List.mem_append.mpr (.inl q))
        · cases q with
          | head => exact .head _
          | tail _ q => exact .tail _ (List.mem_append.mpr (.inr (.tail _ q)))
      have mY : y ∈ x0 :: (X1 ++ y :: X2) := .tail _ (List.mem_append.mpr (.inr (.head _)))
      rw [← l1] at hf
      obtain ⟨b6, b7, b8, ev⟩ := colB_pivotS (n := n) (k := k) (It := It) (T := T) (X1 := X1) (X2 := X2) (x0 := x0) (y := y) (a6 := a6) (a7 := a7) (a8 := a8) (pv := pv) (sg := sg) ht hwid (by omega) (by
          have : (x0 :: (X1 ++ y :: X2)).length = X1.length + X2.length + 2 := by simp; omega
          omega) hf
        (fun l hl x hx => mA y mY l (mem l hl) x hx) (fun l hl z hz => mA l (mem l hl) y mY z hz) hq
      refine ⟨T ++ [y], (X1 ++ x0 :: X2).map fun l => (false, divL pv (y.2.getD t 0) (l.2.getD t 0) l.2 y.2), y.2.getD t 0, -sg, b6, b7, b8, ⟨y0 :: Ds, R1 ++ r0 :: R2, t :: Cs, (e.pivot (PS.exch r0 y0 R1 R2) hy0).toS (by omega), by simp only [List.length_cons]; omega, by rw [List.length_append, List.length_cons, h5]; rfl, ?_, hyt⟩, ?_⟩
      · rw [List.map_map]
        have : ((X1 ++ x0 :: X2).map (·.2)).map (fun L => divL pv (y.2.getD t 0) (L.getD t 0) L y.2) = (R1 ++ r0 :: R2).map (bl w 1 (y0 :: Ds) (t :: Cs)) := by
          have q : (X1 ++ x0 :: X2).map (·.2) = (R1 ++ r0 :: R2).map (bl w 1 Ds Cs) := by
            rw [List.map_append, List.map_cons, List.map_append, List.map_cons, hX1, hX2]
            rw [show x0.2 = bl w 1 Ds Cs r0 from hx0]
          rw [q, List.map_map]
          refine List.map_congr_left fun x _ => ?_
          show divL pv (y.2.getD t 0) ((bl w 1 Ds Cs x).getD t 0) (bl w 1 Ds Cs x) y.2 = _
          rw [show y.2 = bl w 1 Ds Cs y0 from hy, hpv]
          exact div_step ht e.q
        rw [← this, List.map_map]; rfl
      · rw [show T ++ x0 :: (X1 ++ y :: X2) = T ++ (x0 :: X1 ++ y :: X2) from rfl, ev]
        have e1 : T ++ y :: (X1 ++ x0 :: X2).map (fun l => (false, divL pv (y.2.getD t 0) (l.2.getD t 0) l.2 y.2)) = T ++ [y] ++ (X1 ++ x0 :: X2).map (fun l => (false, divL pv (y.2.getD t 0) (l.2.getD t 0) l.2 y.2)) := by simp
        have e2 : (T.length : Int) + 1 = ((T ++ [y]).length : Int) := by rw [List.length_append]; simp
        rw [e1, e2]
end
end K30
namespace K30
open PySem L2 DL RL PyProof.Rows LA
local macro_rules | `(tactic| k_whileD _ _ _ "ev") => `(tactic| simp only [*, is_non_list, is_non_tuple, is_non_bool, is_non_str, is_non_int, is_non_dict, pl_non, isn_non, is_bl_list, is_bl_tuple, is_bl_bool, is_bl_str, is_bl_int, is_bl_dict, pl_bl, isn_bl, is_int_list, is_int_tuple, is_int_bool, is_int_str, is_int_int, is_int_dict, pl_int, isn_int, is_str_list, is_str_tuple, is_str_bool, is_str_str, is_str_int, is_str_dict, pl_str, isn_str, is_lst_list, is_lst_tuple, is_lst_bool, is_lst_str, is_lst_int, is_lst_dict, pl_lst, isn_lst, is_tup_list, is_tup_tuple, is_tup_bool, is_tup_str, is_tup_int, is_tup_dict, pl_tup, isn_tup, is_dk_list, is_dk_tuple, is_dk_bool, is_dk_str, is_dk_int, is_dk_dict, pl_dk, isn_dk, qv_atN, qv_atL, qv_ixLit, qv_mulL, qv_fdivL, qv_modL, qv_powL, Nat.reduceLT, Nat.reduceLeDiff, Nat.reduceAdd, Nat.zero_add, Nat.add_zero, Int.reduceLT, Int.reduceLE, Int.reducePow, Int.reduceToNat, Int.reduceEq, Int.reduceNeg, Int.reduceAdd, Int.reduceSub, Int.reduceMul, and_self, and_true, true_and, eq_self, not_true_eq_false, not_false_eq_true,
  ob_o, ob_v, ob_n, ob_s, fr_nil, fr_0, fr_s, nt_t, nt_f, iv_cst, iv_bin, iv_neg, iv_no, iv_one, iv_conj, iv_disj, iv_cmp, iv_ite, iv_idx, iv_sl, iv_lst, iv_tup, iv_fn, iv_isi, iv_call, iv_app, iv_ext, iv_pop, iv_rev, iv_count, iv_join, iv_comp, iv_compI, iv_comp2, iv_dk0, bf_int, bf_str, bf_list, bf_tuple, bf_sum, bf_all, bf_any, bf_sorted, bf_lenSet, chk_true,
  b_nil, b_seq, b_set, b_setIx, b_set2, b_aug, b_setTp, b_set2o, b_swp, b_expr, b_ret, b_retN, b_ife, b_for, b_pass, b_brk, b_cont, qv_nx, qv_ct, qv_bk, qv_ret, m_own, m_var, m_any,
  e_cst, e_var, e_bin, e_neg, e_no, e_one, e_conj, e_disj, e_cmp, e_ite, e_idxO, e_idxV, e_idx, e_sl, e_lst, e_tup, e_lenO, e_fnV, e_fnL, e_fn, e_isi, e_call, e_app, e_ext, e_pop, e_ins, e_rev, e_count, e_join, e_comp, e_compI, e_comp2, e_dk0, f_range,
  t_no, t_one, t_conj, t_disj, t_cmp, t_chain, t_var, e_nem, t_nem, qv_truB, qv_truL, qv_truO, qv_nemO, qv_nemV, t_fn, t_isi, t_call, o_nil, o_one, a_nil, a_cons, a_star, s_nil, s_own, s_var, s_cons, w_range, w_range2, w_zip, w_enum, w_one,
  Option.bind_some, Option.bind_none, Option.map_some, List.getElem?_cons_zero, List.getElem?_cons_succ, List.set_cons_zero, List.set_cons_succ, chk_pos, List.length_cons, List.length_nil, List.length_map, List.all_cons, List.all_nil, Bool.and_true, Bool.true_and, Bool.false_and, Bool.and_false, Bool.and_self, Bool.not_false, Bool.not_true,
  qv_int, qv_bl, qv_str, qv_toT, qv_toO, qv_toI, qv_toS, qv_toB, qv_toN, qv_fixV, qv_fixO, qv_datV, qv_datO, qv_add, qv_addI, qv_addS, qv_addL, qv_sub, qv_mulC, qv_mulW, qv_fdivC, qv_fdivW, qv_rep, qv_iat0, qv_iatS, qv_tupS, qv_tup2, qv_se0, qv_seS, List.isEmpty_nil, List.isEmpty_cons, qv_modC, qv_powC, qv_in, qv_nin, qv_is, qv_isnt, qv_eq, qv_ne, qv_eqI, qv_eqS, qv_eqB, qv_lt, qv_le, qv_gt, qv_ge, qv_dle, qv_inS, qv_inL, qv_inT,
  qv_ixL, qv_ixT, qv_ixS, qv_lenL, qv_lenT, qv_lenO, qv_lenS, qv_itO, qv_itL, qv_itT, qv_itL', qv_itT', qv_sqO, qv_sqL, qv_sqT, qv_lsO, qv_lsV, qv_lkO, qv_lkT, qv_lkS, qv_len, qv_intf, qv_strf, qv_list, qv_tupleT, qv_tupleL, qv_tupleO, qv_sum, qv_all, qv_any, qv_sorted, qv_lenSet, qv_slS, qv_slL, qv_slO, qv_wkO, qv_wkL, qv_wkT, qv_wkS, qv_getO0, qv_getOS, qv_varV, qv_varO,
  qv_nvT, qv_nvI, qv_nvS, qv_nvB, qv_nvN, qv_nvO, qv_argV, qv_argO, qv_atp, qv_ixp, qv_isi1, qv_isi2, qv_call, qv_aNil, qv_aCons, qv_aEx, qv_aOwn, qv_aBor, qv_backV, qv_backO, qv_backB, qv_backN, if_true, if_false, Bool.false_eq_true, reduceIte, decide_true, decide_false, Bool.or_true, Bool.true_or, Bool.or_false, Bool.false_or, sc_non, sc_bl, sc_int, sc_str, sc_lst, sc_tup, sc_dk,
  mk_sv, kp_sv, bk_sv, no_sv, x_ext, wp_nil, wp_cons, mk_nil, mk_o, mk_v, mk_n, mg_nil, mg_cons, mg_t, mg_f, kp_v, kp_n, kp_o, bk_same, bk_o, bk_t, bk_f, bk_n, by_nm, by_two, no_nil, no_o, no_v, no_n, rb_v, rb_o, os_nil, os_o, os_v, fin_ret, fin_nx, List.contains_cons, List.contains_nil, Nat.reduceBEq, Nat.reduceEqDiff, List.nodup_cons, List.nodup_nil, varsOf, List.not_mem_nil, List.mem_cons, List.mem_singleton, or_false, false_or, or_true, true_or, decide_eq_true_eq, Tgt.ix, isOwn, List.map_cons, List.map_nil, List.cons_append, List.nil_append])
def sqD (b : Bool) (R : List LB) : D := if b then .tup (bxD R) else .lst (bxD R)
theorem lenB (p : LB) (k : Bool) : lenS (.v k (lnB p)) = some p.2.length := by
  obtain ⟨b, l⟩ := p
  cases b with
  | true => show some (l.map D.int).length = _; rw [List.length_map]
  | false => show some (l.map D.int).length = _; rw [List.length_map]
theorem itB (b k : Bool) (R : List LB) : itemsS (.v k (sqD b R)) = some (bxD R) := by cases b <;> rfl
theorem ES.start {A : List (List Int)} {R : List LB} {w : Nat} (hR : R.map (·.2) = A) (hw : ∀ l, l ∈ A → l.length = w) : ES A w 0 [] R 1 1 := by
  refine ⟨[], A.map rowF, [], El.start _ _, Nat.zero_le _, rfl, ?_, ?_⟩
  · rw [hR]; exact linesOf_start A w hw
  · show (1 : Int) = det _ _ _
    rw [det_nil]
theorem ES.done {A : List (List Int)} {T X : List LB} {w e : Nat} {pv sg : Int} (h : ES A w w T X pv sg) (hA : Ln A w e) : Rk A w T.length ∧ (sg = 1 ∨ sg = -1) ∧ sg * pv ≠ 0 ∧ (A.length = w → lap w A = if T.length = w then sg * pv else 0) := by
  obtain ⟨Ds, Rest, Cs, el, _, h5, _, hp⟩ := h.ex
  rw [h5]
  refine ⟨el.rank (Nat.le_refl _) el.lt fun x hx j hj => row_far hA hx j hj, el.ps.sg, ?_, fun hn => ?_⟩
  · rw [hp]
    rcases el.ps.sg with q | q <;> rw [q]
    · rw [Int.one_mul]; exact el.q
    · intro z; exact el.q (by omega)
  rw [lap_lines hn hA.w, hp]
  exact el.det (Nat.le_refl _) el.lt (fun x hx j hj => row_far hA hx j hj) (by rw [List.length_map]; exact hn)
theorem elim_spec {n w : Nat} {k b : Bool} {A : List (List Int)} {R : List LB} (hR : R.map (·.2) = A) (hA : Ln A w 810) (hw : w ≤ 7) (hn : A.length < 700) :
    ∃ (r : Nat) (v : Int), Rk A w r ∧ v ≠ 0 ∧ (A.length = w → lap w A = if r = w then v else 0) ∧ (csT tab (n + 1)).C 2 [.v k (sqD b R)] = some (.val (.tup [.int (r : Int), .int v]), [.v k (sqD b R)]) := by
  rw [call_eq (T := tab) (f := 2) rfl rfl]
  show ∃ (r : Nat) (v : Int), _ ∧ _ ∧ _ ∧ (evB (csT tab n) [false] cs__eliminated [some (.v k (sqD b R)), none, none, none, none, none, none, none, none, none, none]).bind _ = _
  have sz := size_eq
  have s2 : 2 ≤ sizeLine := by omega
  have it := itB b k R
  by_cases hA0 : R = []
  · subst hA0
    have eA : A = [] := hR.symm
    subst eA
    have st : ES [] w w [] [] 1 1 := ⟨[], [], [], ⟨.refl _, rfl, fun c h => absurd h (by simp), .nil, (El.start ([] : List (Row Nat)) 0).q, fun x h => absurd h (by simp)⟩, Nat.zero_le _, rfl, rfl, by show (1 : Int) = det _ _ _; rw [det_nil]⟩
    obtain ⟨d1, _, _, d3⟩ := st.done hA
    refine ⟨0, 1, d1, by decide, fun h => by rw [d3 h]; rfl, ?_⟩
    have hr : forL (forF (csT tab n) [false] (.nm 5) (fun t => .one (.val (.int (t : Int)))) cs__eliminated_f1) 0 0 [some (.v k (sqD b [])), some (.own []), some (.val (.int 0)), some (.val (.int 1)), some (.val (.int 1)), none, none, none, none, none, none] = some (.nx [some (.v k (sqD b [])), some (.own []), some (.val (.int 0)), some (.val (.int 1)), some (.val (.int 1)), none, none, none, none, none, none]) := rfl
    have e0 : bxD [] = [] := rfl
    rw [e0] at it
    have c1 : CMlW 1 1 := .inl (.inl ⟨by decide, by decide⟩)
    have t0 : ((0 : Int)).toNat = 0 := rfl
    have z0 : 0 ≤ sizeLine := Nat.zero_le _
    generalize sqD b [] = S at *
    clear hA hn hR d1 d3 st sz e0
    unfold cs__eliminated
    k_whileD _ _ _ "ev"
    rfl
  · obtain ⟨ρ', g1, T, X, pv, sg, b5, b6, b7, b8, hc, rfl⟩ := forL_ind (f := forF (csT tab n) [false] (.nm 5) (fun t => .one (.val (.int (t : Int)))) cs__eliminated_f1)
      (fun t ρ => ∃ (T X : List LB) (pv sg : Int) (b5 b6 b7 b8 : Option (Bool × D)), ES A w t T X pv sg ∧ ρ = FE k (sqD b R) (bxD (T ++ X)) (T.length : Int) pv sg b5 b6 b7 b8) (m := w) (s := 0)
      (ρ := [some (.v k (sqD b R)), some (.own (bxD R)), some (.val (.int 0)), some (.val (.int 1)), some (.val (.int 1)), none, none, none, none, none, none]) ⟨[], R, 1, 1, none, none, none, none, ES.start hR hA.w, rfl⟩ fun t ρ _ ht ⟨T, X, pv, sg, b5, b6, b7, b8, hc, hj⟩ => by
        subst hj
        obtain ⟨T', X', pv', sg', c6, c7, c8, hc', ev⟩ := elim_col (n := n) (k := k) (It := sqD b R) (a6 := b6) (a7 := b7) (a8 := b8) hA hw hn (t := t) (by omega) hc
        exact ⟨_, ev, T', X', pv', sg', some (true, .int (t : Int)), c6, c7, c8, hc', rfl⟩
    rw [Nat.zero_add] at hc
    obtain ⟨d1, d2, dv, d3⟩ := hc.done hA
    refine ⟨T.length, sg * pv, d1, dv, d3, ?_⟩
    obtain ⟨l, ls, rfl⟩ : ∃ l ls, R = l :: ls := by
      cases R with
      | nil => exact absurd rfl hA0
      | cons l ls => exact ⟨l, ls, rfl⟩
    have hl : l.2.length = w := hA.w l.2 (by rw [← hR]; exact .head _)
    have a0 : atI (bxD (l :: ls)) 0 = some (lnB l) := bx_at (A := l :: ls) (t := 0) (by simp)
    have ll := lenB l true
    rw [hl] at ll
    have ne : (bxD (l :: ls)).isEmpty = false := rfl
    have w1 : ((w : Int)).toNat = w := Int.toNat_natCast w
    have w2 : (-4611686018427387904 : Int) ≤ (w : Int) ∧ (w : Int) < 4611686018427387904 := by omega
    have c1 : CMlW sg pv := .inl (.inl (by rcases d2 with rfl | rfl <;> exact ⟨by decide, by decide⟩))
    unfold FE at g1
    generalize bxD (T ++ X) = M4 at *
    generalize bxD (l :: ls) = M at *
    generalize lnB l = ld at *
    generalize sqD b (l :: ls) = S at *
    clear hA hn hA0 hc hl sz d1 d2 d3 hR dv
    unfold cs__eliminated
    k_whileD _ _ _ "ev"
end K30
namespace K30
open PySem L2 DL RL PyProof.Rows LA
local macro_rules | `(tactic| k_whileD _ _ _ "ev") => `(tactic| simp only [*, is_non_list, is_non_tuple, is_non_bool, is_non_str, is_non_int, is_non_dict, pl_non, isn_non, is_bl_list, is_bl_tuple, is_bl_bool, is_bl_str, is_bl_int, is_bl_dict, pl_bl, isn_bl, is_int_list, is_int_tuple, is_int_bool, is_int_str, is_int_int, is_int_dict, pl_int, isn_int, is_str_list, is_str_tuple, is_str_bool, is_str_str, is_str_int, is_str_dict, pl_str, isn_str, is_lst_list, is_lst_tuple, is_lst_bool, is_lst_str, is_lst_int, is_lst_dict, pl_lst, isn_lst, is_tup_list, is_tup_tuple, is_tup_bool, is_tup_str, is_tup_int, is_tup_dict, pl_tup, isn_tup, is_dk_list, is_dk_tuple, is_dk_bool, is_dk_str, is_dk_int, is_dk_dict, pl_dk, isn_dk, qv_atN, qv_atL, qv_ixLit, qv_mulL, qv_fdivL, qv_modL, qv_powL, Nat.reduceLT, Nat.reduceLeDiff, Nat.reduceAdd, Nat.zero_add, Nat.add_zero, Int.reduceLT, Int.reduceLE, Int.reducePow, Int.reduceToNat, Int.reduceEq, Int.reduceNeg, Int.reduceAdd, Int.reduceSub, Int.reduceMul, and_self, and_true, true_and, eq_self, not_true_eq_false, not_false_eq_true,
  ob_o, ob_v, ob_n, ob_s, fr_nil, fr_0, fr_s, nt_t, nt_f, iv_cst, iv_bin, iv_neg, iv_no, iv_one, iv_conj, iv_disj, iv_cmp, iv_ite, iv_idx, iv_sl, iv_lst, iv_tup, iv_fn, iv_isi, iv_call, iv_app, iv_ext, iv_pop, iv_rev, iv_count, iv_join, iv_comp, iv_compI, iv_comp2, iv_dk0, bf_int, bf_str, bf_list, bf_tuple, bf_sum, bf_all, bf_any, bf_sorted, bf_lenSet, chk_true,
  b_nil, b_seq, b_set, b_setIx, b_set2, b_aug, b_setTp, b_set2o, b_swp, b_expr, b_ret, b_retN, b_ife, b_for, b_pass, b_brk, b_cont, qv_nx, qv_ct, qv_bk, qv_ret, m_own, m_var, m_any,
  e_cst, e_var, e_bin, e_neg, e_no, e_one, e_conj, e_disj, e_cmp, e_ite, e_idxO, e_idxV, e_idx, e_sl, e_lst, e_tup, e_lenO, e_fnV, e_fnL, e_fn, e_isi, e_call, e_app, e_ext, e_pop, e_ins, e_rev, e_count, e_join, e_comp, e_compI, e_comp2, e_dk0, f_range,
  t_no, t_one, t_conj, t_disj, t_cmp, t_chain, t_var, e_nem, t_nem, qv_truB, qv_truL, qv_truO, qv_nemO, qv_nemV, t_fn, t_isi, t_call, o_nil, o_one, a_nil, a_cons, a_star, s_nil, s_own, s_var, s_cons, w_range, w_range2, w_zip, w_enum, w_one,
  Option.bind_some, Option.bind_none, Option.map_some, List.getElem?_cons_zero, List.getElem?_cons_succ, List.set_cons_zero, List.set_cons_succ, chk_pos, List.length_cons, List.length_nil, List.length_map, List.all_cons, List.all_nil, Bool.and_true, Bool.true_and, Bool.false_and, Bool.and_false, Bool.and_self, Bool.not_false, Bool.not_true,
  qv_int, qv_bl, qv_str, qv_toT, qv_toO, qv_toI, qv_toS, qv_toB, qv_toN, qv_fixV, qv_fixO, qv_datV, qv_datO, qv_add, qv_addI, qv_addS, qv_addL, qv_sub, qv_mulC, qv_mulW, qv_fdivC, qv_fdivW, qv_rep, qv_iat0, qv_iatS, qv_tupS, qv_tup2, qv_se0, qv_seS, List.isEmpty_nil, List.isEmpty_cons, qv_modC, qv_powC, qv_in, qv_nin, qv_is, qv_isnt, qv_eq, qv_ne, qv_eqI, qv_eqS, qv_eqB, qv_lt, qv_le, qv_gt, qv_ge, qv_dle, qv_inS, qv_inL, qv_inT,
  qv_ixL, qv_ixT, qv_ixS, qv_lenL, qv_lenT, qv_lenO, qv_lenS, qv_itO, qv_itL, qv_itT, qv_itL', qv_itT', qv_sqO, qv_sqL, qv_sqT, qv_lsO, qv_lsV, qv_lkO, qv_lkT, qv_lkS, qv_len, qv_intf, qv_strf, qv_list, qv_tupleT, qv_tupleL, qv_tupleO, qv_sum, qv_all, qv_any, qv_sorted, qv_lenSet, qv_slS, qv_slL, qv_slO, qv_wkO, qv_wkL, qv_wkT, qv_wkS, qv_getO0, qv_getOS, qv_varV, qv_varO,
  qv_nvT, qv_nvI, qv_nvS, qv_nvB, qv_nvN, qv_nvO, qv_argV, qv_argO, qv_atp, qv_ixp, qv_isi1, qv_isi2, qv_call, qv_aNil, qv_aCons, qv_aEx, qv_aOwn, qv_aBor, qv_backV, qv_backO, qv_backB, qv_backN, if_true, if_false, Bool.false_eq_true, reduceIte, decide_true, decide_false, Bool.or_true, Bool.true_or, Bool.or_false, Bool.false_or, sc_non, sc_bl, sc_int, sc_str, sc_lst, sc_tup, sc_dk,
  mk_sv, kp_sv, bk_sv, no_sv, x_ext, wp_nil, wp_cons, mk_nil, mk_o, mk_v, mk_n, mg_nil, mg_cons, mg_t, mg_f, kp_v, kp_n, kp_o, bk_same, bk_o, bk_t, bk_f, bk_n, by_nm, by_two, no_nil, no_o, no_v, no_n, rb_v, rb_o, os_nil, os_o, os_v, fin_ret, fin_nx, List.contains_cons, List.contains_nil, Nat.reduceBEq, Nat.reduceEqDiff, List.nodup_cons, List.nodup_nil, varsOf, List.not_mem_nil, List.mem_cons, List.mem_singleton, or_false, false_or, or_true, true_or, decide_eq_true_eq, Tgt.ix, isOwn, List.map_cons, List.map_nil, List.cons_append, List.nil_append])
theorem lenSq (b k : Bool) (R : List LB) : lenS (.v k (sqD b R)) = some R.length := by
  cases b with
  | true => show some (bxD R).length = _; rw [bx_len]
  | false => show some (bxD R).length = _; rw [bx_len]
section
variable {n w : Nat} {k b : Bool} {A : List (List Int)} {R : List LB}
theorem indep_spec (hR : R.map (·.2) = A) (hA : Ln A w 810) (hw : w ≤ 7) (hn : A.length < 700) :
    ∃ (r : Nat) (v : Int), Rk A w r ∧ v ≠ 0 ∧ (A.length = w → lap w A = if r = w then v else 0) ∧ (csT tab (n + 2)).C 0 [.v k (sqD b R)] = some (.val (.int (r : Int)), [.v k (sqD b R)]) := by
  obtain ⟨r, v, h1, h2, h3, h4⟩ := elim_spec (n := n) (k := k || isSc (sqD b R)) (b := b) hR hA hw hn
  refine ⟨r, v, h1, h2, h3, ?_⟩
  rw [call_eq (T := tab) (f := 0) rfl rfl]
  show (evB (csT tab (n + 1)) [false] cs_independent_rows [some (.v k (sqD b R))]).bind _ = _
  have m2 : (csT tab (n + 1)).M 2 = [false] := cs_M (T := tab) (f := 2) rfl
  have at0 : atI [D.int (r : Int), D.int v] 0 = some (.int (r : Int)) := atI_nat (j := 0) rfl
  generalize sqD b R = S at *
  clear hA hn hR h1 h2 h3
  unfold cs_independent_rows
  k_whileD _ _ _ "ev"
theorem deter_spec (hR : R.map (·.2) = A) (hA : Ln A w 810) (hw : w ≤ 7) (hn : A.length = w) :
    (csT tab (n + 2)).C 1 [.v k (sqD b R)] = some (.val (.int (lap w A)), [.v k (sqD b R)]) := by
  obtain ⟨r, v, h1, h2, h3, h4⟩ := elim_spec (n := n) (k := k || isSc (sqD b R)) (b := b) hR hA hw (by omega)
  have h3 := h3 hn
  rw [call_eq (T := tab) (f := 1) rfl rfl]
  show (evB (csT tab (n + 1)) [false] cs_determinant [some (.v k (sqD b R)), none, none]).bind _ = _
  have m2 : (csT tab (n + 1)).M 2 = [false] := cs_M (T := tab) (f := 2) rfl
  have ls := lenSq b k R
  have lR : R.length = w := by rw [← hn, ← hR, List.length_map]
  rw [lR] at ls
  generalize sqD b R = S at *
  rw [h3]
  clear h3
  by_cases q : r = w
  · subst q
    rw [if_pos rfl]
    clear hA hn hR h1 h2 lR
    unfold cs_determinant
    k_whileD _ _ _ "ev"
  · rw [if_neg q]
    have q2 : ¬ ((r : Int) = (w : Int)) := by omega
    clear hA hn hR h1 h2 lR q
    unfold cs_determinant
    k_whileD _ _ _ "ev"
end
theorem mx_sq (A : List (List Int)) : D.lst (mxD A) = sqD false (A.map fun l => (false, l)) := by
  show D.lst (mxD A) = D.lst (bxD _)
  unfold mxD bxD
  rw [List.map_map]; rfl
theorem mx_map (A : List (List Int)) (b : Bool) : (A.map fun l => ((b, l) : LB)).map (·.2) = A := by
  rw [List.map_map]; exact List.map_id A
/-- rows exchanged: the other sign -/
theorem lap_exch {T1 X1 X2 : List (List Int)} {x y : List Int} {n : Nat} (h1 : (T1 ++ (x :: X1 ++ y :: X2)).length = n) (hw : ∀ l, l ∈ T1 ++ (x :: X1 ++ y :: X2) → l.length = n) : lap n (T1 ++ (y :: X1 ++ x :: X2)) = - lap n (T1 ++ (x :: X1 ++ y :: X2)) := by
  have hm : ∀ l, l ∈ T1 ++ (y :: X1 ++ x :: X2) → l ∈ T1 ++ (x :: X1 ++ y :: X2) := fun l hl => by
    simp only [List.mem_append, List.mem_cons] at hl ⊢
    rcases hl with h | (h | h) | h | h
    · exact .inl h
    · exact .inr (.inr (.inl h))
    · exact .inr (.inl (.inr h))
    · exact .inr (.inl (.inl h))
    · exact .inr (.inr (.inr h))
  rw [lap_lines (by rw [← h1]; simp) fun l hl => hw l (hm l hl), lap_lines h1 hw]
  have ps : PS (T1.map rowF ++ (rowF y :: X1.map rowF ++ rowF x :: X2.map rowF)) (T1.map rowF ++ (rowF x :: X1.map rowF ++ rowF y :: X2.map rowF)) (-1) := PS.app _ (PS.exch _ _ _ _)
  have := det_ps (e := fun (x : Row Nat) c => x c) ps (List.range n)
  simp only [List.map_append, List.map_cons]
  show det _ _ _ = - det _ _ _
  rw [this]; omega
theorem Rk.mem {A A' : List (List Int)} {w r : Nat} (h : Rk A w r) (e : ∀ l, l ∈ A ↔ l ∈ A') : Rk A' w r :=
  IsR.iff h (fun x => by simp only [List.mem_map, e]) fun _ => Iff.rfl
end K30
namespace K30
open PySem L2 DL RL PyProof.Rows LA
local macro_rules | `(tactic| k_whileD _ _ _ "ev") => `(tactic| simp only [*, is_non_list, is_non_tuple, is_non_bool, is_non_str, is_non_int, is_non_dict, pl_non, isn_non, is_bl_list, is_bl_tuple, is_bl_bool, is_bl_str, is_bl_int, is_bl_dict, pl_bl, isn_bl, is_int_list, is_int_tuple, is_int_bool, is_int_str, is_int_int, is_int_dict, pl_int, isn_int, is_str_list, is_str_tuple, is_str_bool, is_str_str, is_str_int, is_str_dict, pl_str, isn_str, is_lst_list, is_lst_tuple, is_lst_bool, is_lst_str, is_lst_int, is_lst_dict, pl_lst, isn_lst, is_tup_list, is_tup_tuple, is_tup_bool, is_tup_str, is_tup_int, is_tup_dict, pl_tup, isn_tup, is_dk_list, is_dk_tuple, is_dk_bool, is_dk_str, is_dk_int, is_dk_dict, pl_dk, isn_dk, qv_atN, qv_atL, qv_ixLit, qv_mulL, qv_fdivL, qv_modL, qv_powL, Nat.reduceLT, Nat.reduceLeDiff, Nat.reduceAdd, Nat.zero_add, Nat.add_zero, Int.reduceLT, Int.reduceLE, Int.reducePow, Int.reduceToNat, Int.reduceEq, Int.reduceNeg, Int.reduceAdd, Int.reduceSub, Int.reduceMul, and_self, and_true, true_and, eq_self, not_true_eq_false, not_false_eq_true,
  ob_o, ob_v, ob_n, ob_s, fr_nil, fr_0, fr_s, nt_t, nt_f, iv_cst, iv_bin, iv_neg, iv_no, iv_one, iv_conj, iv_disj, iv_cmp, iv_ite, iv_idx, iv_sl, iv_lst, iv_tup, iv_fn, iv_isi, iv_call, iv_app, iv_ext, iv_pop, iv_rev, iv_count, iv_join, iv_comp, iv_compI, iv_comp2, iv_dk0, bf_int, bf_str, bf_list, bf_tuple, bf_sum, bf_all, bf_any, bf_sorted, bf_lenSet, chk_true,
  b_nil, b_seq, b_set, b_setIx, b_set2, b_aug, b_setTp, b_set2o, b_swp, b_expr, b_ret, b_retN, b_ife, b_for, b_pass, b_brk, b_cont, qv_nx, qv_ct, qv_bk, qv_ret, m_own, m_var, m_any,
  e_cst, e_var, e_bin, e_neg, e_no, e_one, e_conj, e_disj, e_cmp, e_ite, e_idxO, e_idxV, e_idx, e_sl, e_lst, e_tup, e_lenO, e_fnV, e_fnL, e_fn, e_isi, e_call, e_app, e_ext, e_pop, e_ins, e_rev, e_count, e_join, e_comp, e_compI, e_comp2, e_dk0, f_range,
  t_no, t_one, t_conj, t_disj, t_cmp, t_chain, t_var, e_nem, t_nem, qv_truB, qv_truL, qv_truO, qv_nemO, qv_nemV, t_fn, t_isi, t_call, o_nil, o_one, a_nil, a_cons, a_star, s_nil, s_own, s_var, s_cons, w_range, w_range2, w_zip, w_enum, w_one,
  Option.bind_some, Option.bind_none, Option.map_some, List.getElem?_cons_zero, List.getElem?_cons_succ, List.set_cons_zero, List.set_cons_succ, chk_pos, List.length_cons, List.length_nil, List.length_map, List.all_cons, List.all_nil, Bool.and_true, Bool.true_and, Bool.false_and, Bool.and_false, Bool.and_self, Bool.not_false, Bool.not_true,
  qv_int, qv_bl, qv_str, qv_toT, qv_toO, qv_toI, qv_toS, qv_toB, qv_toN, qv_fixV, qv_fixO, qv_datV, qv_datO, qv_add, qv_addI, qv_addS, qv_addL, qv_sub, qv_mulC, qv_mulW, qv_fdivC, qv_fdivW, qv_rep, qv_iat0, qv_iatS, qv_tupS, qv_tup2, qv_se0, qv_seS, List.isEmpty_nil, List.isEmpty_cons, qv_modC, qv_powC, qv_in, qv_nin, qv_is, qv_isnt, qv_eq, qv_ne, qv_eqI, qv_eqS, qv_eqB, qv_lt, qv_le, qv_gt, qv_ge, qv_dle, qv_inS, qv_inL, qv_inT,
  qv_ixL, qv_ixT, qv_ixS, qv_lenL, qv_lenT, qv_lenO, qv_lenS, qv_itO, qv_itL, qv_itT, qv_itL', qv_itT', qv_sqO, qv_sqL, qv_sqT, qv_lsO, qv_lsV, qv_lkO, qv_lkT, qv_lkS, qv_len, qv_intf, qv_strf, qv_list, qv_tupleT, qv_tupleL, qv_tupleO, qv_sum, qv_all, qv_any, qv_sorted, qv_lenSet, qv_slS, qv_slL, qv_slO, qv_wkO, qv_wkL, qv_wkT, qv_wkS, qv_getO0, qv_getOS, qv_varV, qv_varO,
  qv_nvT, qv_nvI, qv_nvS, qv_nvB, qv_nvN, qv_nvO, qv_argV, qv_argO, qv_atp, qv_ixp, qv_isi1, qv_isi2, qv_call, qv_aNil, qv_aCons, qv_aEx, qv_aOwn, qv_aBor, qv_backV, qv_backO, qv_backB, qv_backN, if_true, if_false, Bool.false_eq_true, reduceIte, decide_true, decide_false, Bool.or_true, Bool.true_or, Bool.or_false, Bool.false_or, sc_non, sc_bl, sc_int, sc_str, sc_lst, sc_tup, sc_dk,
  mk_sv, kp_sv, bk_sv, no_sv, x_ext, wp_nil, wp_cons, mk_nil, mk_o, mk_v, mk_n, mg_nil, mg_cons, mg_t, mg_f, kp_v, kp_n, kp_o, bk_same, bk_o, bk_t, bk_f, bk_n, by_nm, by_two, no_nil, no_o, no_v, no_n, rb_v, rb_o, os_nil, os_o, os_v, fin_ret, fin_nx, List.contains_cons, List.contains_nil, Nat.reduceBEq, Nat.reduceEqDiff, List.nodup_cons, List.nodup_nil, varsOf, List.not_mem_nil, List.mem_cons, List.mem_singleton, or_false, false_or, or_true, true_or, decide_eq_true_eq, Tgt.ix, isOwn, List.map_cons, List.map_nil, List.cons_append, List.nil_append])
/-- two lines exchanged -/
def exA (A : List (List Int)) (a b : Nat) : List (List Int) := (A.set a (A.getD b [])).set b (A.getD a [])
theorem exA_comm {A : List (List Int)} {a b : Nat} (h : a ≠ b) : exA A a b = exA A b a := by
  unfold exA
  exact List.set_comm _ _ h
theorem exA_lt {A : List (List Int)} {a b : Nat} (h : a < b) (hb : b < A.length) : ∃ T X1 X2 x y, A = T ++ (x :: X1 ++ y :: X2) ∧ exA A a b = T ++ (y :: X1 ++ x :: X2) := by
  obtain ⟨p, y, X2, rfl, hp⟩ := split_at hb
  obtain ⟨T, x, X1, rfl, hT⟩ := split_at (l := p) (i := a) (by omega)
  refine ⟨T, X1, X2, x, y, by simp, ?_⟩
  unfold exA
  subst hT
  have e1 : (T ++ x :: X1 ++ y :: X2).getD b [] = y := by
    rw [List.getD_eq_getElem?_getD, ← hp, List.getElem?_append_right (Nat.le_refl _), Nat.sub_self]; rfl
  have e2 : (T ++ x :: X1 ++ y :: X2).getD T.length [] = x := by
    rw [List.getD_eq_getElem?_getD, List.append_assoc, List.getElem?_append_right (Nat.le_refl _), Nat.sub_self]; rfl
  rw [e1, e2, ← hp]
  rw [List.append_assoc, List.set_append_right _ _ (Nat.le_refl _), Nat.sub_self, List.cons_append, List.set_cons_zero]
  rw [List.set_append_right _ _ (by simp), List.length_append, List.length_cons, show T.length + (X1.length + 1) - T.length = X1.length + 1 by omega, List.set_cons_succ, List.set_append_right _ _ (Nat.le_refl _), Nat.sub_self, List.set_cons_zero]
  simp
theorem exA_ok {A : List (List Int)} {a b n : Nat} (h : a ≠ b) (ha : a < A.length) (hb : b < A.length) (hn : A.length = n) (hw : ∀ l, l ∈ A → l.length = n) : lap n (exA A a b) = - lap n A ∧ (∀ l, l ∈ exA A a b ↔ l ∈ A) ∧ (exA A a b).length = n := by
  have key : ∀ {a b : Nat}, a < b → b < A.length → lap n (exA A a b) = - lap n A ∧ (∀ l, l ∈ exA A a b ↔ l ∈ A) ∧ (exA A a b).length = n := fun {a b} h hb => by
    obtain ⟨T, X1, X2, x, y, e1, e2⟩ := exA_lt h hb
    rw [e2]
    rw [e1] at hn hw ⊢
    refine ⟨lap_exch hn hw, fun l => ?_, by rw [← hn]; simp⟩
    simp only [List.mem_append, List.mem_cons]
    constructor
    · rintro (h | (h | h) | h | h)
      · exact .inl h
      · exact .inr (.inr (.inl h))
      · exact .inr (.inl (.inr h))
      · exact .inr (.inl (.inl h))
      · exact .inr (.inr (.inr h))
    · rintro (h | (h | h) | h | h)
      · exact .inl h
      · exact .inr (.inr (.inl h))
      · exact .inr (.inl (.inr h))
      · exact .inr (.inl (.inl h))
      · exact .inr (.inr (.inr h))
  rcases Nat.lt_or_gt_of_ne h with q | q
  · exact key q hb
  · rw [exA_comm h]; exact key q ha
theorem exA_mx {A : List (List Int)} {a b : Nat} : ((mxD A).set a (lnD (A.getD b []))).set b (lnD (A.getD a [])) = mxD (exA A a b) := by
  unfold mxD exA
  rw [← List.map_set, ← List.map_set]
section
variable {n : Nat} {k1 : Bool} {A : List (List Int)} {B : Bag} {size due : Int}
theorem sqA_comp : compL (compF (csT tab n) cs__law_square_so_e0 (.nm 5) [5] (fun t => .one (.val ((mxD A).getD t .non)))) 0 (mxD A).length
      [some (.own B.ds), some (.v k1 (.lst (mxD A))), some (.val (.int size)), some (.val (.int due)), none, none, none, none, none] [] =
      some (mxD A, [some (.own B.ds), some (.v k1 (.lst (mxD A))), some (.val (.int size)), some (.val (.int due)), none, none, none, none, none]) := by
  have e : (mxD A).map id = mxD A := List.map_id _
  refine (compL_list (ds := mxD A) id fun t d h => ?_).trans (by rw [e])
  have hd : (mxD A).getD t .non = d := by rw [List.getD_eq_getElem?_getD, h]; rfl
  obtain ⟨l, _, rfl⟩ := List.mem_map.mp (show d ∈ A.map lnD from List.mem_of_getElem? h)
  unfold compF
  dsimp only
  rw [hd]
  unfold lnD
  generalize l.map D.int = L
  generalize mxD A = M
  clear h hd e
  unfold cs__law_square_so_e0
  k_whileD _ _ _ "ev"
  rfl
theorem sqB_comp {TA : List (List Int)} {M : D} {Hn : List D} : compL (compF (csT tab n) cs__law_square_so_e1 (.nm 5) [5] (fun t => .one (.v true ((mxD TA).getD t .non)))) 0 (mxD TA).length
      [some (.own B.ds), some (.v k1 M), some (.val (.int size)), some (.val (.int due)), some (.own Hn), none, none, none, none] [] =
      some (bxD (TA.map fun l => (true, l)), [some (.own B.ds), some (.v k1 M), some (.val (.int size)), some (.val (.int due)), some (.own Hn), none, none, none, none]) := by
  rw [mx_len, compL_map (fun j => D.tup ((TA.getD j []).map .int)) fun j hj => ?_]
  · congr 1
    congr 1
    unfold bxD
    rw [List.map_map]
    refine List.ext_getElem (by simp) fun i a b => ?_
    have hi : i < TA.length := by simpa using a
    simp only [List.getElem_map, List.getElem_range, List.getD_eq_getElem?_getD, List.getElem?_eq_getElem hi, Function.comp]
    rfl
  · unfold compF
    dsimp only
    rw [mx_get hj]
    unfold lnD
    generalize (TA.getD j []).map D.int = L
    clear hj
    unfold cs__law_square_so_e1
    k_whileD _ _ _ "ev"
end
end K30
namespace K30
open PySem L2 DL RL PyProof.Rows LA
local macro_rules | `(tactic| k_whileD _ _ _ "ev") => `(tactic| simp only [*, is_non_list, is_non_tuple, is_non_bool, is_non_str, is_non_int, is_non_dict, pl_non, isn_non, is_bl_list, is_bl_tuple, is_bl_bool, is_bl_str, is_bl_int, is_bl_dict, pl_bl, isn_bl, is_int_list, is_int_tuple, is_int_bool, is_int_str, is_int_int, is_int_dict, pl_int, isn_int, is_str_list, is_str_tuple, is_str_bool, is_str_str, is_str_int, is_str_dict, pl_str, isn_str, is_lst_list, is_lst_tuple, is_lst_bool, is_lst_str, is_lst_int, is_lst_dict, pl_lst, isn_lst, is_tup_list, is_tup_tuple, is_tup_bool, is_tup_str, is_tup_int, is_tup_dict, pl_tup, isn_tup, is_dk_list, is_dk_tuple, is_dk_bool, is_dk_str, is_dk_int, is_dk_dict, pl_dk, isn_dk, qv_atN, qv_atL, qv_ixLit, qv_mulL, qv_fdivL, qv_modL, qv_powL, Nat.reduceLT, Nat.reduceLeDiff, Nat.reduceAdd, Nat.zero_add, Nat.add_zero, Int.reduceLT, Int.reduceLE, Int.reducePow, Int.reduceToNat, Int.reduceEq, Int.reduceNeg, Int.reduceAdd, Int.reduceSub, Int.reduceMul, and_self, and_true, true_and, eq_self, not_true_eq_false, not_false_eq_true,
  ob_o, ob_v, ob_n, ob_s, fr_nil, fr_0, fr_s, nt_t, nt_f, iv_cst, iv_bin, iv_neg, iv_no, iv_one, iv_conj, iv_disj, iv_cmp, iv_ite, iv_idx, iv_sl, iv_lst, iv_tup, iv_fn, iv_isi, iv_call, iv_app, iv_ext, iv_pop, iv_rev, iv_count, iv_join, iv_comp, iv_compI, iv_comp2, iv_dk0, bf_int, bf_str, bf_list, bf_tuple, bf_sum, bf_all, bf_any, bf_sorted, bf_lenSet, chk_true,
  b_nil, b_seq, b_set, b_setIx, b_set2, b_aug, b_setTp, b_set2o, b_swp, b_expr, b_ret, b_retN, b_ife, b_for, b_pass, b_brk, b_cont, qv_nx, qv_ct, qv_bk, qv_ret, m_own, m_var, m_any,
  e_cst, e_var, e_bin, e_neg, e_no, e_one, e_conj, e_disj, e_cmp, e_ite, e_idxO, e_idxV, e_idx, e_sl, e_lst, e_tup, e_lenO, e_fnV, e_fnL, e_fn, e_isi, e_call, e_app, e_ext, e_pop, e_ins, e_rev, e_count, e_join, e_comp, e_compI, e_comp2, e_dk0, f_range,
  t_no, t_one, t_conj, t_disj, t_cmp, t_chain, t_var, e_nem, t_nem, qv_truB, qv_truL, qv_truO, qv_nemO, qv_nemV, t_fn, t_isi, t_call, o_nil, o_one, a_nil, a_cons, a_star, s_nil, s_own, s_var, s_cons, w_range, w_range2, w_zip, w_enum, w_one,
  Option.bind_some, Option.bind_none, Option.map_some, List.getElem?_cons_zero, List.getElem?_cons_succ, List.set_cons_zero, List.set_cons_succ, chk_pos, List.length_cons, List.length_nil, List.length_map, List.all_cons, List.all_nil, Bool.and_true, Bool.true_and, Bool.false_and, Bool.and_false, Bool.and_self, Bool.not_false, Bool.not_true,
  qv_int, qv_bl, qv_str, qv_toT, qv_toO, qv_toI, qv_toS, qv_toB, qv_toN, qv_fixV, qv_fixO, qv_datV, qv_datO, qv_add, qv_addI, qv_addS, qv_addL, qv_sub, qv_mulC, qv_mulW, qv_fdivC, qv_fdivW, qv_rep, qv_iat0, qv_iatS, qv_tupS, qv_tup2, qv_se0, qv_seS, List.isEmpty_nil, List.isEmpty_cons, qv_modC, qv_powC, qv_in, qv_nin, qv_is, qv_isnt, qv_eq, qv_ne, qv_eqI, qv_eqS, qv_eqB, qv_lt, qv_le, qv_gt, qv_ge, qv_dle, qv_inS, qv_inL, qv_inT,
  qv_ixL, qv_ixT, qv_ixS, qv_lenL, qv_lenT, qv_lenO, qv_lenS, qv_itO, qv_itL, qv_itT, qv_itL', qv_itT', qv_sqO, qv_sqL, qv_sqT, qv_lsO, qv_lsV, qv_lkO, qv_lkT, qv_lkS, qv_len, qv_intf, qv_strf, qv_list, qv_tupleT, qv_tupleL, qv_tupleO, qv_sum, qv_all, qv_any, qv_sorted, qv_lenSet, qv_slS, qv_slL, qv_slO, qv_wkO, qv_wkL, qv_wkT, qv_wkS, qv_getO0, qv_getOS, qv_varV, qv_varO,
  qv_nvT, qv_nvI, qv_nvS, qv_nvB, qv_nvN, qv_nvO, qv_argV, qv_argO, qv_atp, qv_ixp, qv_isi1, qv_isi2, qv_call, qv_aNil, qv_aCons, qv_aEx, qv_aOwn, qv_aBor, qv_backV, qv_backO, qv_backB, qv_backN, if_true, if_false, Bool.false_eq_true, reduceIte, decide_true, decide_false, Bool.or_true, Bool.true_or, Bool.or_false, Bool.false_or, sc_non, sc_bl, sc_int, sc_str, sc_lst, sc_tup, sc_dk,
  mk_sv, kp_sv, bk_sv, no_sv, x_ext, wp_nil, wp_cons, mk_nil, mk_o, mk_v, mk_n, mg_nil, mg_cons, mg_t, mg_f, kp_v, kp_n, kp_o, bk_same, bk_o, bk_t, bk_f, bk_n, by_nm, by_two, no_nil, no_o, no_v, no_n, rb_v, rb_o, os_nil, os_o, os_v, fin_ret, fin_nx, List.contains_cons, List.contains_nil, Nat.reduceBEq, Nat.reduceEqDiff, List.nodup_cons, List.nodup_nil, varsOf, List.not_mem_nil, List.mem_cons, List.mem_singleton, or_false, false_or, or_true, true_or, decide_eq_true_eq, Tgt.ix, isOwn, List.map_cons, List.map_nil, List.cons_append, List.nil_append])
theorem ok_int {m : Nat} (i : Int) : okD m (.int i) := by cases m <;> trivial
theorem ok_mx {A : List (List Int)} {m : Nat} (h : A.length ≤ 1000) (hl : ∀ l, l ∈ A → l.length ≤ 1000) : okD (m + 2) (.lst (mxD A)) := by
  have sz := size_eq
  refine ⟨by rw [mx_len]; omega, fun d hd => ?_⟩
  obtain ⟨l, hl', rfl⟩ := List.mem_map.mp hd
  refine ⟨by rw [List.length_map]; have := hl l hl'; omega, fun x hx => ?_⟩
  obtain ⟨i, _, rfl⟩ := List.mem_map.mp hx
  exact ok_int i
section
variable {n size : Nat} {k1 : Bool} {A : List (List Int)} {B : Bag}
theorem square_spec (hB : B.Ok) (hn : A.length = size) (h1 : 1 ≤ size) (h5 : size ≤ 5) (hA : Ln A size 810) :
    ∃ B' : Bag, B'.Ok ∧ (csT tab (n + 7)).C 13 [.own B.ds, .v k1 (.lst (mxD A))] = some (.val (.bl true), [.own B'.ds, .v k1 (.lst (mxD A))]) := by
  have sz := size_eq
  rw [call_eq (T := tab) (f := 13) rfl rfl]
  show ∃ B' : Bag, _ ∧ (evB (csT tab (n + 6)) [true, false] cs__law_square_so [some (.own B.ds), some (.v k1 (.lst (mxD A))), none, none, none, none, none, none, none]).bind _ = _
  have m0 : (csT tab (n + 6)).M 0 = [false] := cs_M (T := tab) (f := 0) rfl
  have m1 : (csT tab (n + 6)).M 1 = [false] := cs_M (T := tab) (f := 1) rfl
  have m4 : (csT tab (n + 6)).M 4 = [true, false] := cs_M (T := tab) (f := 4) rfl
  have m7 : (csT tab (n + 6)).M 7 = [false, false] := cs_M (T := tab) (f := 7) rfl
  have m8 : (csT tab (n + 6)).M 8 = [false] := cs_M (T := tab) (f := 8) rfl
  have m11 : (csT tab (n + 6)).M 11 = [false, false] := cs_M (T := tab) (f := 11) rfl
  have m12 : (csT tab (n + 6)).M 12 = [false] := cs_M (T := tab) (f := 12) rfl
  have d8 := det_spec (b := 810) (by omega) size (m := n + 5 - size) (k := k1) hn hA.w hA.b (by omega)
  rw [show n + 5 - size + size + 1 = n + 6 by omega] at d8
  have dt1 := deter_spec (n := n + 4) (k := false) (b := false) (mx_map A false) hA (by omega) hn
  rw [← mx_sq] at dt1
  have lk1 := fun i : Int => like_spec 0 (n := n + 5) (d := .int i) (ok_int i) true true
  have lk2 := like_spec 2 (n := n + 3) (d := .lst (mxD A)) (ok_mx (by omega) fun l hl => by rw [hA.w l hl]; omega) false k1
  have tn := turned_spec (n := n + 5) (w := size) (k1 := k1) (k2 := true) hA.w (by omega) (by omega)
  have hTw : Ln (turned A size) size 810 := ⟨fun l hl => by
      obtain ⟨t, _, rfl⟩ := List.mem_map.mp hl
      rw [List.length_map, hn], fun l hl x hx => by
      obtain ⟨t, _, rfl⟩ := List.mem_map.mp hl
      obtain ⟨l', hl', rfl⟩ := List.mem_map.mp hx
      rw [List.getD_eq_getElem?_getD]
      cases q : l'[t]? with
      | none => exact Nat.zero_le _
      | some z => exact hA.b l' hl' z (List.mem_of_getElem? q)⟩
  have hTn : (turned A size).length = size := by simp [turned]
  have dt2 := deter_spec (n := n + 4) (k := true) (b := true) (mx_map (turned A size) true) hTw (by omega) hTn
  rw [lap_turned hn hA.w] at dt2
  obtain ⟨r, v, rk, hv, hl, ip⟩ := indep_spec (n := n + 4) (k := k1) (b := false) (mx_map A false) hA (by omega) (by omega)
  rw [← mx_sq] at ip
  obtain ⟨r', rk', cn⟩ := count_spec (n := n + 5) (k := k1) hA (by omega) (by omega)
  obtain rfl := Rk.uniq rk rk'
  have hfull : decide ((r : Int) = (size : Int)) = decide (¬ lap size A = 0) := by
    rw [hl hn]
    by_cases q : r = size
    · rw [if_pos q, q]; simp [hv]
    · rw [if_neg q]
      have : ¬ ((r : Int) = (size : Int)) := by omega
      simp [this]
  have len : (mxD A).length = size := by rw [mx_len, hn]
  have sc := fun B : Bag => sqA_comp (n := n + 6) (k1 := k1) (A := A) (B := B) (size := (size : Int)) (due := lap size A)
  have sd := fun B : Bag => sqB_comp (n := n + 6) (k1 := k1) (B := B) (size := (size : Int)) (due := lap size A) (TA := turned A size) (M := .lst (mxD A)) (Hn := mxD A)
  have w3 : size ≤ sizeLine := by omega
  have tl : (mxD (turned A size)).length = size := by rw [mx_len, hTn]
  have lb := lk1 (lap size A)
  have ne0 : decide (lap size A = 0) = !decide (¬ lap size A = 0) := by by_cases q : lap size A = 0 <;> simp [q]
  by_cases h1' : size = 1
  · refine ⟨B, hB, ?_⟩
    have g1 : ¬ ((1 : Int) < (size : Int)) := by omega
    have ip2 := indep_spec (n := n + 4) (k := false) (b := false) (mx_map A false) hA (by omega) (by omega)
    obtain ⟨r2, v2, rk2, _, _, ip2⟩ := ip2
    obtain rfl := Rk.uniq rk rk2
    rw [← mx_sq] at ip2
    have lr := lk1 (r : Int)
    have sc1 := sc B
    have sd1 := sd B
    rw [len] at sc1
    rw [tl] at sd1
    clear sc sd
    have dt2' : (csT tab (n + 4 + 2)).C 1 [.v true (.tup (bxD ((turned A size).map fun l => (true, l))))] = some (.val (.int (lap size A)), [.v true (.tup (bxD ((turned A size).map fun l => (true, l))))]) := dt2
    generalize bxD ((turned A size).map fun l => (true, l)) = TT at *
    generalize mxD (turned A size) = TM at *
    generalize mxD A = M at *
    generalize lap size A = due at *
    clear hA hTw hTn hB rk rk' rk2 hl hv hn lk1 dt2 sz h1'
    generalize decide (¬ due = 0) = bz at *
    cases bz with
    | false =>
      have ne1 : decide (due = 0) = true := ne0
      clear ne0
      unfold cs__law_square_so
      k_whileD _ _ _ "ev"
    | true =>
      have ne1 : decide (due = 0) = false := ne0
      clear ne0
      unfold cs__law_square_so
      k_whileD _ _ _ "ev"
  · have g1 : (1 : Int) < (size : Int) := by omega
    have p0 : (0 : Int) < (size : Int) := by omega
    have d4 := draw_spec (n := n + 5) hB (t := (size : Int)) p0 (by omega) (k := true)
    have e4 := digit_lt (B := B) (t := (size : Int)) p0
    have hB1 := next_ok hB (t := (size : Int)) p0
    generalize B.next (size : Int) = B1 at *
    obtain ⟨a, ha⟩ : ∃ a : Nat, B.digit (size : Int) = (a : Int) := ⟨(B.digit (size : Int)).toNat, by omega⟩
    rw [ha] at d4 e4
    have d5 := draw_spec (n := n + 5) hB1 (t := (size : Int) - 1) (by omega) (by omega) (k := true)
    have e5 := digit_lt (B := B1) (t := (size : Int) - 1) (by omega)
    have hB2 := next_ok hB1 (t := (size : Int) - 1) (by omega)
    generalize B1.next ((size : Int) - 1) = B2 at *
    generalize B1.digit ((size : Int) - 1) = c at *
    have e6 := Int.emod_nonneg ((a : Int) + 1 + c) (show (size : Int) ≠ 0 by omega)
    have e7 := Int.emod_lt_of_pos ((a : Int) + 1 + c) p0
    obtain ⟨b, hb⟩ : ∃ b : Nat, ((a : Int) + 1 + c) % (size : Int) = (b : Int) := ⟨(((a : Int) + 1 + c) % (size : Int)).toNat, by omega⟩
    have hab : a ≠ b := fun q => by
      subst q
      rcases Int.lt_or_le ((a : Int) + 1 + c) (size : Int) with z | z
      · rw [Int.emod_eq_of_lt (by omega) z] at hb; omega
      · have : ((a : Int) + 1 + c) % (size : Int) = (a : Int) + 1 + c - (size : Int) := by
          rw [← Int.sub_emod_right, Int.emod_eq_of_lt (by omega) (by omega)]
        omega
    rw [hb] at e7
    refine ⟨B2, hB2, ?_⟩
    obtain ⟨x1, x2, x3⟩ := exA_ok hab (by omega) (by omega) hn hA.w
    have hE : Ln (exA A a b) size 810 := ⟨fun l hl => hA.w l ((x2 l).mp hl), fun l hl => hA.b l ((x2 l).mp hl)⟩
    have dt3 := deter_spec (n := n + 4) (k := false) (b := false) (mx_map (exA A a b) false) hE (by omega) x3
    rw [← mx_sq, x1, show - lap size A = 0 - lap size A by omega] at dt3
    have ip2 := indep_spec (n := n + 4) (k := false) (b := false) (mx_map (exA A a b) false) hE (by omega) (by omega)
    obtain ⟨r2, v2, rk2, _, _, ip2⟩ := ip2
    obtain rfl := LA.Rk.uniq (K30.Rk.mem rk fun l => (x2 l).symm) rk2
    rw [← mx_sq] at ip2
    have lr := lk1 (r : Int)
    have ln := lk1 (0 - lap size A)
    have sc1 := sc B
    have sd1 := sd B
    rw [len] at sc1
    rw [tl] at sd1
    clear sc sd
    have dt2' : (csT tab (n + 4 + 2)).C 1 [.v true (.tup (bxD ((turned A size).map fun l => (true, l))))] = some (.val (.int (lap size A)), [.v true (.tup (bxD ((turned A size).map fun l => (true, l))))]) := dt2
    have i1 : ixN size (a : Int) = some a := ixN_lt (by omega)
    have i2 : ixN size (b : Int) = some b := ixN_lt (by omega)
    have q1 := mx_at (A := A) (t := a) (by omega)
    have q2 := mx_at (A := A) (t := b) (by omega)
    have ex := exA_mx (A := A) (a := a) (b := b)
    have s2 : 2 ≤ sizeLine := by omega
    generalize mxD (exA A a b) = M3 at *
    generalize lnD (A.getD a []) = la at *
    generalize lnD (A.getD b []) = lbb at *
    generalize bxD ((turned A size).map fun l => (true, l)) = TT at *
    generalize mxD (turned A size) = TM at *
    generalize mxD A = M at *
    generalize lap size A = due at *
    clear hA hTw hTn hB rk rk' rk2 hl hv hn lk1 dt2 sz h1' hB1 hB2 x1 x2 x3 hE hab e4 e5 e6 e7 ha
    generalize decide (¬ due = 0) = bz at *
    cases bz with
    | false =>
      have ne1 : decide (due = 0) = true := ne0
      clear ne0
      unfold cs__law_square_so
      k_whileD _ _ _ "ev"
    | true =>
      have ne1 : decide (due = 0) = false := ne0
      clear ne0
      unfold cs__law_square_so
      k_whileD _ _ _ "ev"
end
end K30
namespace K30
open PySem L2 DL RL PyProof.Rows LA
local macro_rules | `(tactic| k_whileD _ _ _ "ev") => `(tactic| simp only [*, is_non_list, is_non_tuple, is_non_bool, is_non_str, is_non_int, is_non_dict, pl_non, isn_non, is_bl_list, is_bl_tuple, is_bl_bool, is_bl_str, is_bl_int, is_bl_dict, pl_bl, isn_bl, is_int_list, is_int_tuple, is_int_bool, is_int_str, is_int_int, is_int_dict, pl_int, isn_int, is_str_list, is_str_tuple, is_str_bool, is_str_str, is_str_int, is_str_dict, pl_str, isn_str, is_lst_list, is_lst_tuple, is_lst_bool, is_lst_str, is_lst_int, is_lst_dict, pl_lst, isn_lst, is_tup_list, is_tup_tuple, is_tup_bool, is_tup_str, is_tup_int, is_tup_dict, pl_tup, isn_tup, is_dk_list, is_dk_tuple, is_dk_bool, is_dk_str, is_dk_int, is_dk_dict, pl_dk, isn_dk, qv_atN, qv_atL, qv_ixLit, qv_mulL, qv_fdivL, qv_modL, qv_powL, Nat.reduceLT, Nat.reduceLeDiff, Nat.reduceAdd, Nat.zero_add, Nat.add_zero, Int.reduceLT, Int.reduceLE, Int.reducePow, Int.reduceToNat, Int.reduceEq, Int.reduceNeg, Int.reduceAdd, Int.reduceSub, Int.reduceMul, and_self, and_true, true_and, eq_self, not_true_eq_false, not_false_eq_true,
  ob_o, ob_v, ob_n, ob_s, fr_nil, fr_0, fr_s, nt_t, nt_f, iv_cst, iv_bin, iv_neg, iv_no, iv_one, iv_conj, iv_disj, iv_cmp, iv_ite, iv_idx, iv_sl, iv_lst, iv_tup, iv_fn, iv_isi, iv_call, iv_app, iv_ext, iv_pop, iv_rev, iv_count, iv_join, iv_comp, iv_compI, iv_comp2, iv_dk0, bf_int, bf_str, bf_list, bf_tuple, bf_sum, bf_all, bf_any, bf_sorted, bf_lenSet, chk_true,
  b_nil, b_seq, b_set, b_setIx, b_set2, b_aug, b_setTp, b_set2o, b_swp, b_expr, b_ret, b_retN, b_ife, b_for, b_pass, b_brk, b_cont, qv_nx, qv_ct, qv_bk, qv_ret, m_own, m_var, m_any,
  e_cst, e_var, e_bin, e_neg, e_no, e_one, e_conj, e_disj, e_cmp, e_ite, e_idxO, e_idxV, e_idx, e_sl, e_lst, e_tup, e_lenO, e_fnV, e_fnL, e_fn, e_isi, e_call, e_app, e_ext, e_pop, e_ins, e_rev, e_count, e_join, e_comp, e_compI, e_comp2, e_dk0, f_range,
  t_no, t_one, t_conj, t_disj, t_cmp, t_chain, t_var, e_nem, t_nem, qv_truB, qv_truL, qv_truO, qv_nemO, qv_nemV, t_fn, t_isi, t_call, o_nil, o_one, a_nil, a_cons, a_star, s_nil, s_own, s_var, s_cons, w_range, w_range2, w_zip, w_enum, w_one,
  Option.bind_some, Option.bind_none, Option.map_some, List.getElem?_cons_zero, List.getElem?_cons_succ, List.set_cons_zero, List.set_cons_succ, chk_pos, List.length_cons, List.length_nil, List.length_map, List.all_cons, List.all_nil, Bool.and_true, Bool.true_and, Bool.false_and, Bool.and_false, Bool.and_self, Bool.not_false, Bool.not_true,
  qv_int, qv_bl, qv_str, qv_toT, qv_toO, qv_toI, qv_toS, qv_toB, qv_toN, qv_fixV, qv_fixO, qv_datV, qv_datO, qv_add, qv_addI, qv_addS, qv_addL, qv_sub, qv_mulC, qv_mulW, qv_fdivC, qv_fdivW, qv_rep, qv_iat0, qv_iatS, qv_tupS, qv_tup2, qv_se0, qv_seS, List.isEmpty_nil, List.isEmpty_cons, qv_modC, qv_powC, qv_in, qv_nin, qv_is, qv_isnt, qv_eq, qv_ne, qv_eqI, qv_eqS, qv_eqB, qv_lt, qv_le, qv_gt, qv_ge, qv_dle, qv_inS, qv_inL, qv_inT,
  qv_ixL, qv_ixT, qv_ixS, qv_lenL, qv_lenT, qv_lenO, qv_lenS, qv_itO, qv_itL, qv_itT, qv_itL', qv_itT', qv_sqO, qv_sqL, qv_sqT, qv_lsO, qv_lsV, qv_lkO, qv_lkT, qv_lkS, qv_len, qv_intf, qv_strf, qv_list, qv_tupleT, qv_tupleL, qv_tupleO, qv_sum, qv_all, qv_any, qv_sorted, qv_lenSet, qv_slS, qv_slL, qv_slO, qv_wkO, qv_wkL, qv_wkT, qv_wkS, qv_getO0, qv_getOS, qv_varV, qv_varO,
  qv_nvT, qv_nvI, qv_nvS, qv_nvB, qv_nvN, qv_nvO, qv_argV, qv_argO, qv_atp, qv_ixp, qv_isi1, qv_isi2, qv_call, qv_aNil, qv_aCons, qv_aEx, qv_aOwn, qv_aBor, qv_backV, qv_backO, qv_backB, qv_backN, if_true, if_false, Bool.false_eq_true, reduceIte, decide_true, decide_false, Bool.or_true, Bool.true_or, Bool.or_false, Bool.false_or, sc_non, sc_bl, sc_int, sc_str, sc_lst, sc_tup, sc_dk,
  mk_sv, kp_sv, bk_sv, no_sv, x_ext, wp_nil, wp_cons, mk_nil, mk_o, mk_v, mk_n, mg_nil, mg_cons, mg_t, mg_f, kp_v, kp_n, kp_o, bk_same, bk_o, bk_t, bk_f, bk_n, by_nm, by_two, no_nil, no_o, no_v, no_n, rb_v, rb_o, os_nil, os_o, os_v, fin_ret, fin_nx, List.contains_cons, List.contains_nil, Nat.reduceBEq, Nat.reduceEqDiff, List.nodup_cons, List.nodup_nil, varsOf, List.not_mem_nil, List.mem_cons, List.mem_singleton, or_false, false_or, or_true, true_or, decide_eq_true_eq, Tgt.ix, isOwn, List.map_cons, List.map_nil, List.cons_append, List.nil_append])
theorem pick_int {B : Bag} {ns : List Nat} {lo hi : Nat} (h0 : 0 < ns.length) (h : ∀ x, x ∈ ns → lo ≤ x ∧ x ≤ hi) : ∃ s : Nat, lo ≤ s ∧ s ≤ hi ∧ (ns.map fun (x : Nat) => D.int (x : Int)).getD (B.digit ((ns.map fun (x : Nat) => D.int (x : Int)).length : Int)).toNat .non = .int (s : Int) := by
  have hd := digit_lt (B := B) (t := ((ns.map fun (x : Nat) => D.int (x : Int)).length : Int)) (by rw [List.length_map]; omega)
  rw [List.length_map] at hd ⊢
  have hlt : (B.digit (ns.length : Int)).toNat < ns.length := by omega
  refine ⟨ns[(B.digit (ns.length : Int)).toNat], (h _ (List.getElem_mem hlt)).1, (h _ (List.getElem_mem hlt)).2, ?_⟩
  rw [List.getD_eq_getElem?_getD, List.getElem?_map, List.getElem?_eq_getElem hlt]; rfl
theorem rk_zero {A : List (List Int)} {w r : Nat} (h : Rk A w r) : Rk (A ++ [List.replicate w 0]) w r := by
  refine IsR.zeros h (fun x hx => ?_) fun x hx => ?_
  · rw [List.map_append]; exact List.mem_append.mpr (.inl hx)
  · rw [List.map_append] at hx
    rcases List.mem_append.mp hx with q | q
    · exact .inl q
    · right
      intro c _
      rw [List.map_singleton, List.mem_singleton] at q
      rw [q]
      show (List.replicate w (0 : Int)).getD c 0 = 0
      rw [List.getD_eq_getElem?_getD, List.getElem?_replicate]
      split <;> rfl
theorem ln_turn {A : List (List Int)} {w e : Nat} (hA : Ln A w e) : Ln (turned A w) A.length e := ⟨fun l hl => by
    obtain ⟨t, _, rfl⟩ := List.mem_map.mp hl
    rw [List.length_map], fun l hl x hx => by
    obtain ⟨t, _, rfl⟩ := List.mem_map.mp hl
    obtain ⟨l', hl', rfl⟩ := List.mem_map.mp hx
    rw [List.getD_eq_getElem?_getD]
    cases q : l'[t]? with
    | none => exact Nat.zero_le _
    | some z => exact hA.b l' hl' z (List.mem_of_getElem? q)⟩
theorem law_comp {n : Nat} {k : Bool} {S : D} {B : Bag} {A : List (List Int)} {a2 a4 a7 a9 : Option (Bool × D)} {many size : Int} :
    compL (compF (csT tab n) cs_law_e0 (.nm 8) [8] (fun t => .one (.v true ((mxD A).getD t .non)))) 0 (mxD A).length
      [some (.v k S), some (.own B.ds), sv a2, some (.v true (.int size)), sv a4, some (.v true (.int many)), some (.v true (.lst (mxD A))), sv a7, none, sv a9] [] =
      some (mxD A, [some (.v k S), some (.own B.ds), sv a2, some (.v true (.int size)), sv a4, some (.v true (.int many)), some (.v true (.lst (mxD A))), sv a7, none, sv a9]) := by
  have e : (mxD A).map id = mxD A := List.map_id _
  refine (compL_list (ds := mxD A) id fun t d h => ?_).trans (by rw [e])
  have hd : (mxD A).getD t .non = d := by rw [List.getD_eq_getElem?_getD, h]; rfl
  obtain ⟨l, _, rfl⟩ := List.mem_map.mp (show d ∈ A.map lnD from List.mem_of_getElem? h)
  unfold compF
  dsimp only
  rw [hd]
  unfold lnD
  generalize l.map D.int = L
  generalize mxD A = M
  clear h hd e
  unfold cs_law_e0
  k_whileD _ _ _ "ev"
  rfl
/-- what the law asks of the items: facts of the calls -/
theorem items_facts {n many size : Nat} {A : List (List Int)} (hA : Ln A size 810) (hn : A.length = many) (hm : many ≤ 6) (hs : size ≤ 6) :
    ∃ r : Nat, (csT tab (n + 7)).C 12 [.v true (.lst (mxD A))] = some (.val (.int (r : Int)), [.v true (.lst (mxD A))]) ∧
      (csT tab (n + 7)).C 0 [.v true (.lst (mxD A))] = some (.val (.int (r : Int)), [.v true (.lst (mxD A))]) ∧
      (csT tab (n + 7)).C 0 [.v true (.lst (mxD (turned A size)))] = some (.val (.int (r : Int)), [.v true (.lst (mxD (turned A size)))]) ∧
      (csT tab (n + 7)).C 0 [.v true (.lst (mxD A ++ mxD A))] = some (.val (.int (r : Int)), [.v true (.lst (mxD A ++ mxD A))]) ∧
      (csT tab (n + 7)).C 0 [.v true (.lst (mxD A ++ [.lst ((List.replicate size (0 : Int)).map .int)]))] = some (.val (.int (r : Int)), [.v true (.lst (mxD A ++ [.lst ((List.replicate size (0 : Int)).map .int)]))]) := by
  have one : ∀ {A' : List (List Int)} {w r : Nat}, Ln A' w 810 → w ≤ 7 → A'.length < 700 → Rk A' w r → (csT tab (n + 7)).C 0 [.v true (.lst (mxD A'))] = some (.val (.int (r : Int)), [.v true (.lst (mxD A'))]) := fun {A' w r} h1 h2 h3 h4 => by
    obtain ⟨r', v, rk, _, _, ip⟩ := indep_spec (n := n + 5) (k := true) (b := false) (mx_map A' false) h1 h2 h3
    rw [← mx_sq] at ip
    rw [LA.Rk.uniq h4 rk]; exact ip
  obtain ⟨r, rk, cn⟩ := count_spec (n := n + 6) (k := true) hA (by omega) (by omega)
  have hz : Ln (A ++ [List.replicate size 0]) size 810 := hA.add (Nat.le_refl _) (by simp) fun x hx => by rw [List.eq_of_mem_replicate hx]; exact Nat.zero_le _
  have hd : Ln (A ++ A) size 810 := ⟨fun l hl => hA.w l (by simpa using hl), fun l hl => hA.b l (by simpa using hl)⟩
  refine ⟨r, cn, one hA (by omega) (by omega) rk, one (ln_turn hA) (by omega) (by simp [turned]; omega) rk.turn, ?_, ?_⟩
  · have := one hd (by omega) (by rw [List.length_append]; omega) (K30.Rk.mem rk fun l => by simp)
    rw [show mxD A ++ mxD A = mxD (A ++ A) by unfold mxD; rw [List.map_append]]
    exact this
  · rw [mx_snoc]
    exact one hz (by omega) (by rw [List.length_append]; simp; omega) (rk_zero rk)
end K30
namespace K30
open PySem L2 DL RL PyProof.Rows LA
local macro_rules | `(tactic| k_whileD _ _ _ "ev") => `(tactic| simp only [*, is_non_list, is_non_tuple, is_non_bool, is_non_str, is_non_int, is_non_dict, pl_non, isn_non, is_bl_list, is_bl_tuple, is_bl_bool, is_bl_str, is_bl_int, is_bl_dict, pl_bl, isn_bl, is_int_list, is_int_tuple, is_int_bool, is_int_str, is_int_int, is_int_dict, pl_int, isn_int, is_str_list, is_str_tuple, is_str_bool, is_str_str, is_str_int, is_str_dict, pl_str, isn_str, is_lst_list, is_lst_tuple, is_lst_bool, is_lst_str, is_lst_int, is_lst_dict, pl_lst, isn_lst, is_tup_list, is_tup_tuple, is_tup_bool, is_tup_str, is_tup_int, is_tup_dict, pl_tup, isn_tup, is_dk_list, is_dk_tuple, is_dk_bool, is_dk_str, is_dk_int, is_dk_dict, pl_dk, isn_dk, qv_atN, qv_atL, qv_ixLit, qv_mulL, qv_fdivL, qv_modL, qv_powL, Nat.reduceLT, Nat.reduceLeDiff, Nat.reduceAdd, Nat.zero_add, Nat.add_zero, Int.reduceLT, Int.reduceLE, Int.reducePow, Int.reduceToNat, Int.reduceEq, Int.reduceNeg, Int.reduceAdd, Int.reduceSub, Int.reduceMul, and_self, and_true, true_and, eq_self, not_true_eq_false, not_false_eq_true,
  ob_o, ob_v, ob_n, ob_s, fr_nil, fr_0, fr_s, nt_t, nt_f, iv_cst, iv_bin, iv_neg, iv_no, iv_one, iv_conj, iv_disj, iv_cmp, iv_ite, iv_idx, iv_sl, iv_lst, iv_tup, iv_fn, iv_isi, iv_call, iv_app, iv_ext, iv_pop, iv_rev, iv_count, iv_join, iv_comp, iv_compI, iv_comp2, iv_dk0, bf_int, bf_str, bf_list, bf_tuple, bf_sum, bf_all, bf_any, bf_sorted, bf_lenSet, chk_true,
  b_nil, b_seq, b_set, b_setIx, b_set2, b_aug, b_setTp, b_set2o, b_swp, b_expr, b_ret, b_retN, b_ife, b_for, b_pass, b_brk, b_cont, qv_nx, qv_ct, qv_bk, qv_ret, m_own, m_var, m_any,
  e_cst, e_var, e_bin, e_neg, e_no, e_one, e_conj, e_disj, e_cmp, e_ite, e_idxO, e_idxV, e_idx, e_sl, e_lst, e_tup, e_lenO, e_fnV, e_fnL, e_fn, e_isi, e_call, e_app, e_ext, e_pop, e_ins, e_rev, e_count, e_join, e_comp, e_compI, e_comp2, e_dk0, f_range,
  t_no, t_one, t_conj, t_disj, t_cmp, t_chain, t_var, e_nem, t_nem, qv_truB, qv_truL, qv_truO, qv_nemO, qv_nemV, t_fn, t_isi, t_call, o_nil, o_one, a_nil, a_cons, a_star, s_nil, s_own, s_var, s_cons, w_range, w_range2, w_zip, w_enum, w_one,
  Option.bind_some, Option.bind_none, Option.map_some, List.getElem?_cons_zero, List.getElem?_cons_succ, List.set_cons_zero, List.set_cons_succ, chk_pos, List.length_cons, List.length_nil, List.length_map, List.all_cons, List.all_nil, Bool.and_true, Bool.true_and, Bool.false_and, Bool.and_false, Bool.and_self, Bool.not_false, Bool.not_true,
  qv_int, qv_bl, qv_str, qv_toT, qv_toO, qv_toI, qv_toS, qv_toB, qv_toN, qv_fixV, qv_fixO, qv_datV, qv_datO, qv_add, qv_addI, qv_addS, qv_addL, qv_sub, qv_mulC, qv_mulW, qv_fdivC, qv_fdivW, qv_rep, qv_iat0, qv_iatS, qv_tupS, qv_tup2, qv_se0, qv_seS, List.isEmpty_nil, List.isEmpty_cons, qv_modC, qv_powC, qv_in, qv_nin, qv_is, qv_isnt, qv_eq, qv_ne, qv_eqI, qv_eqS, qv_eqB, qv_lt, qv_le, qv_gt, qv_ge, qv_dle, qv_inS, qv_inL, qv_inT,
  qv_ixL, qv_ixT, qv_ixS, qv_lenL, qv_lenT, qv_lenO, qv_lenS, qv_itO, qv_itL, qv_itT, qv_itL', qv_itT', qv_sqO, qv_sqL, qv_sqT, qv_lsO, qv_lsV, qv_lkO, qv_lkT, qv_lkS, qv_len, qv_intf, qv_strf, qv_list, qv_tupleT, qv_tupleL, qv_tupleO, qv_sum, qv_all, qv_any, qv_sorted, qv_lenSet, qv_slS, qv_slL, qv_slO, qv_wkO, qv_wkL, qv_wkT, qv_wkS, qv_getO0, qv_getOS, qv_varV, qv_varO,
  qv_nvT, qv_nvI, qv_nvS, qv_nvB, qv_nvN, qv_nvO, qv_argV, qv_argO, qv_atp, qv_ixp, qv_isi1, qv_isi2, qv_call, qv_aNil, qv_aCons, qv_aEx, qv_aOwn, qv_aBor, qv_backV, qv_backO, qv_backB, qv_backN, if_true, if_false, Bool.false_eq_true, reduceIte, decide_true, decide_false, Bool.or_true, Bool.true_or, Bool.or_false, Bool.false_or, sc_non, sc_bl, sc_int, sc_str, sc_lst, sc_tup, sc_dk,
  mk_sv, kp_sv, bk_sv, no_sv, x_ext, wp_nil, wp_cons, mk_nil, mk_o, mk_v, mk_n, mg_nil, mg_cons, mg_t, mg_f, kp_v, kp_n, kp_o, bk_same, bk_o, bk_t, bk_f, bk_n, by_nm, by_two, no_nil, no_o, no_v, no_n, rb_v, rb_o, os_nil, os_o, os_v, fin_ret, fin_nx, List.contains_cons, List.contains_nil, Nat.reduceBEq, Nat.reduceEqDiff, List.nodup_cons, List.nodup_nil, varsOf, List.not_mem_nil, List.mem_cons, List.mem_singleton, or_false, false_or, or_true, true_or, decide_eq_true_eq, Tgt.ix, isOwn, List.map_cons, List.map_nil, List.cons_append, List.nil_append])
theorem law_step {n : Nat} {k : Bool} {S : D} {B : Bag} (hB : B.Ok) {a2 a3 a4 a5 a6 a7 a9 : Option (Bool × D)} :
    ∃ (B' : Bag) (b3 b4 b5 b6 b7 b9 : Option (Bool × D)), B'.Ok ∧
      evB (csT tab (n + 7)) [false] cs_law_f0 [some (.v k S), some (.own B.ds), sv a2, sv a3, sv a4, sv a5, sv a6, sv a7, none, sv a9] =
        some (.nx [some (.v k S), some (.own B'.ds), sv a2, sv b3, sv b4, sv b5, sv b6, sv b7, none, sv b9]) := by
  have sz := size_eq
  have m0 : (csT tab (n + 7)).M 0 = [false] := cs_M (T := tab) (f := 0) rfl
  have m4 : (csT tab (n + 7)).M 4 = [true, false] := cs_M (T := tab) (f := 4) rfl
  have m5 : (csT tab (n + 7)).M 5 = [true, false] := cs_M (T := tab) (f := 5) rfl
  have m7 : (csT tab (n + 7)).M 7 = [false, false] := cs_M (T := tab) (f := 7) rfl
  have m10 : (csT tab (n + 7)).M 10 = [true, false, false] := cs_M (T := tab) (f := 10) rfl
  have m11 : (csT tab (n + 7)).M 11 = [false, false] := cs_M (T := tab) (f := 11) rfl
  have m12 : (csT tab (n + 7)).M 12 = [false] := cs_M (T := tab) (f := 12) rfl
  have m13 : (csT tab (n + 7)).M 13 = [true, false] := cs_M (T := tab) (f := 13) rfl
  -- the size
  obtain ⟨s1, l1, l2, p1⟩ := pick_int (B := B) (ns := [2, 3, 4, 1, 3, 5]) (lo := 1) (hi := 5) (by decide) (by decide)
  have o1 := of_spec (n := n + 5) hB (ds := [2, 3, 4, 1, 3, 5].map fun (x : Nat) => D.int (x : Int)) (by decide) (by decide) (k := true)
  have hB1 := next_ok hB (t := (([2, 3, 4, 1, 3, 5].map fun (x : Nat) => D.int (x : Int)).length : Int)) (by decide)
  rw [p1] at o1
  generalize B.next (([2, 3, 4, 1, 3, 5].map fun (x : Nat) => D.int (x : Int)).length : Int) = B1 at *
  clear p1 hB
  obtain ⟨B2, A1, hB2, n1, w1, g1⟩ := numbers_spec (n := n + 3) (many := s1) (size := s1) (k1 := true) (k2 := true) hB1 (by omega) (by omega)
  obtain ⟨B3, hB3, g2⟩ := square_spec (n := n) (k1 := true) hB2 n1 l1 l2 w1
  -- many
  have d3 := draw_spec (n := n + 6) hB3 (t := 7) (by omega) (by omega) (k := true)
  have e3 := digit_lt (B := B3) (t := 7) (by omega)
  have hB4 := next_ok hB3 (t := 7) (by omega)
  generalize B3.next 7 = B4 at *
  obtain ⟨many, hm⟩ : ∃ m : Nat, B3.digit 7 = (m : Int) := ⟨(B3.digit 7).toNat, by omega⟩
  rw [hm] at d3 e3
  obtain ⟨size, l3, l4, p2⟩ := pick_int (B := B4) (ns := [3, 4, 2, 5, 6, 1, 0]) (lo := 0) (hi := 6) (by decide) (by decide)
  have o2 := of_spec (n := n + 5) hB4 (ds := [3, 4, 2, 5, 6, 1, 0].map fun (x : Nat) => D.int (x : Int)) (by decide) (by decide) (k := true)
  have hB5 := next_ok hB4 (t := (([3, 4, 2, 5, 6, 1, 0].map fun (x : Nat) => D.int (x : Int)).length : Int)) (by decide)
  rw [p2] at o2
  generalize B4.next (([3, 4, 2, 5, 6, 1, 0].map fun (x : Nat) => D.int (x : Int)).length : Int) = B5 at *
  clear p2 hm
  obtain ⟨B6, A, hB6, n2, w2, g3⟩ := numbers_spec (n := n + 3) (many := many) (size := size) (k1 := true) (k2 := true) hB5 (by omega) (by omega)
  obtain ⟨r, f1, f2, f3, f4, f5⟩ := items_facts (n := n) w2 n2 (by omega) (by omega)
  have hc := law_comp (n := n + 7) (k := k) (S := S) (B := B6) (A := A) (a2 := a2) (a4 := some (true, .lst (mxD A1))) (a7 := a7) (a9 := a9) (many := (many : Int)) (size := (size : Int))
  have lk := like_spec 0 (n := n + 6) (d := .int (r : Int)) (ok_int _) true true
  have lm := like_spec 2 (n := n + 4) (d := .lst (mxD A)) (ok_mx (by omega) fun l hl => by rw [w2.w l hl]; omega) true true
  have tn := turned_spec (n := n + 6) (A := A) (w := size) (k1 := true) (k2 := true) w2.w (by omega) (by omega)
  refine ⟨B6, some (true, .int (size : Int)), some (true, .lst (mxD A1)), some (true, .int (many : Int)), some (true, .lst (mxD A)), some (true, .lst (mxD A)), some (true, .int (r : Int)), hB6, ?_⟩
  have len : (mxD A).length = many := by rw [mx_len, n2]
  have r1 : (List.replicate size [D.int 0]).flatten = (List.replicate size (0 : Int)).map D.int := by
    rw [List.map_replicate]
    have : ∀ k : Nat, (List.replicate k [D.int 0]).flatten = List.replicate k (D.int 0) := by
      intro k
      induction k with
      | zero => rfl
      | succ k ih => rw [List.replicate_succ, List.flatten_cons, ih, List.replicate_succ]; rfl
    exact this size
  have w3 : ((size : Int)).toNat = size := Int.toNat_natCast _
  have r2 : -(2 ^ 63) ≤ (size : Int) ∧ (size : Int) < 2 ^ 63 ∧ [D.int 0].length * ((size : Int)).toNat ≤ sizeLine := by
    rw [w3]
    exact ⟨by omega, by omega, by rw [List.length_singleton]; omega⟩
  rw [List.length_singleton, w3, show ((2 : Int) ^ 63) = 9223372036854775808 by decide] at r2
  have r3 : 1 ≤ sizeLine := by omega
  have r4 : (mxD A).length + (mxD A).length ≤ sizeLine := by omega
  have r5 : (mxD A).length + 1 ≤ sizeLine := by omega
  have r6 : 6 ≤ sizeLine := by omega
  have r7 : 7 ≤ sizeLine := by omega
  have r8 : (mxD A).length ≤ sizeLine := by omega
  replace o1 : (csT tab (n + 7)).C 5 [.own B.ds, .v true (.lst [.int 2, .int 3, .int 4, .int 1, .int 3, .int 5])] = some (.val (.int (s1 : Int)), [.own B1.ds, .v true (.lst [.int 2, .int 3, .int 4, .int 1, .int 3, .int 5])]) := o1
  replace o2 : (csT tab (n + 7)).C 5 [.own B4.ds, .v true (.lst [.int 3, .int 4, .int 2, .int 5, .int 6, .int 1, .int 0])] = some (.val (.int (size : Int)), [.own B5.ds, .v true (.lst [.int 3, .int 4, .int 2, .int 5, .int 6, .int 1, .int 0])]) := o2
  replace g1 : (csT tab (n + 7)).C 10 _ = _ := g1
  replace g3 : (csT tab (n + 7)).C 10 _ = _ := g3
  replace d3 : (csT tab (n + 7)).C 4 _ = _ := d3
  replace lk : (csT tab (n + 7)).C 7 _ = _ := lk
  replace lm : (csT tab (n + 7)).C 7 _ = _ := lm
  replace tn : (csT tab (n + 7)).C 11 _ = _ := tn
  unfold sv at *
  generalize mxD (turned A size) = TM at *
  generalize mxD A = M at *
  generalize mxD A1 = M1 at *
  have c1 : (¬ (0 : Int) < (many : Int) ∨ (0 : Int) < (many : Int)) := by omega
  have c2 : (¬ (0 : Int) < (size : Int) ∨ (0 : Int) < (size : Int)) := by omega
  clear hB1 hB2 hB3 hB4 hB5 hB6 w1 w2 n1 n2 l1 l2 l3 l4 e3 len sz
  simp only [Option.map_some] at *
  rcases c1 with c1 | c1 <;> rcases c2 with c2 | c2
  all_goals
    unfold cs_law_f0
    k_whileD _ _ _ "ev"
end K30
namespace K30
open PySem L2 DL RL PyProof.Rows LA
local macro_rules | `(tactic| k_whileD _ _ _ "ev") => `(tactic| simp only [*, is_non_list, is_non_tuple, is_non_bool, is_non_str, is_non_int, is_non_dict, pl_non, isn_non, is_bl_list, is_bl_tuple, is_bl_bool, is_bl_str, is_bl_int, is_bl_dict, pl_bl, isn_bl, is_int_list, is_int_tuple, is_int_bool, is_int_str, is_int_int, is_int_dict, pl_int, isn_int, is_str_list, is_str_tuple, is_str_bool, is_str_str, is_str_int, is_str_dict, pl_str, isn_str, is_lst_list, is_lst_tuple, is_lst_bool, is_lst_str, is_lst_int, is_lst_dict, pl_lst, isn_lst, is_tup_list, is_tup_tuple, is_tup_bool, is_tup_str, is_tup_int, is_tup_dict, pl_tup, isn_tup, is_dk_list, is_dk_tuple, is_dk_bool, is_dk_str, is_dk_int, is_dk_dict, pl_dk, isn_dk, qv_atN, qv_atL, qv_ixLit, qv_mulL, qv_fdivL, qv_modL, qv_powL, Nat.reduceLT, Nat.reduceLeDiff, Nat.reduceAdd, Nat.zero_add, Nat.add_zero, Int.reduceLT, Int.reduceLE, Int.reducePow, Int.reduceToNat, Int.reduceEq, Int.reduceNeg, Int.reduceAdd, Int.reduceSub, Int.reduceMul, and_self, and_true, true_and, eq_self, not_true_eq_false, not_false_eq_true,
  ob_o, ob_v, ob_n, ob_s, fr_nil, fr_0, fr_s, nt_t, nt_f, iv_cst, iv_bin, iv_neg, iv_no, iv_one, iv_conj, iv_disj, iv_cmp, iv_ite, iv_idx, iv_sl, iv_lst, iv_tup, iv_fn, iv_isi, iv_call, iv_app, iv_ext, iv_pop, iv_rev, iv_count, iv_join, iv_comp, iv_compI, iv_comp2, iv_dk0, bf_int, bf_str, bf_list, bf_tuple, bf_sum, bf_all, bf_any, bf_sorted, bf_lenSet, chk_true,
  b_nil, b_seq, b_set, b_setIx, b_set2, b_aug, b_setTp, b_set2o, b_swp, b_expr, b_ret, b_retN, b_ife, b_for, b_pass, b_brk, b_cont, qv_nx, qv_ct, qv_bk, qv_ret, m_own, m_var, m_any,
  e_cst, e_var, e_bin, e_neg, e_no, e_one, e_conj, e_disj, e_cmp, e_ite, e_idxO, e_idxV, e_idx, e_sl, e_lst, e_tup, e_lenO, e_fnV, e_fnL, e_fn, e_isi, e_call, e_app, e_ext, e_pop, e_ins, e_rev, e_count, e_join, e_comp, e_compI, e_comp2, e_dk0, f_range,
  t_no, t_one, t_conj, t_disj, t_cmp, t_chain, t_var, e_nem, t_nem, qv_truB, qv_truL, qv_truO, qv_nemO, qv_nemV, t_fn, t_isi, t_call, o_nil, o_one, a_nil, a_cons, a_star, s_nil, s_own, s_var, s_cons, w_range, w_range2, w_zip, w_enum, w_one,
  Option.bind_some, Option.bind_none, Option.map_some, List.getElem?_cons_zero, List.getElem?_cons_succ, List.set_cons_zero, List.set_cons_succ, chk_pos, List.length_cons, List.length_nil, List.length_map, List.all_cons, List.all_nil, Bool.and_true, Bool.true_and, Bool.false_and, Bool.and_false, Bool.and_self, Bool.not_false, Bool.not_true,
  qv_int, qv_bl, qv_str, qv_toT, qv_toO, qv_toI, qv_toS, qv_toB, qv_toN, qv_fixV, qv_fixO, qv_datV, qv_datO, qv_add, qv_addI, qv_addS, qv_addL, qv_sub, qv_mulC, qv_mulW, qv_fdivC, qv_fdivW, qv_rep, qv_iat0, qv_iatS, qv_tupS, qv_tup2, qv_se0, qv_seS, List.isEmpty_nil, List.isEmpty_cons, qv_modC, qv_powC, qv_in, qv_nin, qv_is, qv_isnt, qv_eq, qv_ne, qv_eqI, qv_eqS, qv_eqB, qv_lt, qv_le, qv_gt, qv_ge, qv_dle, qv_inS, qv_inL, qv_inT,
  qv_ixL, qv_ixT, qv_ixS, qv_lenL, qv_lenT, qv_lenO, qv_lenS, qv_itO, qv_itL, qv_itT, qv_itL', qv_itT', qv_sqO, qv_sqL, qv_sqT, qv_lsO, qv_lsV, qv_lkO, qv_lkT, qv_lkS, qv_len, qv_intf, qv_strf, qv_list, qv_tupleT, qv_tupleL, qv_tupleO, qv_sum, qv_all, qv_any, qv_sorted, qv_lenSet, qv_slS, qv_slL, qv_slO, qv_wkO, qv_wkL, qv_wkT, qv_wkS, qv_getO0, qv_getOS, qv_varV, qv_varO,
  qv_nvT, qv_nvI, qv_nvS, qv_nvB, qv_nvN, qv_nvO, qv_argV, qv_argO, qv_atp, qv_ixp, qv_isi1, qv_isi2, qv_call, qv_aNil, qv_aCons, qv_aEx, qv_aOwn, qv_aBor, qv_backV, qv_backO, qv_backB, qv_backN, if_true, if_false, Bool.false_eq_true, reduceIte, decide_true, decide_false, Bool.or_true, Bool.true_or, Bool.or_false, Bool.false_or, sc_non, sc_bl, sc_int, sc_str, sc_lst, sc_tup, sc_dk,
  mk_sv, kp_sv, bk_sv, no_sv, x_ext, wp_nil, wp_cons, mk_nil, mk_o, mk_v, mk_n, mg_nil, mg_cons, mg_t, mg_f, kp_v, kp_n, kp_o, bk_same, bk_o, bk_t, bk_f, bk_n, by_nm, by_two, no_nil, no_o, no_v, no_n, rb_v, rb_o, os_nil, os_o, os_v, fin_ret, fin_nx, List.contains_cons, List.contains_nil, Nat.reduceBEq, Nat.reduceEqDiff, List.nodup_cons, List.nodup_nil, varsOf, List.not_mem_nil, List.mem_cons, List.mem_singleton, or_false, false_or, or_true, true_or, decide_eq_true_eq, Tgt.ix, isOwn, List.map_cons, List.map_nil, List.cons_append, List.nil_append])
theorem law_spec {n : Nat} {k : Bool} {ns : List Int} (h : ns.length ≤ 63) :
    (csT tab (n + 8)).C 14 [.v k (.lst (ns.map .int))] = some (.val (.bl true), [.v k (.lst (ns.map .int))]) := by
  rw [call_eq (T := tab) (f := 14) rfl rfl]
  show (evB (csT tab (n + 7)) [false] cs_law [some (.v k _), none, none, none, none, none, none, none, none, none]).bind _ = _
  have sz := size_eq
  have m0 : (csT tab (n + 7)).M 0 = [false] := cs_M (T := tab) (f := 0) rfl
  have m1 : (csT tab (n + 7)).M 1 = [false] := cs_M (T := tab) (f := 1) rfl
  have m3 : (csT tab (n + 7)).M 3 = [false] := cs_M (T := tab) (f := 3) rfl
  have m7 : (csT tab (n + 7)).M 7 = [false, false] := cs_M (T := tab) (f := 7) rfl
  have bg : (csT tab (n + 7)).C 3 _ = _ := bag_spec (n := n + 6) (k := k) h
  have hE : Ln [] 0 810 := ⟨fun l h => absurd h (by simp), fun l h => absurd h (by simp)⟩
  have dt1 := deter_spec (n := n + 5) (k := true) (b := false) (R := []) (A := []) rfl hE (by omega) rfl
  have dt2 := deter_spec (n := n + 5) (k := true) (b := true) (R := []) (A := []) rfl hE (by omega) rfl
  obtain ⟨r1, v1, k1, -, -, ip1⟩ := indep_spec (n := n + 5) (k := true) (b := false) (R := []) (A := []) rfl hE (by omega) (by decide)
  obtain ⟨r2, v2, k2, -, -, ip2⟩ := indep_spec (n := n + 5) (k := true) (b := true) (R := []) (A := []) rfl hE (by omega) (by decide)
  have z : ∀ {r : Nat}, Rk [] 0 r → r = 0 := fun {r} q => by
    obtain ⟨xs, cs, hx, hc, _, hb, _⟩ := q.1
    cases cs with
    | nil => exact hc.symm
    | cons c t => exact absurd (hb c (.head _)) (Nat.not_lt_zero _)
  obtain rfl := z k1
  obtain rfl := z k2
  have lp : lap 0 [] = 1 := by decide
  rw [lp] at dt1 dt2
  have lk : (csT tab (n + 7)).C 7 _ = _ := like_spec 1 (n := n + 5) (d := .lst [.int 1, .int 0, .int 0, .int 1]) (by refine ⟨by show 4 ≤ _; omega, fun d hd => ?_⟩; simp only [List.mem_cons, List.not_mem_nil, or_false] at hd; rcases hd with e | e | e | e <;> (rw [e]; exact ok_int _)) true true
  replace dt1 : (csT tab (n + 7)).C 1 [.v true (.lst [])] = some (.val (.int 1), [.v true (.lst [])]) := dt1
  replace dt2 : (csT tab (n + 7)).C 1 [.v true (.tup [])] = some (.val (.int 1), [.v true (.tup [])]) := dt2
  replace ip1 : (csT tab (n + 7)).C 0 [.v true (.lst [])] = some (.val (.int 0), [.v true (.lst [])]) := ip1
  replace ip2 : (csT tab (n + 7)).C 0 [.v true (.tup [])] = some (.val (.int 0), [.v true (.tup [])]) := ip2
  have hB := bag0_ok ns
  generalize bag0 ns = B at *
  have sS : isSc (D.lst (ns.map .int)) = false := rfl
  generalize D.lst (ns.map .int) = S at *
  obtain ⟨ρ', g1, B2, b2, b3, b4, b5, b6, b7, b9, hB2, rfl⟩ := forL_ind (f := forF (csT tab (n + 7)) [false] (.nm 2) (fun t => .one (.val (.int (t : Int)))) cs_law_f0)
    (fun t ρ => ∃ (B' : Bag) (b2 b3 b4 b5 b6 b7 b9 : Option (Bool × D)), B'.Ok ∧ ρ = [some (.v k S), some (.own B'.ds), sv b2, sv b3, sv b4, sv b5, sv b6, sv b7, none, sv b9]) (m := 2) (s := 0) (ρ := [some (.v k S), some (.own B.ds), none, none, none, none, none, none, none, none]) ⟨B, none, none, none, none, none, none, none, hB, rfl⟩ fun t ρ _ ht ⟨B', b2, b3, b4, b5, b6, b7, b9, hB', hj⟩ => by
      subst hj
      obtain ⟨B2, c3, c4, c5, c6, c7, c9, h1, h4⟩ := law_step (n := n) (k := k) (S := S) hB' (a2 := some (true, .int (t : Int))) (a3 := b3) (a4 := b4) (a5 := b5) (a6 := b6) (a7 := b7) (a9 := b9)
      refine ⟨_, ?_, B2, some (true, .int (t : Int)), c3, c4, c5, c6, c7, c9, h1, rfl⟩
      exact h4
  have w2 : (-4611686018427387904 : Int) ≤ 2 ∧ (2 : Int) < 4611686018427387904 := by omega
  have s0 : 0 ≤ sizeLine := Nat.zero_le _
  have s1 : 1 ≤ sizeLine := by omega
  have s4 : 4 ≤ sizeLine := by omega
  clear hB hB2 hE k1 k2 sz lp z h
  unfold sv at *
  unfold cs_law
  k_whileD _ _ _ "ev"
end K30
namespace K30
open PySem PySem.Spec L2 DL RL PyProof.Rows
theorem fun_of {K : PySem.W.Frag} {x qual : Str} {st : Stmt} {f : Addr} {fd : FuncData} (F : FunD K x qual (defArgs st) (defBody st) (defScope st) [] [] f fd) : Fun K x qual st f fd := by
  obtain ⟨oc, od, dV, kV, doc, pm, an, cdv, ct, osl, h1, h2, h3, h4, _⟩ := F.ex
  rcases h4 with ⟨_, rfl⟩ | ⟨h4, _⟩
  · exact ⟨⟨oc, od, kV, doc, pm, an, cdv, ct, osl, h1, h2, h3⟩, F.kp⟩
  · exact absurd rfl h4
/-- how a def's arguments bind, looked at -/
structure BindB (x qual : Str) (st : Stmt) (ps : List Str) : Prop where
  p : ∀ (kV doc pm : Value) (an : Option Addr) (cdv ct : Value) (us : List Value), us.length = ps.length → bindArgs (PySem.W.fnOf x qual (defArgs st) (defBody st) (defScope st) .none kV doc pm an cdv ct) ⟨us, []⟩ = pure (ps.zip us)
  k : ∀ (kV doc pm : Value) (an : Option Addr) (cdv ct : Value) (us : List Value), us.length = ps.length → bindArgs (PySem.W.fnOf x qual (defArgs st) (defBody st) (defScope st) .none kV doc pm an cdv ct) ⟨[], ps.zip us⟩ = pure (ps.zip us)
theorem kb0_of {K : PySem.W.Frag} {x qual : Str} {st : Stmt} {f : Addr} {fd : FuncData} {ps : List Str} (F : Fun K x qual st f fd) (b : BindB x qual st ps) : KB0 K fd ps := by
  obtain ⟨oc, od, kV, doc, pm, an, cdv, ct, osl, rfl, lk, hcd⟩ := F.ex
  exact ⟨fun s ws _ hl => .of_eq (b.k kV doc pm an cdv ct ws hl)⟩
theorem defAt_of {K : PySem.W.Frag} {mg : Str → Option Value} {x : Str} {st : Stmt} {ps : List Str} {f : Addr} {fd : FuncData} (F : FunD K x x (defArgs st) (defBody st) (defScope st) [] [] f fd) (hm : mg x = some (.ref f)) (b : BindB x x st ps) : DefAt K mg x st ps :=
  ⟨f, fd, fun_of F, hm, F.kp, (fun_of F).binds b.p, kb0_of (fun_of F) b⟩
def dOf (i : Nat) (x : Str) : He.DefD := ⟨(x, none), x, x, defArgs (top i), defBody (top i), defScope (top i), [], []⟩
def fnL : List He.DefD := [dOf 1 "independent_rows", dOf 2 "determinant", dOf 3 "_eliminated", dOf 5 "_law_bag", dOf 6 "_law_draw", dOf 7 "_law_of", dOf 8 "_law_mixed", dOf 9 "_law_like", dOf 10 "_law_det", dOf 11 "_law_number", dOf 12 "_law_numbers", dOf 13 "_law_turned", dOf 14 "_law_count", dOf 15 "_law_square_so", dOf 16 "law"]
def gnL : List Str := ["independent_rows", "determinant", "_eliminated", "_law_bag", "_law_draw", "_law_of", "_law_mixed", "_law_like", "_law_det", "_law_number", "_law_numbers", "_law_turned", "_law_count", "_law_square_so", "law"]
def faL : List He.Fa := gnL.map He.Fa.glo ++ bltN.map He.Fa.free
/-- no list among the module's objects -/
def noLst (K : PySem.W.Frag) : Bool := K.all fun q => match q.2.cls with
  | .type c => !(c == "list")
  | _ => true
abbrev hk : PySem.W.Hook := He.hookX 5 faL fnL [] [] noLst
def ob (s : PySem.W.SharedT) : He.AlX := He.obsX 5 faL fnL [] [] noLst (HandSHeadRun.getT s)
theorem ob_eq (s : PySem.W.SharedT) : ob s = hk.obs s.abs := He.obsX_eq (HandSHeadRun.getT_eq s)
abbrev Rw : PySem.W.OpenRow := PySem.W.OpenLaw.row PySem.Challenge.rw_nearseats_k30_determinants_and_ranks
def loose : List Str := ["independent_rows", "determinant", "_eliminated", "_law_bag", "_law_draw", "_law_of", "_law_mixed", "_law_like", "_law_det", "_law_number", "_law_numbers", "_law_turned", "_law_count", "_law_square_so"]
theorem run (w : World) : HandSHeadRun.RunEq Rw (PySem.W.view Rw.prog [16]) hk ob 2000 loose w := by
  intro os
  kernel_rfl
end K30
namespace K30
open PySem PySem.Spec L2 DL RL PyProof.Rows
theorem bd1 : BindB "independent_rows" "independent_rows" (top 1) ["rows"] := ⟨fun _ _ _ _ _ _ us hl => match us, hl with | [_], _ => rfl, fun _ _ _ _ _ _ us hl => match us, hl with | [_], _ => rfl⟩
theorem fS1 : FnScope ["rows"] ["rows"] (defScope (top 1)) := ⟨rfl, rfl, rfl, by decide +kernel, rfl, by decide +kernel, by decide +kernel⟩
theorem bd2 : BindB "determinant" "determinant" (top 2) ["rows"] := ⟨fun _ _ _ _ _ _ us hl => match us, hl with | [_], _ => rfl, fun _ _ _ _ _ _ us hl => match us, hl with | [_], _ => rfl⟩
theorem fS2 : FnScope ["rows", "many", "last"] ["rows"] (defScope (top 2)) := ⟨rfl, rfl, rfl, by decide +kernel, rfl, by decide +kernel, by decide +kernel⟩
theorem bd3 : BindB "_eliminated" "_eliminated" (top 3) ["rows"] := ⟨fun _ _ _ _ _ _ us hl => match us, hl with | [_], _ => rfl, fun _ _ _ _ _ _ us hl => match us, hl with | [_], _ => rfl⟩
theorem fS3 : FnScope ["rows", "left", "done", "pivot", "sign", "at", "found", "k", "top", "item", "other"] ["rows"] (defScope (top 3)) := ⟨rfl, rfl, rfl, by decide +kernel, rfl, by decide +kernel, by decide +kernel⟩
theorem bd5 : BindB "_law_bag" "_law_bag" (top 5) ["script"] := ⟨fun _ _ _ _ _ _ us hl => match us, hl with | [_], _ => rfl, fun _ _ _ _ _ _ us hl => match us, hl with | [_], _ => rfl⟩
theorem fS5 : FnScope ["script", "mix", "cell"] ["script"] (defScope (top 5)) := ⟨rfl, rfl, rfl, by decide +kernel, rfl, by decide +kernel, by decide +kernel⟩
theorem bd6 : BindB "_law_draw" "_law_draw" (top 6) ["bag", "size"] := ⟨fun _ _ _ _ _ _ us hl => match us, hl with | [_, _], _ => rfl, fun _ _ _ _ _ _ us hl => match us, hl with | [_, _], _ => rfl⟩
theorem fS6 : FnScope ["bag", "size", "cell", "digit"] ["bag", "size"] (defScope (top 6)) := ⟨rfl, rfl, rfl, by decide +kernel, rfl, by decide +kernel, by decide +kernel⟩
theorem bd7 : BindB "_law_of" "_law_of" (top 7) ["bag", "things"] := ⟨fun _ _ _ _ _ _ us hl => match us, hl with | [_, _], _ => rfl, fun _ _ _ _ _ _ us hl => match us, hl with | [_, _], _ => rfl⟩
theorem fS7 : FnScope ["bag", "things"] ["bag", "things"] (defScope (top 7)) := ⟨rfl, rfl, rfl, by decide +kernel, rfl, by decide +kernel, by decide +kernel⟩
theorem bd8 : BindB "_law_mixed" "_law_mixed" (top 8) ["bag", "things"] := ⟨fun _ _ _ _ _ _ us hl => match us, hl with | [_, _], _ => rfl, fun _ _ _ _ _ _ us hl => match us, hl with | [_, _], _ => rfl⟩
theorem fS8 : FnScope ["bag", "things", "found", "thing"] ["bag", "things"] (defScope (top 8)) := ⟨rfl, rfl, rfl, by decide +kernel, rfl, by decide +kernel, by decide +kernel⟩
theorem bd9 : BindB "_law_like" "_law_like" (top 9) ["told", "due"] := ⟨fun _ _ _ _ _ _ us hl => match us, hl with | [_, _], _ => rfl, fun _ _ _ _ _ _ us hl => match us, hl with | [_, _], _ => rfl⟩
theorem fS9 : FnScope ["told", "due", "a", "b"] ["told", "due"] (defScope (top 9)) := ⟨rfl, rfl, rfl, by decide +kernel, rfl, by decide +kernel, by decide +kernel⟩
theorem bd10 : BindB "_law_det" "_law_det" (top 10) ["square"] := ⟨fun _ _ _ _ _ _ us hl => match us, hl with | [_], _ => rfl, fun _ _ _ _ _ _ us hl => match us, hl with | [_], _ => rfl⟩
theorem fS10 : FnScope ["square", "total", "k", "line"] ["square"] (defScope (top 10)) := ⟨rfl, rfl, rfl, by decide +kernel, rfl, by decide +kernel, by decide +kernel⟩
theorem bd11 : BindB "_law_number" "_law_number" (top 11) ["bag", "great"] := ⟨fun _ _ _ _ _ _ us hl => match us, hl with | [_, _], _ => rfl, fun _ _ _ _ _ _ us hl => match us, hl with | [_, _], _ => rfl⟩
theorem fS11 : FnScope ["bag", "great", "way", "item"] ["bag", "great"] (defScope (top 11)) := ⟨rfl, rfl, rfl, by decide +kernel, rfl, by decide +kernel, by decide +kernel⟩
theorem bd12 : BindB "_law_numbers" "_law_numbers" (top 12) ["bag", "many", "size"] := ⟨fun _ _ _ _ _ _ us hl => match us, hl with | [_, _, _], _ => rfl, fun _ _ _ _ _ _ us hl => match us, hl with | [_, _, _], _ => rfl⟩
theorem fS12 : FnScope ["bag", "many", "size", "great", "found", "k", "way", "left", "right", "x", "y", "a", "b", "t", "at", "some"] ["bag", "many", "size"] (defScope (top 12)) := ⟨rfl, rfl, rfl, by decide +kernel, rfl, by decide +kernel, by decide +kernel⟩
theorem bd13 : BindB "_law_turned" "_law_turned" (top 13) ["items", "size"] := ⟨fun _ _ _ _ _ _ us hl => match us, hl with | [_, _], _ => rfl, fun _ _ _ _ _ _ us hl => match us, hl with | [_, _], _ => rfl⟩
theorem fS13 : FnScope ["items", "size", "some", "t"] ["items", "size"] (defScope (top 13)) := ⟨rfl, rfl, rfl, by decide +kernel, rfl, by decide +kernel, by decide +kernel⟩
theorem bd14 : BindB "_law_count" "_law_count" (top 14) ["items"] := ⟨fun _ _ _ _ _ _ us hl => match us, hl with | [_], _ => rfl, fun _ _ _ _ _ _ us hl => match us, hl with | [_], _ => rfl⟩
theorem fS14 : FnScope ["items", "left", "found", "some", "t", "at", "k", "a", "b", "x", "y"] ["items"] (defScope (top 14)) := ⟨rfl, rfl, rfl, by decide +kernel, rfl, by decide +kernel, by decide +kernel⟩
theorem bd15 : BindB "_law_square_so" "_law_square_so" (top 15) ["bag", "square"] := ⟨fun _ _ _ _ _ _ us hl => match us, hl with | [_, _], _ => rfl, fun _ _ _ _ _ _ us hl => match us, hl with | [_, _], _ => rfl⟩
theorem fS15 : FnScope ["bag", "square", "size", "due", "handed", "some", "a", "b", "full"] ["bag", "square"] (defScope (top 15)) := ⟨rfl, rfl, rfl, by decide +kernel, rfl, by decide +kernel, by decide +kernel⟩
theorem bd16 : BindB "law" "law" (top 16) ["script"] := ⟨fun _ _ _ _ _ _ us hl => match us, hl with | [_], _ => rfl, fun _ _ _ _ _ _ us hl => match us, hl with | [_], _ => rfl⟩
theorem fS16 : FnScope ["script", "bag", "lap", "size", "square", "many", "items", "handed", "some", "due"] ["script"] (defScope (top 16)) := ⟨rfl, rfl, rfl, by decide +kernel, rfl, by decide +kernel, by decide +kernel⟩
noncomputable def tD (n : Nat) : De := tab.getD n ⟨"", [], [], top 0, [], [], .nil, none⟩
theorem cm1 : cBlk (compS (tD 0).mu 60 (gaOf tab cst0 cls0 (tD 0))) (defBody (top 1)) = some cs_independent_rows := by kernel_rfl
theorem cm2 : cBlk (compS (tD 1).mu 60 (gaOf tab cst0 cls0 (tD 1))) (defBody (top 2)) = some cs_determinant := by kernel_rfl
theorem cm3 : cBlk (compS (tD 2).mu 60 (gaOf tab cst0 cls0 (tD 2))) (defBody (top 3)) = some cs__eliminated := by kernel_rfl
theorem cm5 : cBlk (compS (tD 3).mu 60 (gaOf tab cst0 cls0 (tD 3))) (defBody (top 5)) = some cs__law_bag := by kernel_rfl
theorem cm6 : cBlk (compS (tD 4).mu 60 (gaOf tab cst0 cls0 (tD 4))) (defBody (top 6)) = some cs__law_draw := by kernel_rfl
theorem cm7 : cBlk (compS (tD 5).mu 60 (gaOf tab cst0 cls0 (tD 5))) (defBody (top 7)) = some cs__law_of := by kernel_rfl
theorem cm8 : cBlk (compS (tD 6).mu 60 (gaOf tab cst0 cls0 (tD 6))) (defBody (top 8)) = some cs__law_mixed := by kernel_rfl
theorem cm9 : cBlk (compS (tD 7).mu 60 (gaOf tab cst0 cls0 (tD 7))) (defBody (top 9)) = some cs__law_like := by kernel_rfl
theorem cm10 : cBlk (compS (tD 8).mu 60 (gaOf tab cst0 cls0 (tD 8))) (defBody (top 10)) = some cs__law_det := by kernel_rfl
theorem cm11 : cBlk (compS (tD 9).mu 60 (gaOf tab cst0 cls0 (tD 9))) (defBody (top 11)) = some cs__law_number := by kernel_rfl
theorem cm12 : cBlk (compS (tD 10).mu 60 (gaOf tab cst0 cls0 (tD 10))) (defBody (top 12)) = some cs__law_numbers := by kernel_rfl
theorem cm13 : cBlk (compS (tD 11).mu 60 (gaOf tab cst0 cls0 (tD 11))) (defBody (top 13)) = some cs__law_turned := by kernel_rfl
theorem cm14 : cBlk (compS (tD 12).mu 60 (gaOf tab cst0 cls0 (tD 12))) (defBody (top 14)) = some cs__law_count := by kernel_rfl
theorem cm15 : cBlk (compS (tD 13).mu 60 (gaOf tab cst0 cls0 (tD 13))) (defBody (top 15)) = some cs__law_square_so := by kernel_rfl
theorem cm16 : cBlk (compS (tD 14).mu 60 (gaOf tab cst0 cls0 (tD 14))) (defBody (top 16)) = some cs_law := by kernel_rfl
structure Facts (K : PySem.W.Frag) (mg : Str → Option Value) : Prop where
  glo : ∀ x ∈ gnL, mg x = some (.ref (He.ga K x))
  blt : ∀ n ∈ bltN, mg n = none
  fn : ∀ d ∈ fnL, ∃ fd, FunD K d.name d.qual d.params d.body d.scope (d.dvs K) (d.kws K) (He.fAd K d.at_) fd
  nl : noLst K = true
theorem facts_of {K : PySem.W.Frag} {h : Heap} {w : World} {mg : Str → Option Value} (X : K.In h) (G : h.Ns mainGlobals mg) (c : He.SaysX faL fnL [] [] noLst w h K) : Facts K mg := by
  have d := c.t.d
  have g : ∀ x ∈ gnL, (He.Fa.glo x).ok K = true := fun x hx => d.facts (List.mem_append.mpr (.inl (List.mem_map.mpr ⟨x, hx, rfl⟩)))
  have b : ∀ x ∈ bltN, (He.Fa.free x).ok K = true := fun x hx => d.facts (List.mem_append.mpr (.inr (List.mem_map.mpr ⟨x, hx, rfl⟩)))
  exact ⟨fun x hx => He.glo_ok X G (g x hx), fun x hx => He.free_ok X G (b x hx), fun x hx => d.defs hx, c.more⟩
section
variable {K : PySem.W.Frag} {mg : Str → Option Value} (Φ : Facts K mg)
include Φ
theorem th1 : DefAt K mg "independent_rows" (top 1) ["rows"] := by
  obtain ⟨fd, F⟩ := Φ.fn (dOf 1 "independent_rows") (.head _)
  exact defAt_of F (Φ.glo "independent_rows" (.head _)) bd1
theorem th2 : DefAt K mg "determinant" (top 2) ["rows"] := by
  obtain ⟨fd, F⟩ := Φ.fn (dOf 2 "determinant") (.tail _ (.head _))
  exact defAt_of F (Φ.glo "determinant" (.tail _ (.head _))) bd2
theorem th3 : DefAt K mg "_eliminated" (top 3) ["rows"] := by
  obtain ⟨fd, F⟩ := Φ.fn (dOf 3 "_eliminated") (.tail _ (.tail _ (.head _)))
  exact defAt_of F (Φ.glo "_eliminated" (.tail _ (.tail _ (.head _)))) bd3
theorem th5 : DefAt K mg "_law_bag" (top 5) ["script"] := by
  obtain ⟨fd, F⟩ := Φ.fn (dOf 5 "_law_bag") (.tail _ (.tail _ (.tail _ (.head _))))
  exact defAt_of F (Φ.glo "_law_bag" (.tail _ (.tail _ (.tail _ (.head _))))) bd5
theorem th6 : DefAt K mg "_law_draw" (top 6) ["bag", "size"] := by
  obtain ⟨fd, F⟩ := Φ.fn (dOf 6 "_law_draw") (.tail _ (.tail _ (.tail _ (.tail _ (.head _)))))
  exact defAt_of F (Φ.glo "_law_draw" (.tail _ (.tail _ (.tail _ (.tail _ (.head _)))))) bd6
theorem th7 : DefAt K mg "_law_of" (top 7) ["bag", "things"] := by
  obtain ⟨fd, F⟩ := Φ.fn (dOf 7 "_law_of") (.tail _ (.tail _ (.tail _ (.tail _ (.tail _ (.head _))))))
  exact defAt_of F (Φ.glo "_law_of" (.tail _ (.tail _ (.tail _ (.tail _ (.tail _ (.head _))))))) bd7
theorem th8 : DefAt K mg "_law_mixed" (top 8) ["bag", "things"] := by
  obtain ⟨fd, F⟩ := Φ.fn (dOf 8 "_law_mixed") (.tail _ (.tail _ (.tail _ (.tail _ (.tail _ (.tail _ (.head _)))))))
  exact defAt_of F (Φ.glo "_law_mixed" (.tail _ (.tail _ (.tail _ (.tail _ (.tail _ (.tail _ (.head _)))))))) bd8
theorem th9 : DefAt K mg "_law_like" (top 9) ["told", "due"] := by
  obtain ⟨fd, F⟩ := Φ.fn (dOf 9 "_law_like") (.tail _ (.tail _ (.tail _ (.tail _ (.tail _ (.tail _ (.tail _ (.head _))))))))
  exact defAt_of F (Φ.glo "_law_like" (.tail _ (.tail _ (.tail _ (.tail _ (.tail _ (.tail _ (.tail _ (.head _))))))))) bd9
theorem th10 : DefAt K mg "_law_det" (top 10) ["square"] := by
  obtain ⟨fd, F⟩ := Φ.fn (dOf 10 "_law_det") (.tail _ (.tail _ (.tail _ (.tail _ (.tail _ (.tail _ (.tail _ (.tail _ (.head _)))))))))
  exact defAt_of F (Φ.glo "_law_det" (.tail _ (.tail _ (.tail _ (.tail _ (.tail _ (.tail _ (.tail _ (.tail _ (.head _)))))))))) bd10
theorem th11 : DefAt K mg "_law_number" (top 11) ["bag", "great"] := by
  obtain ⟨fd, F⟩ := Φ.fn (dOf 11 "_law_number") (.tail _ (.tail _ (.tail _ (.tail _ (.tail _ (.tail _ (.tail _ (.tail _ (.tail _ (.head _))))))))))
  exact defAt_of F (Φ.glo "_law_number" (.tail _ (.tail _ (.tail _ (.tail _ (.tail _ (.tail _ (.tail _ (.tail _ (.tail _ (.head _))))))))))) bd11
theorem th12 : DefAt K mg "_law_numbers" (top 12) ["bag", "many", "size"] := by
  obtain ⟨fd, F⟩ := Φ.fn (dOf 12 "_law_numbers") (.tail _ (.tail _ (.tail _ (.tail _ (.tail _ (.tail _ (.tail _ (.tail _ (.tail _ (.tail _ (.head _)))))))))))
  exact defAt_of F (Φ.glo "_law_numbers" (.tail _ (.tail _ (.tail _ (.tail _ (.tail _ (.tail _ (.tail _ (.tail _ (.tail _ (.tail _ (.head _)))))))))))) bd12
theorem th13 : DefAt K mg "_law_turned" (top 13) ["items", "size"] := by
  obtain ⟨fd, F⟩ := Φ.fn (dOf 13 "_law_turned") (.tail _ (.tail _ (.tail _ (.tail _ (.tail _ (.tail _ (.tail _ (.tail _ (.tail _ (.tail _ (.tail _ (.head _))))))))))))
  exact defAt_of F (Φ.glo "_law_turned" (.tail _ (.tail _ (.tail _ (.tail _ (.tail _ (.tail _ (.tail _ (.tail _ (.tail _ (.tail _ (.tail _ (.head _))))))))))))) bd13
theorem th14 : DefAt K mg "_law_count" (top 14) ["items"] := by
  obtain ⟨fd, F⟩ := Φ.fn (dOf 14 "_law_count") (.tail _ (.tail _ (.tail _ (.tail _ (.tail _ (.tail _ (.tail _ (.tail _ (.tail _ (.tail _ (.tail _ (.tail _ (.head _)))))))))))))
  exact defAt_of F (Φ.glo "_law_count" (.tail _ (.tail _ (.tail _ (.tail _ (.tail _ (.tail _ (.tail _ (.tail _ (.tail _ (.tail _ (.tail _ (.tail _ (.head _)))))))))))))) bd14
theorem th15 : DefAt K mg "_law_square_so" (top 15) ["bag", "square"] := by
  obtain ⟨fd, F⟩ := Φ.fn (dOf 15 "_law_square_so") (.tail _ (.tail _ (.tail _ (.tail _ (.tail _ (.tail _ (.tail _ (.tail _ (.tail _ (.tail _ (.tail _ (.tail _ (.tail _ (.head _))))))))))))))
  exact defAt_of F (Φ.glo "_law_square_so" (.tail _ (.tail _ (.tail _ (.tail _ (.tail _ (.tail _ (.tail _ (.tail _ (.tail _ (.tail _ (.tail _ (.tail _ (.tail _ (.head _))))))))))))))) bd15
theorem th16 : DefAt K mg "law" (top 16) ["script"] := by
  obtain ⟨fd, F⟩ := Φ.fn (dOf 16 "law") (.tail _ (.tail _ (.tail _ (.tail _ (.tail _ (.tail _ (.tail _ (.tail _ (.tail _ (.tail _ (.tail _ (.tail _ (.tail _ (.tail _ (.head _)))))))))))))))
  exact defAt_of F (Φ.glo "law" (.tail _ (.tail _ (.tail _ (.tail _ (.tail _ (.tail _ (.tail _ (.tail _ (.tail _ (.tail _ (.tail _ (.tail _ (.tail _ (.tail _ (.head _)))))))))))))))) bd16
theorem tabOk {P : Program} {w : World} {base : Heap} : TabOk ⟨P, w, K, mg, base⟩ tab cst0 cls0 := by
  refine ⟨⟨Φ.blt⟩, fun x d h => absurd (show (none : Option D) = some d from h) (by simp), ?_, ?_, ?_, ?_⟩
  · intro d hd
    simp only [tab, List.mem_cons, List.mem_nil_iff, or_false] at hd
    rcases hd with rfl | rfl | rfl | rfl | rfl | rfl | rfl | rfl | rfl | rfl | rfl | rfl | rfl | rfl | rfl
    · exact th1 Φ
    · exact th2 Φ
    · exact th3 Φ
    · exact th5 Φ
    · exact th6 Φ
    · exact th7 Φ
    · exact th8 Φ
    · exact th9 Φ
    · exact th10 Φ
    · exact th11 Φ
    · exact th12 Φ
    · exact th13 Φ
    · exact th14 Φ
    · exact th15 Φ
    · exact th16 Φ
  · intro d hd
    simp only [tab, List.mem_cons, List.mem_nil_iff, or_false] at hd
    rcases hd with rfl | rfl | rfl | rfl | rfl | rfl | rfl | rfl | rfl | rfl | rfl | rfl | rfl | rfl | rfl
    · exact fS1
    · exact fS2
    · exact fS3
    · exact fS5
    · exact fS6
    · exact fS7
    · exact fS8
    · exact fS9
    · exact fS10
    · exact fS11
    · exact fS12
    · exact fS13
    · exact fS14
    · exact fS15
    · exact fS16
  · intro d hd
    simp only [tab, List.mem_cons, List.mem_nil_iff, or_false] at hd
    rcases hd with rfl | rfl | rfl | rfl | rfl | rfl | rfl | rfl | rfl | rfl | rfl | rfl | rfl | rfl | rfl
    · exact fun _ => cm1
    · exact fun _ => cm2
    · exact fun _ => cm3
    · exact fun _ => cm5
    · exact fun _ => cm6
    · exact fun _ => cm7
    · exact fun _ => cm8
    · exact fun _ => cm9
    · exact fun _ => cm10
    · exact fun _ => cm11
    · exact fun _ => cm12
    · exact fun _ => cm13
    · exact fun _ => cm14
    · exact fun _ => cm15
    · exact fun _ => cm16
  · intro d hd
    simp only [tab, List.mem_cons, List.mem_nil_iff, or_false] at hd
    rcases hd with rfl | rfl | rfl | rfl | rfl | rfl | rfl | rfl | rfl | rfl | rfl | rfl | rfl | rfl | rfl
    · intro h q; cases q
    · intro h q; cases q
    · intro h q; cases q
    · intro h q; cases q
    · intro h q; cases q
    · intro h q; cases q
    · intro h q; cases q
    · intro h q; cases q
    · intro h q; cases q
    · intro h q; cases q
    · intro h q; cases q
    · intro h q; cases q
    · intro h q; cases q
    · intro h q; cases q
    · intro h q; cases q
end
end K30
namespace K30
open PySem PySem.Spec L2 DL RL PyProof.Rows
/-- a table's def, its function known -/
theorem fn_at {M : Mo} {T : List De} {cst : Str → Option DL.D} {cls : Str → Option Nat} (H : TabOk M T cst cls) {n i : Nat} {d : De} {f : Addr} {fd : FuncData} (hi : T[i]? = some d) (hsp : d.sp = none) (Fu : Fun M.K d.name d.name d.st f fd) {args outs : List Slot} {r : Slot} (h : (csT T (n + 1)).C i args = some (r, outs)) :
    FnOk M.P M.w M.K M.mg M.base CX0 (n + 1) f fd d.ps (spD M.K args r outs) := by
  have hd : d ∈ T := List.mem_of_getElem? hi
  obtain ⟨d', h1, h⟩ := bind_some' (show ((T[i]?).bind fun d => stepD T n (callP T n).1 (callP T n).2 d args) = some (r, outs) from h)
  rw [hi] at h1
  cases h1
  rw [step_none hsp] at h
  have ih := callT_ok H n
  have h : runD (csT T n) d args = some (r, outs) := h
  unfold runD at h
  obtain ⟨h2, h⟩ := chk_some h
  obtain ⟨o, h3, h⟩ := bind_some' h
  have key : ∃ (hr : ResOk r) (ho : OwnTo outs args), EndP args r outs o := by
    cases o with
    | ret r' ρ' =>
      obtain ⟨h4, h⟩ := chk_some h
      obtain ⟨os, h5, h⟩ := bind_some' h
      cases h
      obtain ⟨k1, k2⟩ := outs_own h5
      exact ⟨res_ok h4, k1, rfl, k2⟩
    | nx ρ' =>
      obtain ⟨os, h5, h⟩ := bind_some' h
      cases h
      obtain ⟨k1, k2⟩ := outs_own h5
      exact ⟨.val, k1, rfl, k2⟩
    | bk _ => cases h
    | ct _ => cases h
  obtain ⟨hres, hown, hend⟩ := key
  have S := H.scope d hd
  refine fnD Fu S h2 hown fun cdv A outer s H' F0 vs E hroom => ?_
  have ox : OkT M (tabOf T) (gaOf T cst cls d) n (cxOf CX0 M.P M.w M.K M.mg M.base d.N d.name (defScope d.st) f cdv A outer s H' E).nox :=
    { m := H.m, prog := rfl, w := rfl, K := rfl, mg := rfl, base := rfl, N := rfl, sc := rfl, calm := rfl, nd := S.nd, room := hroom, fn := fun _ _ => rfl, fns := fun _ _ _ h => fnsOf_ok h, fnc := fun _ _ => rfl, cst := H.kst, top := rfl, pass := PassesOwn.never, bk := by
        show PySem.Env.blockKind _ = _
        unfold PySem.Env.blockKind
        have : (defScope d.st).kind = .function := S.kind
        show (if (defScope d.st).kind.isAnnotationScope = true then _ else (defScope d.st).kind) = _
        rw [this]; rfl }
  refine blk_ok (fun st a h => stm_ok d.mu 60 _ st a h) (H.comp d hd hsp) _ n _ (csT T n) (args.map isOwn) _ o _ ox ih ?_ h3 hend
  intro i hi e
  have e : (args.map isOwn)[i]? = some true := e
  unfold frB at hi
  rw [List.getD_eq_getElem?_getD, e] at hi
  cases hi
/-- what the law promises: a script of integers, True -/
def spL (K : PySem.W.Frag) : Sp := fun vs H Q E => ∃ ns : List Int, ns.length ≤ 63 ∧ spD K [.v true (.lst (ns.map .int))] (.val (.bl true)) [.v true (.lst (ns.map .int))] vs H Q E
theorem law_ok {P : Program} {w : World} {K : PySem.W.Frag} {mg : Str → Option Value} {base : Heap} {fd : FuncData} (Φ : Facts K mg) (Fu : Fun K "law" "law" (top 16) (He.ga K "law") fd) : FnOk P w K mg base CX0 8 (He.ga K "law") fd ["script"] (spL K) := by
  have one := fun (ns : List Int) (h : ns.length ≤ 63) => fn_at (M := ⟨P, w, K, mg, base⟩) (tabOk Φ) (n := 7) (i := 14) (d := tD 14) rfl rfl Fu (law_spec (n := 0) (k := true) h)
  exact ⟨fun vs H Q E ⟨ns, h, q⟩ => (one ns h).len vs H Q E q, fun A outer s H args us vs Q E hr he hb hv ⟨ns, h, q⟩ => (one ns h).run A outer s H args us vs Q E hr he hb hv q⟩
end K30
namespace K30
open PySem PySem.Spec L2 DL RL PyProof.Rows
theorem rd_of {K : PySem.W.Frag} {mg : Str → Option Value} (Φ : Facts K mg) {H : Hp} {a : Addr} {xs : List V} (h : SqL K H a xs) : Rd H a (.lst xs) := by
  rcases h with h | ⟨o, its, n, hk, hc, _⟩
  · exact h
  · have m := List.all_eq_true.mp Φ.nl _ (He.lookup_mem hk)
    simp only [hc] at m
    exact absurd m (by decide)
theorem reps_int {K : PySem.W.Frag} {H : Hp} : ∀ ns : List Int, Reps K H (ns.map DL.D.int) (ns.map V.int)
  | [] => Reps.nil
  | n :: ns => Reps.cons (rep_int.mpr rfl) (reps_int ns)
theorem spL_of {K : PySem.W.Frag} {H : Hp} {a : Addr} {ns : List Int} (h : Rd H a (.lst (ns.map V.int))) (hn : ns.length ≤ 63) (E : XK) : spL K [.ref a] H (fun v _ => v = .bl true) E := by
  refine ⟨ns, hn, rfl, H, ?_, fun F' H' v _ _ r => rep_bl.mp (show Rep K F' (.bl true) v from r)⟩
  refine ⟨Ext.refl _, Ext.refl _, fun b o e => .inl e, fun b o e => Gx.hv_h0 e, fun b o e => ⟨o, e⟩, fun i e => ?_, fun i k d e => ?_, fun i ds e => ?_, fun i j a ds es _ e => ?_, rfl⟩
  · cases i with
    | zero => cases e
    | succ i => cases e
  · cases i with
    | zero =>
      cases e
      exact ⟨_, rfl, rep_lst.mpr ⟨a, _, rfl, h, reps_int ns⟩⟩
    | succ i => cases e
  · cases i with
    | zero => cases e
    | succ i => cases e
  · cases i with
    | zero => cases e
    | succ i => cases e
theorem law_bind {K : PySem.W.Frag} {f : Addr} {fd : FuncData} (Fu : Fun K "law" "law" (top 16) f fd) (s : Shared) (v : Value) : BindsTo s fd ⟨[v], []⟩ [("script", v)] := by
  obtain ⟨oc, od, kV, doc, pm, an, cdv, ct, osl, rfl, lk, hcd⟩ := Fu.ex
  exact .of_eq (bd16.p kV doc pm an cdv ct [v] rfl)
end K30
open PySem PySem.W PySem.Calls PyProof.Rows
theorem PySem.Challenge.cw_nearseats_k30_determinants_and_ranks_holds : PySem.Challenge.rw_nearseats_k30_determinants_and_ranks.Holds := by
  w_on; o_law
  refine HandSHeadRun.head_any (r := OpenLaw.row PySem.Challenge.rw_nearseats_k30_determinants_and_ranks) (q := view (OpenLaw.row PySem.Challenge.rw_nearseats_k30_determinants_and_ranks).prog [16]) (H := K30.hk) (ob := K30.ob) (M := 2000) (loose := K30.loose) (d := HandSHeadRun.topDef (OpenLaw.row PySem.Challenge.rw_nearseats_k30_determinants_and_ranks).prog 16) (kwd := []) K30.ob_eq
    (by kernel_rfl) (fun s => by kernel_rfl) K30.run (by kernel_rfl) (by kernel_rfl) (by kernel_rfl) (by rfl) (by first | assumption | decide +kernel) (by decide +kernel) ⟨rfl, rfl, rfl, rfl, rfl, by decide +kernel⟩ ?hw ?hc
  case hw => w_witness2
  case hc =>
    refine L2.walk_ofE (l := PySem.Challenge.rw_nearseats_k30_determinants_and_ranks) (n := 63) (k := 8) (x := "script") (CX := L2.CX0) rfl (by decide) (by kernel_rfl) ⟨rfl, by decide, by decide⟩ ?F (fun _ _ _ _ z => z)
    intro w mg fa h Y G hmg0
    obtain ⟨K, KX, c⟩ := Y
    have hmg : mg ("law" : PySem.Str) = some (.ref fa) := by
      have e : (HandSHeadRun.topDef (OpenLaw.row PySem.Challenge.rw_nearseats_k30_determinants_and_ranks).prog 16).name = ("law" : PySem.Str) := by kernel_rfl
      rw [← e]
      exact hmg0
    have Φ := K30.facts_of KX G c
    have e := hmg.symm.trans (Φ.glo "law" (by decide))
    cases e
    obtain ⟨fd, F⟩ := Φ.fn (K30.dOf 16 "law") (by simp [K30.fnL])
    have Fu := K30.fun_of (K := K) (x := "law") (qual := "law") (st := K30.top 16) (f := He.ga K "law") F
    exact ⟨K, fd, K30.spL K, KX, fun s v => K30.law_bind Fu s v, fun H a ns hl _ hS => K30.spL_of (K30.rd_of Φ hS) hl _, fun base _ _ => K30.law_ok (P := (PySem.Challenge.rw_nearseats_k30_determinants_and_ranks).prog) (w := w) (base := base) Φ Fu⟩
