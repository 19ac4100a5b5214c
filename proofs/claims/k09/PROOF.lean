import PyProof.Rows.All
import Wide.All
import OpenK.AllK
import Wide.FinOn
import HandS.ForMost
import HandS.Walk
import HandS.IsInst
import HandS.Steps
import HandS.Zip
import KE.GoesEnum
import KE.GoesEnumKw
import KE.SortData
import HandS.Strs
import HandS.SetKeys
import HandS.SetFor
import HandS.Star
import HandS.Wide
import PySem.Challenge.RW_nearseats_k09_whole_ways_in_order
import HandS.HotCalls
import HandS.Iter
import HandS.List
import HandS.Comp
import HandS.ExcIs
import HandS.ExcField
import HandS.ExcCtx
import HandS.ExcInit
import HandS.ExcInitHot
import HandS.Head0
import HandS.Head1
import HandS.Head2
import HandS.HeadEnd
import HandS.HeadHook1
import HandS.HeadHook2
import HandS.HeadHook3
import HandS.HeadHook4
set_option Elab.async false
set_option maxRecDepth 100000
set_option maxHeartbeats 0
set_option linter.all false
/-! DL0: values as plain data (D), how the heap bears them (Rep), the frame as slots (ER), and what it means that an
expression, a test, a block does something at the level of data (tD, tDT, tS). Built over HandS. -/
namespace DL
open PySem L2
/-! ### data -/
inductive D where
  | non | bl (b : Bool) | int (i : Int) | str (s : Str) | ty (n : String)
  | lst (xs : List D) | tup (xs : List D)
  | dk (ks : List Key) (xs : List D)
  | ins (C : Addr) (ns : List Str) (xs : List D)
def Ext (F H : Hp) : Prop := ∀ b o, F b = some o → H b = some o
theorem Ext.refl (F : Hp) : Ext F F := fun _ _ h => h
theorem Ext.trans {F G H : Hp} (a : Ext F G) (b : Ext G H) : Ext F H := fun x o h => b x o (a x o h)
theorem Ext.lay {F : Hp} {a : Addr} {o : HO} (h : F a = none) : Ext F (upd F a o) := fun b u e => by
  rw [upd_ne (ne_of_none e h)]; exact e
theorem Ext.updR {F H : Hp} {a : Addr} {o : HO} (e : Ext F H) (h : F a = none) : Ext F (L2.upd H a o) := fun b u q => by
  rw [upd_ne (ne_of_none q h)]; exact e b u q
theorem Ext.free {F H : Hp} (e : Ext F H) {a : Addr} (h : H a = none) : F a = none := by
  cases q : F a with
  | none => rfl
  | some o => rw [e a o q] at h; cases h
theorem Ext.sqT {K : PySem.W.Frag} {F H : Hp} {a : Addr} {xs : List V} (e : Ext F H) (h : SqT K F a xs) : SqT K H a xs := by
  rcases h with (h | ⟨o, h⟩) | h
  · exact .inl (.inl (e _ _ h))
  · exact .inl (.inr ⟨o, e _ _ h⟩)
  · exact .inr h
theorem Ext.rd {F H : Hp} {a : Addr} {u : HO} (e : Ext F H) (h : Rd F a u) : Rd H a u := h.imp (e _ _) fun ⟨o, q⟩ => ⟨o, e _ _ q⟩
theorem rd_inj {H : Hp} {a : Addr} {xs ys : List V} (h : Rd H a (.lst xs)) (g : Rd H a (.lst ys)) : xs = ys := by
  rcases h with h | ⟨o, h⟩ <;> rcases g with g | ⟨p, g⟩ <;> (rw [h] at g; cases g) <;> rfl
theorem sql_rd {K : PySem.W.Frag} {H : Hp} {a : Addr} {xs : List V} (h : Rd H a (.lst xs)) : SqL K H a xs := .inl h
/-- a tuple whose object is known to bear no dict -/
def SqX (K : PySem.W.Frag) (H : Hp) (a : Addr) (xs : List V) : Prop := SqT K H a xs ∧ ((∃ o u, H a = some (.frz o u) ∧ o.dict = none) ∨ ∃ o, K.lookup a = some o ∧ o.dict = none)
theorem Ext.sqX {K : PySem.W.Frag} {F H : Hp} {a : Addr} {xs : List V} (e : Ext F H) (h : SqX K F a xs) : SqX K H a xs :=
  ⟨e.sqT h.1, h.2.imp (fun ⟨o, u, q, d⟩ => ⟨o, u, e _ _ q, d⟩) id⟩
theorem SqX.new {K : PySem.W.Frag} {H : Hp} {a : Addr} {xs : List V} {o : Obj} (d : o.dict = none) : SqX K (upd H a (.frz o (.tup xs))) a xs :=
  ⟨.inl (.inr ⟨o, upd_same⟩), .inl ⟨o, _, upd_same, d⟩⟩
mutual
def Rep (K : PySem.W.Frag) (H : Hp) : D → V → Prop
  | .non, v => v = .non
  | .bl b, v => v = .bl b
  | .int i, v => v = .int i
  | .str s, v => v = .str s
  | .ty n, v => v = .ty n
  | .lst ds, v => ∃ a vs, v = .ref a ∧ Rd H a (.lst vs) ∧ Reps K H ds vs
  | .tup ds, v => ∃ a vs, v = .ref a ∧ SqX K H a vs ∧ Reps K H ds vs
  | .dk ks ds, v => ∃ a kvs, v = .ref a ∧ H a = some (.dK kvs) ∧ kvs.map (·.1) = ks ∧ Reps K H ds (kvs.map (·.2))
  | .ins C ns ds, v => ∃ a dx fs, v = .ref a ∧ H a = some (.ins C dx fs) ∧ fs.map (·.1) = ns ∧ Reps K H ds (fs.map (·.2))
def Reps (K : PySem.W.Frag) (H : Hp) : List D → List V → Prop
  | [], vs => vs = []
  | d :: ds, vs => ∃ v r, vs = v :: r ∧ Rep K H d v ∧ Reps K H ds r
end
mutual
theorem Rep.mono {K : PySem.W.Frag} {F H : Hp} (e : Ext F H) : ∀ (d : D) (v : V), Rep K F d v → Rep K H d v
  | .non, v, h => h
  | .bl _, v, h => h
  | .int _, v, h => h
  | .str _, v, h => h
  | .ty _, v, h => h
  | .lst ds, v, h => by
    obtain ⟨a, vs, h1, h2, h3⟩ := h
    exact ⟨a, vs, h1, e.rd h2, Reps.mono e ds vs h3⟩
  | .tup ds, v, h => by
    obtain ⟨a, vs, h1, h2, h3⟩ := h
    exact ⟨a, vs, h1, e.sqX h2, Reps.mono e ds vs h3⟩
  | .dk ks ds, v, h => by
    obtain ⟨a, vs, h1, h2, h4, h3⟩ := h
    exact ⟨a, vs, h1, e _ _ h2, h4, Reps.mono e ds _ h3⟩
  | .ins C ns ds, v, h => by
    obtain ⟨a, dx, vs, h1, h2, h4, h3⟩ := h
    exact ⟨a, dx, vs, h1, e _ _ h2, h4, Reps.mono e ds _ h3⟩
theorem Reps.mono {K : PySem.W.Frag} {F H : Hp} (e : Ext F H) : ∀ (ds : List D) (vs : List V), Reps K F ds vs → Reps K H ds vs
  | [], vs, h => h
  | d :: ds, vs, h => by
    obtain ⟨v, r, h1, h2, h3⟩ := h
    exact ⟨v, r, h1, Rep.mono e d v h2, Reps.mono e ds r h3⟩
end
section
variable {K : PySem.W.Frag} {F H : Hp} {ds es : List D} {vs ws : List V} {d : D} {v : V}
theorem Reps.nil : Reps K H [] [] := by simp [Reps]
theorem Reps.cons (a : Rep K H d v) (b : Reps K H ds vs) : Reps K H (d :: ds) (v :: vs) := by
  simp only [Reps]; exact ⟨v, vs, rfl, a, b⟩
theorem Reps.nil_of (h : Reps K H [] vs) : vs = [] := by simpa [Reps] using h
theorem Reps.cons_of (h : Reps K H (d :: ds) vs) : ∃ v r, vs = v :: r ∧ Rep K H d v ∧ Reps K H ds r := by simpa only [Reps] using h
theorem Reps.length : ∀ {ds : List D} {vs : List V}, Reps K H ds vs → vs.length = ds.length
  | [], vs, h => by rw [h.nil_of]; rfl
  | d :: ds, vs, h => by
    obtain ⟨v, r, rfl, _, h3⟩ := h.cons_of
    show r.length + 1 = ds.length + 1
    rw [h3.length]
theorem Reps.get : ∀ {ds : List D} {vs : List V} {i : Nat} {v : V}, Reps K H ds vs → vs[i]? = some v → ∃ d, ds[i]? = some d ∧ Rep K H d v
  | [], vs, i, v, h, g => by rw [h.nil_of] at g; cases g
  | d :: ds, vs, 0, v, h, g => by
    obtain ⟨w, r, rfl, h2, h3⟩ := h.cons_of
    cases g
    exact ⟨d, rfl, h2⟩
  | d :: ds, vs, i + 1, v, h, g => by
    obtain ⟨w, r, rfl, h2, h3⟩ := h.cons_of
    exact h3.get (i := i) g
theorem Reps.getD : ∀ {ds : List D} {vs : List V} {i : Nat} {d : D}, Reps K H ds vs → ds[i]? = some d → ∃ v, vs[i]? = some v ∧ Rep K H d v
  | [], vs, i, v, h, g => by cases g
  | d :: ds, vs, 0, v, h, g => by
    obtain ⟨w, r, rfl, h2, h3⟩ := h.cons_of
    cases g
    exact ⟨w, rfl, h2⟩
  | d :: ds, vs, i + 1, v, h, g => by
    obtain ⟨w, r, rfl, h2, h3⟩ := h.cons_of
    exact h3.getD (i := i) g
theorem Reps.append : ∀ {ds es : List D} {vs ws : List V}, Reps K H ds vs → Reps K H es ws → Reps K H (ds ++ es) (vs ++ ws)
  | [], es, vs, ws, h, g => by rw [h.nil_of]; exact g
  | d :: ds, es, vs, ws, h, g => by
    obtain ⟨w, r, rfl, h2, h3⟩ := h.cons_of
    exact .cons h2 (h3.append g)
theorem Reps.one (h : Rep K H d v) : Reps K H [d] [v] := .cons h .nil
theorem Reps.set : ∀ {ds : List D} {vs : List V} (i : Nat) {d : D} {v : V}, Reps K H ds vs → Rep K H d v → Reps K H (ds.set i d) (vs.set i v)
  | [], vs, i, d, v, h, g => by rw [h.nil_of]; exact .nil
  | e :: ds, vs, 0, d, v, h, g => by
    obtain ⟨w, r, rfl, h2, h3⟩ := h.cons_of
    exact .cons g h3
  | e :: ds, vs, i + 1, d, v, h, g => by
    obtain ⟨w, r, rfl, h2, h3⟩ := h.cons_of
    exact .cons h2 (h3.set i g)
theorem Reps.take : ∀ {ds : List D} {vs : List V} (n : Nat), Reps K H ds vs → Reps K H (ds.take n) (vs.take n)
  | ds, vs, 0, h => .nil
  | [], vs, n + 1, h => by rw [h.nil_of]; exact .nil
  | e :: ds, vs, n + 1, h => by
    obtain ⟨w, r, rfl, h2, h3⟩ := h.cons_of
    exact .cons h2 (h3.take n)
theorem Reps.drop : ∀ {ds : List D} {vs : List V} (n : Nat), Reps K H ds vs → Reps K H (ds.drop n) (vs.drop n)
  | ds, vs, 0, h => h
  | [], vs, n + 1, h => by rw [h.nil_of]; exact .nil
  | e :: ds, vs, n + 1, h => by
    obtain ⟨w, r, rfl, h2, h3⟩ := h.cons_of
    exact h3.drop n
theorem Reps.eraseIdx : ∀ {ds : List D} {vs : List V} (n : Nat), Reps K H ds vs → Reps K H (ds.eraseIdx n) (vs.eraseIdx n)
  | [], vs, n, h => by rw [h.nil_of]; exact .nil
  | e :: ds, vs, 0, h => by
    obtain ⟨w, r, rfl, h2, h3⟩ := h.cons_of
    exact h3
  | e :: ds, vs, n + 1, h => by
    obtain ⟨w, r, rfl, h2, h3⟩ := h.cons_of
    exact .cons h2 (h3.eraseIdx n)
theorem Reps.reverse {ds : List D} {vs : List V} (h : Reps K H ds vs) : Reps K H ds.reverse vs.reverse := by
  induction ds generalizing vs with
  | nil => rw [h.nil_of]; exact .nil
  | cons d ds ih =>
    obtain ⟨w, r, rfl, h2, h3⟩ := h.cons_of
    rw [List.reverse_cons, List.reverse_cons]
    exact (ih h3).append (.one h2)
/-- scalars determine the value -/
theorem Reps.ints : ∀ {ns : List Int} {vs : List V}, Reps K H (ns.map D.int) vs → vs = ns.map V.int
  | [], vs, h => h.nil_of
  | n :: ns, vs, h => by
    obtain ⟨w, r, rfl, h2, h3⟩ := h.cons_of
    have e : w = V.int n := by simpa only [Rep] using h2
    rw [e, h3.ints]; rfl
theorem Reps.bls : ∀ {ns : List Bool} {vs : List V}, Reps K H (ns.map D.bl) vs → vs = ns.map V.bl
  | [], vs, h => h.nil_of
  | n :: ns, vs, h => by
    obtain ⟨w, r, rfl, h2, h3⟩ := h.cons_of
    have e : w = V.bl n := by simpa only [Rep] using h2
    rw [e, h3.bls]; rfl
theorem Reps.strs : ∀ {ns : List Str} {vs : List V}, Reps K H (ns.map D.str) vs → vs = ns.map V.str
  | [], vs, h => h.nil_of
  | n :: ns, vs, h => by
    obtain ⟨w, r, rfl, h2, h3⟩ := h.cons_of
    have e : w = V.str n := by simpa only [Rep] using h2
    rw [e, h3.strs]; rfl
theorem rep_non : Rep K H .non v ↔ v = .non := by simp [Rep]
theorem rep_bl {b : Bool} : Rep K H (.bl b) v ↔ v = .bl b := by simp [Rep]
theorem rep_int {i : Int} : Rep K H (.int i) v ↔ v = .int i := by simp [Rep]
theorem rep_str {s : Str} : Rep K H (.str s) v ↔ v = .str s := by simp [Rep]
theorem rep_ty {s : String} : Rep K H (.ty s) v ↔ v = .ty s := by simp [Rep]
theorem rep_lst : Rep K H (.lst ds) v ↔ ∃ a vs, v = .ref a ∧ Rd H a (.lst vs) ∧ Reps K H ds vs := by simp only [Rep]
theorem rep_tup : Rep K H (.tup ds) v ↔ ∃ a vs, v = .ref a ∧ SqX K H a vs ∧ Reps K H ds vs := by simp only [Rep]
end
/-! ### slots, frames -/
/-- what is known of a name: its data, fixed for good (v true) or as it stood when the def was called (v false); or a list that this def alone may change -/
inductive Slot where
  | v (k : Bool) (d : D)
  | own (ds : List D)
abbrev Slot.val (d : D) : Slot := .v true d
abbrev Slot.view (d : D) : Slot := .v false d
abbrev Env := List (Option Slot)
/-- what stood when the def was called: what is fixed, the heap, the arguments, which of them are the caller's lists that this def may change -/
structure Gx where
  F0 : Hp
  H0 : Hp
  vs : List V
  ms : List Bool
/- the heap at the call but for the lists that may change -/
open Classical in
noncomputable def Gx.Hv (G : Gx) : Hp := fun b => if ∃ i : Nat, G.ms[i]? = some true ∧ G.vs[i]? = some (V.ref b) then none else G.H0 b
theorem Gx.hv_h0 {G : Gx} {b : Addr} {o : HO} (h : G.Hv b = some o) : G.H0 b = some o := by
  unfold Gx.Hv at h
  split at h
  · cases h
  · exact h
theorem Gx.h0_hv {G : Gx} {b : Addr} {o : HO} (h : G.H0 b = some o) (n : ∀ i : Nat, G.ms[i]? = some true → G.vs[i]? ≠ some (V.ref b)) : G.Hv b = some o := by
  unfold Gx.Hv
  rw [if_neg]
  · exact h
  · rintro ⟨i, h1, h2⟩; exact n i h1 h2
theorem Gx.hv_ne {G : Gx} {b : Addr} {o : HO} (h : G.Hv b = some o) {i : Nat} (h1 : G.ms[i]? = some true) : G.vs[i]? ≠ some (V.ref b) := fun h2 => by
  unfold Gx.Hv at h
  rw [if_pos ⟨i, h1, h2⟩] at h; cases h
noncomputable def Gx.at (G : Gx) (F : Hp) : Bool → Hp
  | true => F
  | false => G.Hv
structure ER (K : PySem.W.Frag) (G : Gx) (F H : Hp) (σ : L2.St) (ρ : Env) : Prop where
  ext : Ext G.F0 F
  sub : Ext F H
  new : ∀ b o, F b = some o → G.F0 b = some o ∨ G.H0 b = none
  keep : Ext G.Hv H
  there : ∀ b o, G.H0 b = some o → ∃ u, H b = some u
  arg : ∀ (i : Nat), G.ms[i]? = some true → ∃ v, G.vs[i]? = some v ∧ σ[i]? = some (some v)
  val : ∀ (i : Nat) k d, ρ[i]? = some (some (.v k d)) → ∃ v, σ[i]? = some (some v) ∧ Rep K (G.at F k) d v
  own : ∀ (i : Nat) ds, ρ[i]? = some (some (.own ds)) → ∃ a vs, σ[i]? = some (some (.ref a)) ∧ H a = some (.lst vs) ∧ F a = none ∧ (G.H0 a = none ∨ G.ms[i]? = some true) ∧ Reps K F ds vs
  inj : ∀ (i j : Nat) a ds es, i ≠ j → ρ[i]? = some (some (.own ds)) → ρ[j]? = some (some (.own es)) → σ[i]? = some (some (.ref a)) → σ[j]? = some (some (.ref a)) → False
  len : σ.length = ρ.length
/-- how a value bears a slot: data, or a new list that nobody else holds -/
def SR (K : PySem.W.Frag) (G : Gx) (F H : Hp) (σ : L2.St) (ρ : Env) : Slot → V → Prop
  | .v k d, v => Rep K (G.at F k) d v
  | .own ds, v => ∃ a vs, v = .ref a ∧ H a = some (.lst vs) ∧ F a = none ∧ G.H0 a = none ∧ Reps K F ds vs ∧ ∀ (i : Nat) es, ρ[i]? = some (some (.own es)) → σ[i]? ≠ some (some (.ref a))
def tD (K : PySem.W.Frag) (G : Gx) (ρ ρ' : Env) (r : Slot) : TE := fun σ H Q => ∃ F, ER K G F H σ ρ ∧ ∀ F' H' v, Ext F F' → ER K G F' H' σ ρ' → SR K G F' H' σ ρ' r v → Q v H'
def tDT (K : PySem.W.Frag) (G : Gx) (ρ ρ' : Env) (b : Bool) : TT := fun σ H Q => ∃ F, ER K G F H σ ρ ∧ ∀ F' H', Ext F F' → ER K G F' H' σ ρ' → Q b H'
abbrev ED (X : Cx) (G : Gx) (e : Expr) (ρ ρ' : Env) (r : Slot) : Prop := PE X e (tD X.K G ρ ρ' r)
abbrev ET (X : Cx) (G : Gx) (e : Expr) (ρ ρ' : Env) (b : Bool) : Prop := PT X e (tDT X.K G ρ ρ' b)
abbrev EW (X : Cx) (G : Gx) (e : Expr) (ρ ρ' : Env) (b : Bool) : Prop := PW X e (tDT X.K G ρ ρ' b)
inductive Out where
  | nx (ρ : Env) | ret (r : Slot) (ρ : Env) | bk (ρ : Env) | ct (ρ : Env)
def tS (K : PySem.W.Frag) (G : Gx) (ρ : Env) (P : Out → Prop) : TS := fun D σ H => ∃ F, ER K G F H σ ρ ∧
  (∀ ρ' F' H' σ', P (.nx ρ') → Ext F F' → ER K G F' H' σ' ρ' → D.nx σ' H') ∧
  (∀ r ρ' F' H' σ' v, P (.ret r ρ') → Ext F F' → ER K G F' H' σ' ρ' → SR K G F' H' σ' ρ' r v → D.rt v H') ∧
  (∀ ρ' F' H' σ', P (.bk ρ') → Ext F F' → ER K G F' H' σ' ρ' → D.bk σ' H') ∧
  (∀ ρ' F' H' σ', P (.ct ρ') → Ext F F' → ER K G F' H' σ' ρ' → D.ct σ' H')
abbrev SD (X : Cx) (G : Gx) (st : Stmt) (ρ : Env) (P : Out → Prop) : Prop := PS X st (tS X.K G ρ P)
abbrev BD (X : Cx) (G : Gx) (sts : List Stmt) (ρ : Env) (P : Out → Prop) : Prop := PSs X sts (tS X.K G ρ P)
theorem pe_mono {X : Cx} {e : Expr} {t t' : TE} (h : PE X e t) (i : ∀ σ H Q, t' σ H Q → t σ H Q) : PE X e t' := ⟨fun pins s σ H Q I q => h.run pins s σ H Q I (i σ H Q q)⟩
theorem pt_mono {X : Cx} {e : Expr} {t t' : TT} (h : PT X e t) (i : ∀ σ H Q, t' σ H Q → t σ H Q) : PT X e t' := ⟨fun pins s σ H Q I q => h.run pins s σ H Q I (i σ H Q q)⟩
theorem pw_mono {X : Cx} {e : Expr} {t t' : TT} (h : PW X e t) (i : ∀ σ H Q, t' σ H Q → t σ H Q) : PW X e t' := ⟨fun wh pins s σ H Q I q => h.run wh pins s σ H Q I (i σ H Q q)⟩
theorem pa_mono {X : Cx} {es : List Expr} {t t' : TA} (h : PA X es t) (i : ∀ σ H Q, t' σ H Q → t σ H Q) : PA X es t' := ⟨fun p pins s σ H Q I q => h.run p pins s σ H Q I (i σ H Q q)⟩
theorem ps_mono {X : Cx} {st : Stmt} {t t' : TS} (h : PS X st t) (i : ∀ D σ H, t' D σ H → t D σ H) : PS X st t' := ⟨fun pins s σ H D I q => h.run pins s σ H D I (i D σ H q)⟩
theorem pss_mono {X : Cx} {st : List Stmt} {t t' : TS} (h : PSs X st t) (i : ∀ D σ H, t' D σ H → t D σ H) : PSs X st t' := ⟨fun pins s σ H D I q => h.run pins s σ H D I (i D σ H q)⟩
/-- many readings at once -/
theorem pss_any {X : Cx} {st : List Stmt} {ι : Type} {p : ι → Prop} {t : ι → TS} (h : ∀ i, p i → PSs X st (t i)) : PSs X st (fun D σ H => ∃ i, p i ∧ t i D σ H) :=
  ⟨fun pins s σ H D I ⟨i, hp, q⟩ => (h i hp).run pins s σ H D I q⟩
theorem pe_any {X : Cx} {e : Expr} {ι : Type} {p : ι → Prop} {t : ι → TE} (h : ∀ i, p i → PE X e (t i)) : PE X e (fun σ H Q => ∃ i, p i ∧ t i σ H Q) :=
  ⟨fun pins s σ H Q I ⟨i, hp, q⟩ => (h i hp).run pins s σ H Q I q⟩
theorem pt_any {X : Cx} {e : Expr} {ι : Type} {p : ι → Prop} {t : ι → TT} (h : ∀ i, p i → PT X e (t i)) : PT X e (fun σ H Q => ∃ i, p i ∧ t i σ H Q) :=
  ⟨fun pins s σ H Q I ⟨i, hp, q⟩ => (h i hp).run pins s σ H Q I q⟩
section
variable {X : Cx} {G : Gx} {ρ ρ' : Env} {r : Slot} {d : D} {ds : List D} {K : PySem.W.Frag} {F F' H H' : Hp} {σ : L2.St} {v : V} {k : Bool}
theorem at_ext (e : Ext F F') : Ext (G.at F k) (G.at F' k) := by
  cases k
  · exact Ext.refl _
  · exact e
theorem ER.atH (E : ER K G F H σ ρ) : Ext (G.at F k) H := by
  cases k
  · exact E.keep
  · exact E.sub
theorem ER.h0 {p : Addr} (E : ER K G F H σ ρ) (hp : H p = none) : G.H0 p = none := by
  cases z : G.H0 p with
  | none => rfl
  | some w =>
    obtain ⟨u, hu⟩ := E.there p w z
    rw [hp] at hu; cases hu
/-- a new list's address may become fixed -/
theorem ER.fix {a : Addr} {vs : List V} (E : ER K G F H σ ρ) (ha : H a = some (.lst vs)) (hF : F a = none) (h0 : G.H0 a = none) (ne : ∀ (i : Nat) es, ρ[i]? = some (some (.own es)) → σ[i]? ≠ some (some (.ref a))) : ER K G (upd F a (.lst vs)) H σ ρ where
  ext := E.ext.trans (Ext.lay hF)
  sub := fun b o q => by
    by_cases hb : b = a
    · subst hb; rw [upd_same] at q; rw [ha]; exact q
    · rw [upd_ne hb] at q; exact E.sub b o q
  new := fun b o q => by
    by_cases hb : b = a
    · subst hb; exact .inr h0
    · rw [upd_ne hb] at q; exact E.new b o q
  keep := E.keep
  there := E.there
  arg := E.arg
  val := fun i k d hi => by
    obtain ⟨v, h1, h2⟩ := E.val i k d hi
    exact ⟨v, h1, Rep.mono (at_ext (Ext.lay hF)) _ _ h2⟩
  own := fun i es hi => by
    obtain ⟨a', vs', h1, h2, h3, h4, h5⟩ := E.own i es hi
    have na : a' ≠ a := fun q => ne i es hi (by rw [h1, q])
    exact ⟨a', vs', h1, h2, by rw [upd_ne na]; exact h3, h4, Reps.mono (Ext.lay hF) _ _ h5⟩
  inj := E.inj
  len := E.len
/-- something new is laid into the heap, and fixed -/
theorem ER.lay {p : Addr} {o : HO} (E : ER K G F H σ ρ) (hp : H p = none) : ER K G (upd F p o) (upd H p o) σ ρ where
  ext := E.ext.trans (Ext.lay (E.sub.free hp))
  sub := fun b u q => by
    by_cases hb : b = p
    · subst hb; rw [upd_same] at q ⊢; exact q
    · rw [upd_ne hb] at q ⊢; exact E.sub b u q
  new := fun b u q => by
    by_cases hb : b = p
    · subst hb; exact .inr (E.h0 hp)
    · rw [upd_ne hb] at q; exact E.new b u q
  keep := E.keep.updR (E.keep.free hp)
  there := fun b u q => by
    obtain ⟨w, hw⟩ := E.there b u q
    exact ⟨w, by rw [upd_ne (ne_of_none hw hp)]; exact hw⟩
  arg := E.arg
  val := fun i k d hi => by
    obtain ⟨v, h1, h2⟩ := E.val i k d hi
    exact ⟨v, h1, Rep.mono (at_ext (Ext.lay (E.sub.free hp))) _ _ h2⟩
  own := fun i es hi => by
    obtain ⟨a', vs', h1, h2, h3, h4, h5⟩ := E.own i es hi
    have na : a' ≠ p := ne_of_none h2 hp
    exact ⟨a', vs', h1, by rw [upd_ne na]; exact h2, by rw [upd_ne na]; exact h3, h4, Reps.mono (Ext.lay (E.sub.free hp)) _ _ h5⟩
  inj := E.inj
  len := E.len
/-- new things in the heap, of which nothing is said -/
theorem ER.lay0 {p : Addr} {o : HO} (E : ER K G F H σ ρ) (hp : H p = none) : ER K G F (upd H p o) σ ρ where
  ext := E.ext
  sub := E.sub.updR (E.sub.free hp)
  new := E.new
  keep := E.keep.updR (E.keep.free hp)
  there := fun b u q => by
    obtain ⟨w, hw⟩ := E.there b u q
    exact ⟨w, by rw [upd_ne (ne_of_none hw hp)]; exact hw⟩
  arg := E.arg
  val := E.val
  own := fun i es hi => by
    obtain ⟨a', vs', h1, h2, h3, h4, h5⟩ := E.own i es hi
    exact ⟨a', vs', h1, by rw [upd_ne (ne_of_none h2 hp)]; exact h2, h3, h4, h5⟩
  inj := E.inj
  len := E.len
/-- a new list that nobody holds yet -/
theorem ER.newL {p : Addr} {vs : List V} (E : ER K G F H σ ρ) (hp : H p = none) (hr : Reps K F ds vs) : SR K G F (upd H p (.lst vs)) σ ρ (.own ds) (.ref p) :=
  ⟨p, vs, rfl, upd_same, E.sub.free hp, E.h0 hp, hr, fun i es hi hs => by
    obtain ⟨a', vs', h1, h2, _⟩ := E.own i es hi
    rw [h1] at hs; cases hs
    rw [h2] at hp; cases hp⟩
/-- a list of the def's own changes its items -/
theorem ER.write {a : Addr} {ws : List V} {i : Nat} {es : List D} (E : ER K G F H σ ρ) (hi : ρ[i]? = some (some (.own ds))) (ha : σ[i]? = some (some (.ref a))) (hr : Reps K F es ws) : ER K G F (upd H a (.lst ws)) σ (ρ.set i (some (.own es))) := by
  obtain ⟨a', vs', g1, g2, g3, g4, g5⟩ := E.own i ds hi
  rw [ha] at g1; cases g1
  have hil : i < ρ.length := (List.getElem?_eq_some_iff.mp hi).1
  have oth : ∀ (j : Nat) x, (ρ.set i (some (.own es)))[j]? = some x → (i = j ∧ x = some (.own es)) ∨ (i ≠ j ∧ ρ[j]? = some x) := fun j x h => by
    rw [List.getElem?_set] at h
    by_cases q : i = j
    · subst q
      rw [if_pos rfl, if_pos hil] at h
      exact .inl ⟨rfl, (Option.some.inj h).symm⟩
    · rw [if_neg q] at h; exact .inr ⟨q, h⟩
  refine ⟨E.ext, E.sub.updR g3, E.new, ?_, ?_, E.arg, ?_, ?_, ?_, ?_⟩
  · refine E.keep.updR ?_
    rcases g4 with h | h
    · cases q : G.Hv a with
      | none => rfl
      | some o => rw [Gx.hv_h0 q] at h; cases h
    · cases q : G.Hv a with
      | none => rfl
      | some o =>
        exfalso
        obtain ⟨v, z, g⟩ := E.arg i h
        rw [ha] at g; cases g
        exact Gx.hv_ne q h z
  · intro b o q
    obtain ⟨w, hw⟩ := E.there b o q
    by_cases hb : b = a
    · subst hb; exact ⟨_, upd_same⟩
    · exact ⟨w, by rw [upd_ne hb]; exact hw⟩
  · intro j k d hj
    rcases oth j _ hj with ⟨_, h⟩ | ⟨_, h⟩
    · cases h
    · exact E.val j k d h
  · intro j us hj
    rcases oth j _ hj with ⟨q, h⟩ | ⟨q, h⟩
    · injection h with h; injection h with h; subst q; subst h
      exact ⟨a, ws, ha, upd_same, g3, g4, hr⟩
    · obtain ⟨b, vb, k1, k2, k3, k4, k5⟩ := E.own j us h
      have nb : b ≠ a := fun z => by subst z; exact E.inj i j b ds us q hi h ha k1
      exact ⟨b, vb, k1, by rw [upd_ne nb]; exact k2, k3, k4, k5⟩
  · intro j l b us ws' ne h1 h2 s1 s2
    rcases oth j _ h1 with ⟨q, h⟩ | ⟨q, h⟩
    · subst q
      rcases oth l _ h2 with ⟨q', h'⟩ | ⟨q', h'⟩
      · exact ne q'
      · exact E.inj i l b ds ws' ne hi h' s1 s2
    · rcases oth l _ h2 with ⟨q', h'⟩ | ⟨q', h'⟩
      · subst q'
        exact E.inj j i b us ds ne h hi s1 s2
      · exact E.inj j l b us ws' ne h h' s1 s2
  · rw [List.length_set]; exact E.len
end
end DL
/-! DL1: expressions. -/
namespace DL
open PySem L2
section
variable {X : Cx} {G : Gx} {e a b c : Expr} {ρ ρ' ρ0 ρ1 ρ2 ρ3 : Env} {r z : Slot} {d x y w : D} {ds es : List D} {K : PySem.W.Frag} {F F' H H' : Hp} {σ : L2.St} {v u : V} {pos : Pos} {k k1 k2 : Bool}
theorem getset_ne {α : Type} {l : List α} {i j : Nat} {x : α} (h : i ≠ j) : (l.set i x)[j]? = l[j]? := by
  rw [List.getElem?_set]; rw [if_neg h]
theorem getset_eq {α : Type} {l : List α} {i : Nat} {x y : α} (h : (l.set i x)[i]? = some y) : y = x := by
  rw [List.getElem?_set] at h
  by_cases q : i < l.length
  · simp [q] at h; exact h.symm
  · simp [q] at h
theorem getset_or {α : Type} {l : List α} {i j : Nat} {x y : α} (h : (l.set i x)[j]? = some y) : (i = j ∧ y = x) ∨ (i ≠ j ∧ l[j]? = some y) := by
  by_cases q : i = j
  · subst q; exact .inl ⟨rfl, getset_eq h⟩
  · rw [getset_ne q] at h; exact .inr ⟨q, h⟩
/-- what is no longer known of a slot -/
theorem ER.drop (E : ER K G F H σ ρ) (i : Nat) : ER K G F H σ (ρ.set i none) where
  ext := E.ext
  sub := E.sub
  new := E.new
  keep := E.keep
  there := E.there
  arg := E.arg
  val := fun j k d h => by
    rcases getset_or h with ⟨_, h⟩ | ⟨_, h⟩
    · cases h
    · exact E.val j k d h
  own := fun j d h => by
    rcases getset_or h with ⟨_, h⟩ | ⟨_, h⟩
    · cases h
    · exact E.own j d h
  inj := fun j k a ds es ne h1 h2 => by
    rcases getset_or h1 with ⟨_, h1⟩ | ⟨_, h1⟩
    · cases h1
    · rcases getset_or h2 with ⟨_, h2⟩ | ⟨_, h2⟩
      · cases h2
      · exact E.inj j k a ds es ne h1 h2
  len := by rw [List.length_set]; exact E.len
/-- a slot that bears fixed data -/
theorem ER.say (E : ER K G F H σ ρ) {i : Nat} (hv : σ[i]? = some (some v)) (hr : Rep K (G.at F k) d v) : ER K G F H σ (ρ.set i (some (.v k d))) where
  ext := E.ext
  sub := E.sub
  new := E.new
  keep := E.keep
  there := E.there
  arg := E.arg
  val := fun j k d h => by
    rcases getset_or h with ⟨q, h⟩ | ⟨_, h⟩
    · injection h with h'; injection h' with h1 h2; subst q; subst h1; subst h2; exact ⟨v, hv, hr⟩
    · exact E.val j k d h
  own := fun j d h => by
    rcases getset_or h with ⟨_, h⟩ | ⟨_, h⟩
    · cases h
    · exact E.own j d h
  inj := fun j k a ds es ne h1 h2 => by
    rcases getset_or h1 with ⟨_, h1⟩ | ⟨_, h1⟩
    · cases h1
    · rcases getset_or h2 with ⟨_, h2⟩ | ⟨_, h2⟩
      · cases h2
      · exact E.inj j k a ds es ne h1 h2
  len := by rw [List.length_set]; exact E.len
theorem sr_val (h : Rep K F d v) : SR K G F H σ ρ (.val d) v := h
theorem sr_int {i : Int} : SR K G F H σ ρ (.v k (.int i)) (.int i) := (rep_int (K := K) (H := G.at F k)).mpr rfl
theorem sr_bl {i : Bool} : SR K G F H σ ρ (.v k (.bl i)) (.bl i) := (rep_bl (K := K) (H := G.at F k)).mpr rfl
theorem sr_str {i : Str} : SR K G F H σ ρ (.v k (.str i)) (.str i) := (rep_str (K := K) (H := G.at F k)).mpr rfl
theorem sr_non : SR K G F H σ ρ (.v k .non) .non := (rep_non (K := K) (H := G.at F k)).mpr rfl
theorem of_int {i : Int} (h : SR K G F H σ ρ (.v k (.int i)) v) : v = .int i := (rep_int (K := K) (H := G.at F k)).mp h
theorem of_bl {i : Bool} (h : SR K G F H σ ρ (.v k (.bl i)) v) : v = .bl i := (rep_bl (K := K) (H := G.at F k)).mp h
theorem of_str {i : Str} (h : SR K G F H σ ρ (.v k (.str i)) v) : v = .str i := (rep_str (K := K) (H := G.at F k)).mp h
theorem of_non (h : SR K G F H σ ρ (.v k .non) v) : v = .non := (rep_non (K := K) (H := G.at F k)).mp h
/-! ### names, constants -/
theorem ed_var {i : Nat} {n : Str} (hN : X.N[i]? = some n) (hv : Vis X.env.scope n) (h : ρ[i]? = some (some (.v k d))) (hd : (n == ("__debug__" : Str)) = false := by decide) (hcd : (n == ("__classdict__" : Str)) = false := by decide) : ED X G (.Name n pos) ρ ρ (.v k d) :=
  pe_mono (pe_var hN hv hd hcd) fun σ H Q ⟨F, E, q⟩ => by
    obtain ⟨v, h1, h2⟩ := E.val i k d h
    exact ⟨v, h1, q F H v (Ext.refl _) E h2⟩
/-- a list of the def's own becomes fixed, as it is read -/
theorem ed_varF {i : Nat} {n : Str} (hN : X.N[i]? = some n) (hv : Vis X.env.scope n) (h : ρ[i]? = some (some (.own ds))) (hm : G.ms[i]? ≠ some true) (hd : (n == ("__debug__" : Str)) = false := by decide) (hcd : (n == ("__classdict__" : Str)) = false := by decide) : ED X G (.Name n pos) ρ (ρ.set i (some (.val (.lst ds)))) (.val (.lst ds)) :=
  pe_mono (pe_var hN hv hd hcd) fun σ H Q ⟨F, E, k⟩ => by
    obtain ⟨a, vs, h1, h2, h3, h4, h5⟩ := E.own i ds h
    have h0 : G.H0 a = none := h4.resolve_right hm
    have E1 := (E.drop i).fix (a := a) h2 h3 h0 fun j es hj hs => by
      rcases getset_or hj with ⟨_, hj⟩ | ⟨ne, hj⟩
      · cases hj
      · exact E.inj i j a ds es ne h hj h1 hs
    have hr : Rep X.K (upd F a (.lst vs)) (.lst ds) (.ref a) := by
      rw [rep_lst]; exact ⟨a, vs, rfl, .inl upd_same, Reps.mono (Ext.lay h3) _ _ h5⟩
    have E2 := E1.say (k := true) (i := i) h1 hr
    rw [List.set_set] at E2
    exact ⟨_, h1, k _ H _ (Ext.lay h3) E2 hr⟩
theorem ed_c {v : V} (h : PE X e (tC v)) (hr : ∀ F, Rep X.K F d v) : ED X G e ρ ρ (.val d) := pe_mono h fun σ H Q ⟨F, E, k⟩ => k F H v (Ext.refl _) E (sr_val (hr F))
theorem ed_int {i j pos} : ED X G (.Constant (.int i) j pos) ρ ρ (.val (.int i)) := ed_c pe_int fun _ => rep_int.mpr rfl
theorem ed_bl {i j pos} : ED X G (.Constant (.bool i) j pos) ρ ρ (.val (.bl i)) := ed_c pe_bl fun _ => rep_bl.mpr rfl
theorem ed_non {j pos} : ED X G (.Constant .none j pos) ρ ρ (.val .non) := ed_c pe_non fun _ => rep_non.mpr rfl
theorem ed_str {i j pos} : ED X G (.Constant (.str i) j pos) ρ ρ (.val (.str i)) := ed_c pe_str fun _ => rep_str.mpr rfl
theorem ed_glob {n : Str} {v : V} {u : Value} (hg : Gl X n) (hm : X.mg n = some u) (r : RelV v u) (hr : ∀ F, Rep X.K F d v) (hd : (n == ("__debug__" : Str)) = false := by decide) : ED X G (.Name n pos) ρ ρ (.val d) := ed_c (pe_glob hg hm r hd) hr
theorem ed_ty {n : Str} {T : String} (hg : Gl X n) (hm : X.mg n = none) (hv : bootBuiltins n = some (.type T)) (hn : n ≠ "__name__" := by decide) (hd : (n == ("__debug__" : Str)) = false := by decide) : ED X G (.Name n pos) ρ ρ (.val (.ty T)) :=
  ed_c (v := .ty T) (pe_bltn hg hm hv rfl hn hd) fun _ => rep_ty.mpr rfl
/-- a new list becomes fixed -/
theorem ed_fix (h : ED X G e ρ ρ' (.own ds)) : ED X G e ρ ρ' (.val (.lst ds)) := pe_mono h fun σ H Q ⟨F, E, k⟩ => ⟨F, E, fun F' H' v e1 E1 r1 => by
  obtain ⟨a, vs, rfl, h2, h3, h4, h5, h6⟩ := r1
  exact k (upd F' a (.lst vs)) H' _ (e1.trans (Ext.lay h3)) (E1.fix h2 h3 h4 h6) (rep_lst.mpr ⟨a, vs, rfl, .inl upd_same, Reps.mono (Ext.lay h3) _ _ h5⟩)⟩
theorem ed_is {z' : Slot} (h : ED X G e ρ ρ' z) (q : z = z') : ED X G e ρ ρ' z' := q ▸ h
/-! ### operators: by what the values are -/
def VR (K : PySem.W.Frag) (G : Gx) (ρ : Env) (r : R2) (k1 : Bool) (x : D) (k2 : Bool) (y : D) (z : Slot) : Prop :=
  ∀ σ F H v u Q, ER K G F H σ ρ → Rep K (G.at F k1) x v → Rep K (G.at F k2) y u → (∀ F' H' w, Ext F F' → ER K G F' H' σ ρ → SR K G F' H' σ ρ z w → Q w H') → r v u H Q
theorem ed_bin {r : R2} (ho : ∀ {ta tb}, PE X a ta → PE X b tb → PE X e (tOp r ta tb)) (ha : ED X G a ρ ρ1 (.v k1 x)) (hb : ED X G b ρ1 ρ2 (.v k2 y)) (hr : VR X.K G ρ2 r k1 x k2 y z) : ED X G e ρ ρ2 z :=
  pe_mono (ho ha hb) fun σ H Q ⟨F, E, k⟩ => ⟨F, E, fun F1 H1 v e1 E1 r1 => ⟨F1, E1, fun F2 H2 u e2 E2 r2 =>
    hr σ F2 H2 v u Q E2 (Rep.mono (at_ext e2) _ _ r1) r2 fun F' H' w e3 E3 s3 => k F' H' w (e1.trans (e2.trans e3)) E3 s3⟩⟩
theorem vr_I0 {g : Int → Int → V} {i j : Int} {h : D} (q : ∀ F, Rep K F h (g i j)) : VR K G ρ (rI0 g) k1 (.int i) k2 (.int j) (.val h) := fun σ F H v u Q E hv hu k => by
  rw [rep_int] at hv hu
  exact ⟨i, j, hv, hu, k F H _ (Ext.refl _) E (sr_val (q F))⟩
theorem vr_I {C : Int → Int → Prop} {g : Int → Int → V} {i j : Int} {h : D} (c : C i j) (q : ∀ F, Rep K F h (g i j)) : VR K G ρ (rI C g) k1 (.int i) k2 (.int j) (.val h) := fun σ F H v u Q E hv hu k => by
  rw [rep_int] at hv hu
  exact ⟨i, j, hv, hu, c, k F H _ (Ext.refl _) E (sr_val (q F))⟩
theorem Rep.lstH {v : V} (s : Ext F H) (h : Rep K F (.lst ds) v) : ∃ a vs, v = .ref a ∧ Rd H a (.lst vs) ∧ Reps K F ds vs := by
  rw [rep_lst] at h
  obtain ⟨a, vs, h1, h2, h3⟩ := h
  exact ⟨a, vs, h1, s.rd h2, h3⟩
theorem Rep.tupH {v : V} (s : Ext F H) (h : Rep K F (.tup ds) v) : ∃ a vs, v = .ref a ∧ SqT K H a vs ∧ Reps K F ds vs := by
  rw [rep_tup] at h
  obtain ⟨a, vs, h1, h2, h3⟩ := h
  exact ⟨a, vs, h1, s.sqT h2.1, h3⟩
/-- list + list, also of frozen ones -/
def rCatR : R2 := fun x y H Q => ∃ l b xs zs, x = .ref l ∧ y = .ref b ∧ Rd H l (.lst xs) ∧ Rd H b (.lst zs) ∧ xs.length + zs.length ≤ sizeLine ∧ ∀ p, H p = none → Q (.ref p) (upd H p (.lst (xs ++ zs)))
theorem op_catR {X : Cx} : OpR X (binaryOp .Add) rCatR := by
  intro pins s σ H x y v u Q I rx ry h
  obtain ⟨l, b, xs, zs, rfl, rfl, hH, hB, hz, q⟩ := h
  cases rx; cases ry
  obtain ⟨z1, its, n, r, e⟩ := (show ObjOk X.prog X.w H s.heap l (.lst xs) from hH.ok I.hok)
  obtain ⟨z2, its2, n2, r2, e2⟩ := (show ObjOk X.prog X.w H s.heap b (.lst zs) from hB.ok I.hok)
  have l1 := r.length
  have l2 := r2.length
  refine PySem.P.add_list e e2 ?_ (by rw [List.size_toArray, List.size_toArray]; omega)
  rw [show its.toArray ++ its2.toArray = (its ++ its2).toArray by simp]
  exact ⟨.ref _, _, I.lnew (t' := s.toks) (r.append r2) (by rw [List.length_append]; omega), rfl, q _ I.fresh⟩
inductive AddD : Slot → Slot → Slot → Prop where
  | int {k1 k2 : Bool} {i j : Int} : AddD (.v k1 (.int i)) (.v k2 (.int j)) (.val (.int (i + j)))
  | str {k1 k2 : Bool} {i j : Str} (h : i.length + j.length ≤ sizeLine) : AddD (.v k1 (.str i)) (.v k2 (.str j)) (.val (.str (i ++ j)))
  | lst {i j : List D} (h : i.length + j.length ≤ sizeLine) : AddD (.val (.lst i)) (.val (.lst j)) (.own (i ++ j))
theorem ed_add {sx sy : Slot} (ha : ED X G a ρ ρ1 sx) (hb : ED X G b ρ1 ρ2 sy) (h : AddD sx sy z) : ED X G (.BinOp a .Add b pos) ρ ρ2 z := by
  cases h with
  | int => exact ed_bin (fun h1 h2 => pe_op op_add h1 h2) ha hb (vr_I0 fun _ => rep_int.mpr rfl)
  | str h =>
    exact ed_bin (fun h1 h2 => pe_op op_add_str h1 h2) ha hb fun σ F H v u Q E hv hu k => by
      rw [rep_str] at hv hu
      exact ⟨_, _, hv, hu, h, k F H _ (Ext.refl _) E sr_str⟩
  | lst h =>
    exact ed_bin (fun h1 h2 => pe_op op_catR h1 h2) ha hb fun σ F H v u Q E hv hu k => by
      obtain ⟨p, vs, rfl, h2, h3⟩ := hv.lstH E.sub
      obtain ⟨q, ws, rfl, g2, g3⟩ := hu.lstH E.sub
      exact ⟨p, q, vs, ws, rfl, rfl, h2, g2, by rw [h3.length, g3.length]; exact h, fun n hn => k F _ _ (Ext.refl _) (E.lay0 hn) (E.newL hn (h3.append g3))⟩
theorem ed_sub {i j : Int} (ha : ED X G a ρ ρ1 (.v k1 (.int i))) (hb : ED X G b ρ1 ρ2 (.v k2 (.int j))) : ED X G (.BinOp a .Sub b pos) ρ ρ2 (.val (.int (i - j))) :=
  ed_bin (fun h1 h2 => pe_op op_sub h1 h2) ha hb (vr_I0 fun _ => rep_int.mpr rfl)
theorem ed_mul {i j : Int} (ha : ED X G a ρ ρ1 (.v k1 (.int i))) (hb : ED X G b ρ1 ρ2 (.v k2 (.int j))) (h : CMul i j) : ED X G (.BinOp a .Mult b pos) ρ ρ2 (.val (.int (i * j))) :=
  ed_bin (fun h1 h2 => pe_op op_mul h1 h2) ha hb (vr_I h fun _ => rep_int.mpr rfl)
theorem ed_fdiv {i j : Int} (ha : ED X G a ρ ρ1 (.v k1 (.int i))) (hb : ED X G b ρ1 ρ2 (.v k2 (.int j))) (h : CDiv i j) : ED X G (.BinOp a .FloorDiv b pos) ρ ρ2 (.val (.int (i / j))) :=
  ed_bin (fun h1 h2 => pe_op op_fdiv h1 h2) ha hb (vr_I h fun _ => rep_int.mpr rfl)
theorem ed_mod {i j : Int} (ha : ED X G a ρ ρ1 (.v k1 (.int i))) (hb : ED X G b ρ1 ρ2 (.v k2 (.int j))) (h : 0 < j) : ED X G (.BinOp a .Mod b pos) ρ ρ2 (.val (.int (i % j))) :=
  ed_bin (fun h1 h2 => pe_op op_mod h1 h2) ha hb (vr_I (C := fun _ j => 0 < j) h fun _ => rep_int.mpr rfl)
theorem ed_pow {i j : Int} (ha : ED X G a ρ ρ1 (.v k1 (.int i))) (hb : ED X G b ρ1 ρ2 (.v k2 (.int j))) (h : CPow i j) : ED X G (.BinOp a .Pow b pos) ρ ρ2 (.val (.int (i ^ j.toNat))) :=
  ed_bin (fun h1 h2 => pe_op op_pow h1 h2) ha hb (vr_I h fun _ => rep_int.mpr rfl)
theorem ed_neg {i : Int} (ha : ED X G a ρ ρ1 (.v k1 (.int i))) : ED X G (.UnaryOp .USub a pos) ρ ρ1 (.val (.int (-i))) :=
  pe_mono (pe_un un_neg ha) fun σ H Q ⟨F, E, k⟩ => ⟨F, E, fun F1 H1 v e1 E1 r1 => ⟨i, of_int r1, k F1 H1 _ e1 E1 sr_int⟩⟩
/-! ### comparisons -/
/-- a comparison of two data -/
inductive CmpD : CmpOp → D → D → Bool → Prop where
  | eqI {i j : Int} : CmpD .Eq (.int i) (.int j) (decide (i = j))
  | eqS {i j : Str} : CmpD .Eq (.str i) (.str j) (decide (i = j))
  | eqB {i j : Bool} : CmpD .Eq (.bl i) (.bl j) (decide (i = j))
  | neI {i j : Int} : CmpD .NotEq (.int i) (.int j) (!decide (i = j))
  | neS {i j : Str} : CmpD .NotEq (.str i) (.str j) (!decide (i = j))
  | neB {i j : Bool} : CmpD .NotEq (.bl i) (.bl j) (!decide (i = j))
  | ltI {i j : Int} : CmpD .Lt (.int i) (.int j) (decide (i < j))
  | leI {i j : Int} : CmpD .LtE (.int i) (.int j) (decide (i ≤ j))
  | gtI {i j : Int} : CmpD .Gt (.int i) (.int j) (decide (j < i))
  | geI {i j : Int} : CmpD .GtE (.int i) (.int j) (decide (j ≤ i))
theorem vcmp {op : CmpOp} {k : Bool} (h : CmpD op x y k) : ∃ r : R2, (∀ {X : Cx}, OpR X (compareOp op) r) ∧ ∀ K G ρ k1 k2, VR K G ρ r k1 x k2 y (.val (.bl k)) := by
  cases h with
  | @eqI i j =>
    exact ⟨rEq, fun {X} => op_eq, fun K G ρ k1 k2 σ F H v u Q E hv hu k => by
      rw [rep_int] at hv hu; subst hv; subst hu
      refine ⟨rfl, ?_⟩
      have e : decide (V.int i = V.int j) = decide (i = j) := by simp
      rw [e]; exact k F H _ (Ext.refl _) E sr_bl⟩
  | @eqS i j =>
    exact ⟨rEq, fun {X} => op_eq, fun K G ρ k1 k2 σ F H v u Q E hv hu k => by
      rw [rep_str] at hv hu; subst hv; subst hu
      refine ⟨rfl, ?_⟩
      have e : decide (V.str i = V.str j) = decide (i = j) := by simp
      rw [e]; exact k F H _ (Ext.refl _) E sr_bl⟩
  | @eqB i j =>
    exact ⟨rEq, fun {X} => op_eq, fun K G ρ k1 k2 σ F H v u Q E hv hu k => by
      rw [rep_bl] at hv hu; subst hv; subst hu
      refine ⟨rfl, ?_⟩
      have e : decide (V.bl i = V.bl j) = decide (i = j) := by simp
      rw [e]; exact k F H _ (Ext.refl _) E sr_bl⟩
  | @neI i j =>
    exact ⟨rNe, fun {X} => op_ne, fun K G ρ k1 k2 σ F H v u Q E hv hu k => by
      rw [rep_int] at hv hu; subst hv; subst hu
      refine ⟨rfl, ?_⟩
      have e : decide (V.int i = V.int j) = decide (i = j) := by simp
      rw [e]; exact k F H _ (Ext.refl _) E sr_bl⟩
  | @neS i j =>
    exact ⟨rNe, fun {X} => op_ne, fun K G ρ k1 k2 σ F H v u Q E hv hu k => by
      rw [rep_str] at hv hu; subst hv; subst hu
      refine ⟨rfl, ?_⟩
      have e : decide (V.str i = V.str j) = decide (i = j) := by simp
      rw [e]; exact k F H _ (Ext.refl _) E sr_bl⟩
  | @neB i j =>
    exact ⟨rNe, fun {X} => op_ne, fun K G ρ k1 k2 σ F H v u Q E hv hu k => by
      rw [rep_bl] at hv hu; subst hv; subst hu
      refine ⟨rfl, ?_⟩
      have e : decide (V.bl i = V.bl j) = decide (i = j) := by simp
      rw [e]; exact k F H _ (Ext.refl _) E sr_bl⟩
  | ltI => exact ⟨_, fun {X} => op_lt, fun K G ρ k1 k2 => vr_I0 fun _ => rep_bl.mpr rfl⟩
  | leI => exact ⟨_, fun {X} => op_le, fun K G ρ k1 k2 => vr_I0 fun _ => rep_bl.mpr rfl⟩
  | gtI => exact ⟨_, fun {X} => op_gt, fun K G ρ k1 k2 => vr_I0 fun _ => rep_bl.mpr rfl⟩
  | geI => exact ⟨_, fun {X} => op_ge, fun K G ρ k1 k2 => vr_I0 fun _ => rep_bl.mpr rfl⟩
theorem ed_cmp {op : CmpOp} {k : Bool} (ha : ED X G a ρ ρ1 (.v k1 x)) (hb : ED X G b ρ1 ρ2 (.v k2 y)) (h : CmpD op x y k) (hm : behindInMarks op b = false := by first | exact nomark _ | rfl) : ED X G (.Compare a [op] [b] pos) ρ ρ2 (.val (.bl k)) := by
  obtain ⟨r, ho, hr⟩ := vcmp h
  exact ed_bin (fun h1 h2 => pe_cmpR ho h1 h2 hm) ha hb (hr _ _ _ _ _)
theorem et_bin {r : R2} {k : Bool} (ho : ∀ {ta tb}, PE X a ta → PE X b tb → PT X e (tTest (tOp r ta tb))) (ha : ED X G a ρ ρ1 (.v k1 x)) (hb : ED X G b ρ1 ρ2 (.v k2 y)) (hr : VR X.K G ρ2 r k1 x k2 y (.val (.bl k))) : ET X G e ρ ρ2 k :=
  pt_mono (ho ha hb) fun σ H Q ⟨F, E, q⟩ => ⟨F, E, fun F1 H1 v e1 E1 r1 => ⟨F1, E1, fun F2 H2 u e2 E2 r2 =>
    hr σ F2 H2 v u _ E2 (Rep.mono (at_ext e2) _ _ r1) r2 fun F' H' w e3 E3 s3 => ⟨k, of_bl s3, q F' H' (e1.trans (e2.trans e3)) E3⟩⟩⟩
theorem et_cmp {op : CmpOp} {k : Bool} (ha : ED X G a ρ ρ1 (.v k1 x)) (hb : ED X G b ρ1 ρ2 (.v k2 y)) (h : CmpD op x y k) (hm : behindInMarks op b = false := by first | exact nomark _ | rfl) : ET X G (.Compare a [op] [b] pos) ρ ρ2 k := by
  obtain ⟨r, ho, hr⟩ := vcmp h
  exact et_bin (fun h1 h2 => pt_cmpR ho h1 h2 hm) ha hb (hr _ _ _ _ _)
theorem et_val {k : Bool} (ha : ED X G a ρ ρ1 (.v k1 (.bl k))) (he : ∀ whole, isTrue a X.env whole = (do let v ← whole; standAt a.pos; holding [v] (truthy v)) := by intro _; rfl) : ET X G a ρ ρ1 k :=
  pt_mono (pt_val ha he) fun σ H Q ⟨F, E, q⟩ => ⟨F, E, fun F1 H1 v e1 E1 r1 => ⟨k, of_bl r1, q F1 H1 e1 E1⟩⟩
theorem et_not {k : Bool} (ha : ET X G a ρ ρ1 k) : ET X G (.UnaryOp .Not a pos) ρ ρ1 (!k) :=
  pt_mono (pt_not ha) fun σ H Q ⟨F, E, q⟩ => ⟨F, E, fun F1 H1 e1 E1 => q F1 H1 e1 E1⟩
theorem ET.of {k : Bool} (h : EW X G a ρ ρ1 k) : ET X G a ρ ρ1 k := h.pt
variable {rest : List Expr} {k l : Bool}
theorem ew_and1 (ha : ET X G a ρ ρ1 k) : EW X G (.BoolOp .And [a] pos) ρ ρ1 k := pw_and1 ha
theorem ew_or1 (ha : ET X G a ρ ρ1 k) : EW X G (.BoolOp .Or [a] pos) ρ ρ1 k := pw_or1 ha
/-- the parts behind the first leave the frame as it is -/
theorem ew_and (ha : ET X G a ρ ρ1 k) (hb : k = true → EW X G (.BoolOp .And (b :: rest) pos) ρ1 ρ1 l) : EW X G (.BoolOp .And (a :: b :: rest) pos) ρ ρ1 (k && l) := by
  cases k with
  | true =>
    refine pw_mono (pw_and ha (hb rfl)) fun σ H Q ⟨F, E, q⟩ => ⟨F, E, fun F1 H1 e1 E1 => ?_⟩
    show tDT X.K G ρ1 ρ1 l σ H1 Q
    exact ⟨F1, E1, fun F2 H2 e2 E2 => q F2 H2 (e1.trans e2) E2⟩
  | false =>
    refine pw_mono (pw_and (tB' := fun _ _ _ => False) ha ⟨fun _ _ _ _ _ _ _ h => h.elim⟩) fun σ H Q ⟨F, E, q⟩ => ⟨F, E, fun F1 H1 e1 E1 => ?_⟩
    show Q false H1
    exact q F1 H1 e1 E1
theorem ew_or (ha : ET X G a ρ ρ1 k) (hb : k = false → EW X G (.BoolOp .Or (b :: rest) pos) ρ1 ρ1 l) : EW X G (.BoolOp .Or (a :: b :: rest) pos) ρ ρ1 (k || l) := by
  cases k with
  | false =>
    refine pw_mono (pw_or ha (hb rfl)) fun σ H Q ⟨F, E, q⟩ => ⟨F, E, fun F1 H1 e1 E1 => ?_⟩
    show tDT X.K G ρ1 ρ1 l σ H1 Q
    exact ⟨F1, E1, fun F2 H2 e2 E2 => q F2 H2 (e1.trans e2) E2⟩
  | true =>
    refine pw_mono (pw_or (tB' := fun _ _ _ => False) ha ⟨fun _ _ _ _ _ _ _ h => h.elim⟩) fun σ H Q ⟨F, E, q⟩ => ⟨F, E, fun F1 H1 e1 E1 => ?_⟩
    show Q true H1
    exact q F1 H1 e1 E1
theorem pe_false : PE X e (fun _ _ _ => False) := ⟨fun _ _ _ _ _ _ h => h.elim⟩
theorem ed_one {op} (h : ED X G a ρ ρ1 z) : ED X G (.BoolOp op [a] pos) ρ ρ1 z := pe_one h
theorem ed_and (ha : ED X G a ρ ρ1 (.v k1 (.bl k))) (hb : k = true → ED X G (.BoolOp .And (b :: rest) pos) ρ1 ρ1 (.val (.bl l))) : ED X G (.BoolOp .And (a :: b :: rest) pos) ρ ρ1 (.val (.bl (k && l))) := by
  cases k with
  | true =>
    refine pe_mono (pe_and ha (hb rfl)) fun σ H Q ⟨F, E, q⟩ => ⟨F, E, fun F1 H1 v e1 E1 r1 => ⟨true, of_bl r1, ?_⟩⟩
    show tD X.K G ρ1 ρ1 (.val (.bl l)) σ H1 Q
    exact ⟨F1, E1, fun F2 H2 w e2 E2 r2 => q F2 H2 w (e1.trans e2) E2 r2⟩
  | false =>
    refine pe_mono (pe_and ha pe_false) fun σ H Q ⟨F, E, q⟩ => ⟨F, E, fun F1 H1 v e1 E1 r1 => ⟨false, of_bl r1, ?_⟩⟩
    show Q (.bl false) H1
    exact q F1 H1 _ e1 E1 sr_bl
theorem ed_or (ha : ED X G a ρ ρ1 (.v k1 (.bl k))) (hb : k = false → ED X G (.BoolOp .Or (b :: rest) pos) ρ1 ρ1 (.val (.bl l))) : ED X G (.BoolOp .Or (a :: b :: rest) pos) ρ ρ1 (.val (.bl (k || l))) := by
  cases k with
  | false =>
    refine pe_mono (pe_or ha (hb rfl)) fun σ H Q ⟨F, E, q⟩ => ⟨F, E, fun F1 H1 v e1 E1 r1 => ⟨false, of_bl r1, ?_⟩⟩
    show tD X.K G ρ1 ρ1 (.val (.bl l)) σ H1 Q
    exact ⟨F1, E1, fun F2 H2 w e2 E2 r2 => q F2 H2 w (e1.trans e2) E2 r2⟩
  | true =>
    refine pe_mono (pe_or ha pe_false) fun σ H Q ⟨F, E, q⟩ => ⟨F, E, fun F1 H1 v e1 E1 r1 => ⟨true, of_bl r1, ?_⟩⟩
    show Q (.bl true) H1
    exact q F1 H1 _ e1 E1 sr_bl
theorem ed_not (ha : ED X G a ρ ρ1 (.v k1 (.bl k))) : ED X G (.UnaryOp .Not a pos) ρ ρ1 (.val (.bl (!k))) :=
  pe_mono (pe_not ha) fun σ H Q ⟨F, E, q⟩ => ⟨F, E, fun F1 H1 v e1 E1 r1 => ⟨k, of_bl r1, q F1 H1 _ e1 E1 sr_bl⟩⟩
/-- a if c else b -/
theorem ed_ifT (hc : ET X G c ρ ρ1 true) (ha : ED X G a ρ1 ρ2 z) : ED X G (.IfExp c a b pos) ρ ρ2 z :=
  pe_mono (pe_ifExp hc ha pe_false) fun σ H Q ⟨F, E, q⟩ => ⟨F, E, fun F1 H1 e1 E1 => by
    show tD X.K G ρ1 ρ2 z σ H1 Q
    exact ⟨F1, E1, fun F2 H2 w e2 E2 r2 => q F2 H2 w (e1.trans e2) E2 r2⟩⟩
theorem ed_ifF (hc : ET X G c ρ ρ1 false) (hb : ED X G b ρ1 ρ2 z) : ED X G (.IfExp c a b pos) ρ ρ2 z :=
  pe_mono (pe_ifExp hc pe_false hb) fun σ H Q ⟨F, E, q⟩ => ⟨F, E, fun F1 H1 e1 E1 => by
    show tD X.K G ρ1 ρ2 z σ H1 Q
    exact ⟨F1, E1, fun F2 H2 w e2 E2 r2 => q F2 H2 w (e1.trans e2) E2 r2⟩⟩
theorem ed_if (hc : ET X G c ρ ρ1 k) (ha : k = true → ED X G a ρ1 ρ2 (.val x)) (hb : k = false → ED X G b ρ1 ρ2 (.val y)) : ED X G (.IfExp c a b pos) ρ ρ2 (.val (if k then x else y)) := by
  cases k with
  | true => exact ed_ifT hc (ha rfl)
  | false => exact ed_ifF hc (hb rfl)
/-! ### displays, arguments -/
def tDA (K : PySem.W.Frag) (G : Gx) (ρ ρ' : Env) (ds : List D) : TA := fun σ H Q => ∃ F, ER K G F H σ ρ ∧ ∀ F' H' vs, Ext F F' → ER K G F' H' σ ρ' → Reps K F' ds vs → Q vs H'
abbrev EA (X : Cx) (G : Gx) (es : List Expr) (ρ ρ' : Env) (ds : List D) : Prop := PA X es (tDA X.K G ρ ρ' ds)
variable {xs : List Expr}
theorem ea_nil : EA X G [] ρ ρ [] := pa_mono pa_nil fun σ H Q ⟨F, E, k⟩ => k F H [] (Ext.refl _) E .nil
theorem ea_cons (ha : ED X G a ρ ρ1 (.val d)) (hr : EA X G xs ρ1 ρ2 ds) (hs : starEach (a :: xs) X.env = (false, eval a X.env) :: starEach xs X.env := by rfl) : EA X G (a :: xs) ρ ρ2 (d :: ds) :=
  pa_mono (pa_cons ha hr hs) fun σ H Q ⟨F, E, k⟩ => ⟨F, E, fun F1 H1 v e1 E1 r1 => ⟨F1, E1, fun F2 H2 vs e2 E2 r2 => k F2 H2 (v :: vs) (e1.trans e2) E2 (.cons (Rep.mono e2 _ _ r1) r2)⟩⟩
theorem ed_lst (h : EA X G xs ρ ρ1 ds) (hl : ds.length ≤ sizeLine) : ED X G (.List xs pos) ρ ρ1 (.own ds) :=
  pe_mono (pe_lst h) fun σ H Q ⟨F, E, k⟩ => ⟨F, E, fun F1 H1 vs e1 E1 r1 => ⟨by rw [r1.length]; exact hl, fun p hp => k F1 _ _ e1 (E1.lay0 hp) (E1.newL hp r1)⟩⟩
/-- a tuple whose object is known -/
def tTupX (t : TA) : TE := fun σ H Q => t σ H fun xs H1 => xs.length ≤ sizeLine ∧ ∀ p o, H1 p = none → o.dict = none → Q (.ref p) (upd H1 p (.frz o (.tup xs)))
theorem pe_tupX {n : Nat} {t : TA} (h : PA X xs t) : PE X (.Tuple xs n pos) (tTupX t) := by
  refine ⟨fun pins s σ H Q I hq => ?_⟩
  refine wpAny_Tuple_spliced (thn (h.run pos pins s σ H _ I hq) fun us s1 ⟨vs, H1, I1, r, z, q⟩ => ⟨by rw [← r.length]; exact z, ?_⟩)
  have hf : H1 s1.heap.objs.size = none := I1.hok.fresh (Nat.le_refl _)
  refine ⟨.ref s1.heap.objs.size, _, I1.laid (t' := s1.toks) (fun b u e => Heap.get?_push_of_some _ e) (Nat.le_refl _) ?_, rfl, q _ { cls := .type "tuple", data := .seq us.toArray } hf rfl⟩
  exact ⟨Heap.get?_push_size _ rfl, z, us, r, ⟨_, Heap.get?_push_size _ rfl, rfl, _, rfl⟩⟩
theorem ed_tup {n : Nat} (h : EA X G xs ρ ρ1 ds) (hl : ds.length ≤ sizeLine) : ED X G (.Tuple xs n pos) ρ ρ1 (.val (.tup ds)) :=
  pe_mono (pe_tupX h) fun σ H Q ⟨F, E, k⟩ => ⟨F, E, fun F1 H1 vs e1 E1 r1 => ⟨by rw [r1.length]; exact hl, fun p o hp ho => k _ _ _ (e1.trans (Ext.lay (E1.sub.free hp))) (E1.lay hp) (rep_tup.mpr ⟨p, vs, rfl, SqX.new ho, Reps.mono (Ext.lay (E1.sub.free hp)) _ _ r1⟩)⟩⟩
/-! ### calls of built-ins -/
def VC (K : PySem.W.Frag) (G : Gx) (ρ : Env) (r : List V → Hp → VK → Prop) (ds : List D) (z : Slot) : Prop :=
  ∀ σ F H vs Q, ER K G F H σ ρ → Reps K F ds vs → (∀ F' H' w, Ext F F' → ER K G F' H' σ ρ → SR K G F' H' σ ρ z w → Q w H') → r vs H Q
variable {n : Str} {p : Pos} {id : String} {rc : List V → Hp → VK → Prop}
theorem ed_callB (hc : CallR X (.builtin id) rc) (hg : Gl X n) (hm : X.mg n = none) (hv : bootBuiltins n = some (.builtin id)) (ha : EA X G (a :: xs) ρ ρ1 ds) (hr : VC X.K G ρ1 rc ds z) (hn : n ≠ "__name__" := by decide) (hdb : (n == ("__debug__" : Str)) = false := by decide)
    (he : starEach (a :: xs) X.env = (false, eval a X.env) :: starEach xs X.env := by rfl) (hpl : (backTo pos (starEach xs X.env)).any (·.1) = false := by rfl) : ED X G (.Call (.Name n p) (a :: xs) [] pos) ρ ρ1 z :=
  pe_mono (pe_callB hc hg hm hv ha hn hdb he hpl) fun σ H Q ⟨F, E, k⟩ => ⟨F, E, fun F1 H1 vs e1 E1 r1 => hr σ F1 H1 vs Q E1 r1 fun F' H' w e3 E3 s3 => k F' H' w (e1.trans e3) E3 s3⟩
theorem ed_callTy (hc : CallR X (.type id) rc) (hg : Gl X n) (hm : X.mg n = none) (hv : bootBuiltins n = some (.type id)) (ha : EA X G (a :: xs) ρ ρ1 ds) (hr : VC X.K G ρ1 rc ds z) (hn : n ≠ "__name__" := by decide) (hdb : (n == ("__debug__" : Str)) = false := by decide)
    (he : starEach (a :: xs) X.env = (false, eval a X.env) :: starEach xs X.env := by rfl) (hpl : (backTo pos (starEach xs X.env)).any (·.1) = false := by rfl) : ED X G (.Call (.Name n p) (a :: xs) [] pos) ρ ρ1 z :=
  pe_mono (pe_callTy hc hg hm hv ha hn hdb he hpl) fun σ H Q ⟨F, E, k⟩ => ⟨F, E, fun F1 H1 vs e1 E1 r1 => hr σ F1 H1 vs Q E1 r1 fun F' H' w e3 E3 s3 => k F' H' w (e1.trans e3) E3 s3⟩
end
end DL
/-! DL2: containers, statements. -/
namespace DL
open PySem L2
section
variable {X : Cx} {G : Gx} {e a b c : Expr} {ρ ρ' ρ0 ρ1 ρ2 ρ3 : Env} {r s z : Slot} {d x y w : D} {ds es : List D} {K : PySem.W.Frag} {F F' H H' : Hp} {σ : L2.St} {v u : V} {pos p : Pos} {k k1 k2 : Bool} {n : Str} {xs : List Expr}
def isSc : D → Bool
  | .non => true | .bl _ => true | .int _ => true | .str _ => true | .ty _ => true
  | _ => false
theorem rep_sc {F H : Hp} (h : isSc d = true) (r : Rep K F d v) : Rep K H d v := by
  cases d <;> first | (simp only [Rep] at r ⊢; exact r) | (cases h)
/-- as fixed data -/
inductive ToV : Slot → D → Prop where
  | val {d : D} : ToV (.v true d) d
  | sc {d : D} {k : Bool} (h : isSc d = true) : ToV (.v k d) d
  | own {ds : List D} : ToV (.own ds) (.lst ds)
theorem ed_toV (h : ED X G e ρ ρ' s) (t : ToV s d) : ED X G e ρ ρ' (.val d) := by
  cases t with
  | val => exact h
  | own => exact ed_fix h
  | sc hs => exact pe_mono h fun σ H Q ⟨F, E, q⟩ => ⟨F, E, fun F' H' v e1 E1 r1 => q F' H' v e1 E1 (sr_val (rep_sc hs r1))⟩
/-! ### containers -/
theorem reps_atI {ds : List D} {vs : List V} {j : Int} {d : D} (h : Reps K F ds vs) (g : atI ds j = some d) : ∃ v, atI vs j = some v ∧ Rep K F d v := by
  unfold atI at *
  rw [h.length]
  cases q : ixN ds.length j with
  | none => rw [q] at g; cases g
  | some i => rw [q] at g; exact h.getD g
inductive IxD : Slot → Int → Slot → Prop where
  | lst {k : Bool} {ds : List D} {j : Int} {d : D} (h : atI ds j = some d) : IxD (.v k (.lst ds)) j (.v k d)
  | tup {k : Bool} {ds : List D} {j : Int} {d : D} (h : atI ds j = some d) : IxD (.v k (.tup ds)) j (.v k d)
  | str {k : Bool} {s : Str} {j : Int} {c : Nat} (h : atI s.cps.toList j = some c) (hz : s.length ≤ sizeLine) : IxD (.v k (.str s)) j (.val (.str ⟨#[c]⟩))
theorem ed_ix {j : Int} (ha : ED X G a ρ ρ1 s) (hb : ED X G b ρ1 ρ2 (.v k2 (.int j))) (h : IxD s j z) (hp : PlainIx b := by exact fun _ _ => rfl) : ED X G (.Subscript a b pos) ρ ρ2 z := by
  cases h with
  | lst h =>
    exact ed_bin (fun h1 h2 => pe_ix ix_list h1 h2 hp) ha hb fun σ F H v u Q E hv hu q => by
      obtain ⟨p, vs, rfl, h2, h3⟩ := Rep.lstH E.atH hv
      obtain ⟨w, g1, g2⟩ := reps_atI h3 h
      rw [rep_int] at hu
      exact ⟨p, vs, _, w, rfl, hu, sql_rd h2, g1, q F H w (Ext.refl _) E g2⟩
  | tup h =>
    exact ed_bin (fun h1 h2 => pe_ix ix_tup h1 h2 hp) ha hb fun σ F H v u Q E hv hu q => by
      obtain ⟨p, vs, rfl, h2, h3⟩ := Rep.tupH E.atH hv
      obtain ⟨w, g1, g2⟩ := reps_atI h3 h
      rw [rep_int] at hu
      exact ⟨p, vs, _, w, rfl, hu, h2, g1, q F H w (Ext.refl _) E g2⟩
  | str h hz =>
    exact ed_bin (fun h1 h2 => pe_ix ix_str h1 h2 hp) ha hb fun σ F H v u Q E hv hu q => by
      rw [rep_str] at hv
      rw [rep_int] at hu
      exact ⟨_, _, _, hv, hu, hz, h, q F H _ (Ext.refl _) E sr_str⟩
/-- an item of a list of the def's own -/
theorem ed_ixO {i : Nat} {j : Int} (hN : X.N[i]? = some n) (hv : Vis X.env.scope n) (h0 : ρ[i]? = some (some (.own es))) (hb : ED X G b ρ ρ1 (.v k2 (.int j))) (h1 : ρ1[i]? = some (some (.own ds))) (h : atI ds j = some d) (hp : PlainIx b := by exact fun _ _ => rfl)
    (hd : (n == ("__debug__" : Str)) = false := by decide) (hcd : (n == ("__classdict__" : Str)) = false := by decide) : ED X G (.Subscript (.Name n p) b pos) ρ ρ1 (.val d) :=
  pe_mono (pe_ix ix_list (pe_var hN hv hd hcd) hb hp) fun σ H Q ⟨F, E, q⟩ => by
    obtain ⟨a, _, g1, _⟩ := E.own i es h0
    refine ⟨_, g1, F, E, fun F1 H1 u e1 E1 r1 => ?_⟩
    obtain ⟨a', vs, g2, g3, g4, g5, g6⟩ := E1.own i ds h1
    rw [g1] at g2; cases g2
    obtain ⟨w, k1, k2⟩ := reps_atI g6 h
    exact ⟨a, vs, _, w, rfl, of_int r1, SqL.of g3, k1, q F1 H1 w e1 E1 (sr_val k2)⟩
inductive LenD : Slot → Nat → Prop where
  | lst {k : Bool} {ds : List D} : LenD (.v k (.lst ds)) ds.length
  | tup {k : Bool} {ds : List D} : LenD (.v k (.tup ds)) ds.length
  | str {k : Bool} {s : Str} (hz : s.length ≤ sizeLine) : LenD (.v k (.str s)) s.length
  | own {ds : List D} : LenD (.own ds) ds.length
def tD1 (K : PySem.W.Frag) (G : Gx) (ρ ρ' : Env) (r : Slot) : TA := fun σ H Q => ∃ F, ER K G F H σ ρ ∧ ∀ F' H' v, Ext F F' → ER K G F' H' σ ρ' → SR K G F' H' σ ρ' r v → Q [v] H'
/-- one argument, as it is -/
theorem ea_one (ha : ED X G a ρ ρ1 s) (hs : starEach [a] X.env = (false, eval a X.env) :: starEach [] X.env := by rfl) : PA X [a] (tD1 X.K G ρ ρ1 s) :=
  pa_mono (pa_cons ha pa_nil hs) fun σ H Q ⟨F, E, q⟩ => ⟨F, E, fun F1 H1 v e1 E1 r1 => q F1 H1 v e1 E1 r1⟩
theorem ed_len {m : Nat} (hg : Gl X "len") (hm : X.mg "len" = none) (ha : ED X G a ρ ρ1 s) (h : LenD s m) (he : starEach [a] X.env = (false, eval a X.env) :: starEach [] X.env := by rfl) (hpl : (backTo pos (starEach [] X.env)).any (·.1) = false := by rfl) : ED X G (.Call (.Name "len" p) [a] [] pos) ρ ρ1 (.val (.int (m : Int))) := by
  cases h with
  | lst =>
    exact pe_mono (pe_callB call_len hg hm PySem.boot_len (ea_one ha he) (by decide) (by decide) he hpl) fun σ H Q ⟨F, E, q⟩ => ⟨F, E, fun F1 H1 v e1 E1 r1 => by
      obtain ⟨a, vs, rfl, h2, h3⟩ := Rep.lstH E1.atH r1
      exact ⟨_, _, rfl, .inl ⟨vs, sql_rd h2, rfl⟩, by rw [h3.length]; exact q F1 H1 _ e1 E1 sr_int⟩⟩
  | tup =>
    exact pe_mono (pe_callB call_len hg hm PySem.boot_len (ea_one ha he) (by decide) (by decide) he hpl) fun σ H Q ⟨F, E, q⟩ => ⟨F, E, fun F1 H1 v e1 E1 r1 => by
      obtain ⟨a, vs, rfl, h2, h3⟩ := Rep.tupH E1.atH r1
      exact ⟨_, _, rfl, .inr ⟨vs, h2, rfl⟩, by rw [h3.length]; exact q F1 H1 _ e1 E1 sr_int⟩⟩
  | str hz =>
    exact pe_mono (pe_callB call_len hg hm PySem.boot_len (ea_one ha he) (by decide) (by decide) he hpl) fun σ H Q ⟨F, E, q⟩ => ⟨F, E, fun F1 H1 v e1 E1 r1 => by
      have := of_str r1; subst this
      exact ⟨_, _, rfl, ⟨hz, rfl⟩, q F1 H1 _ e1 E1 sr_int⟩⟩
  | own =>
    exact pe_mono (pe_callB call_len hg hm PySem.boot_len (ea_one ha he) (by decide) (by decide) he hpl) fun σ H Q ⟨F, E, q⟩ => ⟨F, E, fun F1 H1 v e1 E1 r1 => by
      obtain ⟨a, vs, rfl, h2, h3, h4, h5, h6⟩ := r1
      exact ⟨_, _, rfl, .inl ⟨vs, SqL.of h2, rfl⟩, by rw [h5.length]; exact q F1 H1 _ e1 E1 sr_int⟩⟩
theorem ed_lenO {i : Nat} (hg : Gl X "len") (hm : X.mg "len" = none) (hN : X.N[i]? = some n) (hv : Vis X.env.scope n) (h0 : ρ[i]? = some (some (.own ds))) {p2 : Pos} (he : starEach [Expr.Name n p2] X.env = (false, eval (Expr.Name n p2) X.env) :: starEach [] X.env := by rfl) (hpl : (backTo pos (starEach [] X.env)).any (·.1) = false := by rfl)
    (hd : (n == ("__debug__" : Str)) = false := by decide) (hcd : (n == ("__classdict__" : Str)) = false := by decide) : ED X G (.Call (.Name "len" p) [.Name n p2] [] pos) ρ ρ (.val (.int (ds.length : Int))) :=
  pe_mono (pe_callB call_len hg hm PySem.boot_len (pa_cons (pe_var hN hv hd hcd) pa_nil he) (by decide) (by decide) he hpl) fun σ H Q ⟨F, E, q⟩ => by
    obtain ⟨a, vs, g2, g3, g4, g5, g6⟩ := E.own i ds h0
    exact ⟨_, g2, _, _, rfl, .inl ⟨vs, SqL.of g3, rfl⟩, by rw [g6.length]; exact q F H _ (Ext.refl _) E sr_int⟩
/-! ### statements -/
theorem ER.put (E : ER K G F H σ ρ) (hs : SR K G F H σ ρ r v) {i : Nat} (hm : G.ms[i]? ≠ some true) : ER K G F H (σ.set i (some v)) (ρ.set i (some r)) := by
  have ne {j : Nat} (h : G.ms[j]? = some true) : i ≠ j := fun q => hm (q ▸ h)
  have get {j : Nat} {x : Option Slot} (h : (ρ.set i (some r))[j]? = some x) : (i = j ∧ x = some r ∧ (σ.set i (some v))[j]? = some (some v)) ∨ (i ≠ j ∧ ρ[j]? = some x ∧ (σ.set i (some v))[j]? = σ[j]?) := by
    by_cases q : i = j
    · subst q
      have hl : i < ρ.length := by
        have := (List.getElem?_eq_some_iff.mp h).1
        rw [List.length_set] at this; exact this
      refine .inl ⟨rfl, getset_eq h, ?_⟩
      rw [List.getElem?_set, if_pos rfl, if_pos (by rw [E.len]; exact hl)]
    · rw [getset_ne q] at h
      exact .inr ⟨q, h, getset_ne q⟩
  refine ⟨E.ext, E.sub, E.new, E.keep, E.there, fun j hj => ?_, fun j k d hj => ?_, fun j ds hj => ?_, fun j l a ds es n1 h1 h2 s1 s2 => ?_, by rw [List.length_set, List.length_set]; exact E.len⟩
  · rw [getset_ne (ne hj)]; exact E.arg j hj
  · rcases get hj with ⟨_, q, g⟩ | ⟨_, q, g⟩
    · injection q with q
      subst q
      exact ⟨v, g, hs⟩
    · rw [g]; exact E.val j k d q
  · rcases get hj with ⟨_, q, g⟩ | ⟨_, q, g⟩
    · injection q with q
      subst q
      obtain ⟨a, vs, rfl, h2, h3, h4, h5, _⟩ := hs
      exact ⟨a, vs, g, h2, h3, .inl h4, h5⟩
    · rw [g]; exact E.own j ds q
  · rcases get h1 with ⟨z1, q1, g1⟩ | ⟨_, q1, g1⟩
    · rcases get h2 with ⟨z2, _⟩ | ⟨_, q2, g2⟩
      · exact n1 (z1.symm.trans z2)
      · injection q1 with q1
        subst q1
        obtain ⟨a', vs, rfl, _, _, _, _, h6⟩ := hs
        rw [g1] at s1; cases s1
        rw [g2] at s2
        exact h6 l es q2 s2
    · rcases get h2 with ⟨z2, q2, g2⟩ | ⟨_, q2, g2⟩
      · injection q2 with q2
        subst q2
        obtain ⟨a', vs, rfl, _, _, _, _, h6⟩ := hs
        rw [g2] at s2; cases s2
        rw [g1] at s1
        exact h6 j ds q1 s1
      · rw [g1] at s1; rw [g2] at s2
        exact E.inj j l a ds es n1 q1 q2 s1 s2
variable {st : Stmt} {rest sts els : List Stmt} {P : Out → Prop}
theorem sd_set {i : Nat} {pos' : Pos} (hN : X.N.Nodup) (hi : X.N[i]? = some n) (hx : Loc X.env.scope n) (he : ED X G e ρ ρ1 r) (hm : G.ms[i]? ≠ some true) (q : P (.nx (ρ1.set i (some r)))) (hs : swapsWith e (some (.Name n pos')) pos.line X.env = pure false := by rfl)
    (hf : X.fn n = true ∨ X.env.scope.names.lookup n = some .local := by first | exact .inl rfl | exact .inr rfl | assumption) : SD X G (.Assign [.Name n pos'] e pos) ρ P :=
  ps_mono (ps_set hN hi hx he hs hf) fun D σ H ⟨F, E, q1, _⟩ => ⟨F, E, fun F1 H1 v e1 E1 r1 => q1 _ F1 H1 _ q e1 (E1.put r1 hm)⟩
theorem sd_expr (he : ED X G e ρ ρ1 r) (q : P (.nx ρ1)) (hs : swapsWith e none pos.line X.env = pure false := by rfl) : SD X G (.Expr e pos) ρ P :=
  ps_mono (ps_expr he hs) fun D σ H ⟨F, E, q1, _⟩ => ⟨F, E, fun F1 H1 v e1 E1 r1 => q1 _ F1 H1 _ q e1 E1⟩
theorem sd_ret (he : ED X G e ρ ρ1 r) (q : P (.ret r ρ1)) : SD X G (.Return (some e) pos) ρ P :=
  ps_mono (ps_ret he) fun D σ H ⟨F, E, _, q1, _⟩ => ⟨F, E, fun F1 H1 v e1 E1 r1 => q1 _ _ F1 H1 σ v q e1 E1 r1⟩
theorem sd_retN (q : P (.ret (.val .non) ρ)) : SD X G (.Return none pos) ρ P :=
  ps_mono ps_retN fun D σ H ⟨F, E, _, q1, _⟩ => q1 _ _ F H σ _ q (Ext.refl _) E sr_non
theorem sd_pass (q : P (.nx ρ)) : SD X G (.Pass pos) ρ P := ps_mono ps_pass fun D σ H ⟨F, E, q1, _⟩ => q1 _ F H σ q (Ext.refl _) E
theorem sd_brk (q : P (.bk ρ)) : SD X G (.Break pos) ρ P := ps_mono ps_break fun D σ H ⟨F, E, _, _, q1, _⟩ => q1 _ F H σ q (Ext.refl _) E
theorem sd_ct (q : P (.ct ρ)) : SD X G (.Continue pos) ρ P := ps_mono ps_continue fun D σ H ⟨F, E, _, _, _, q1⟩ => q1 _ F H σ q (Ext.refl _) E
theorem bd_nil (q : P (.nx ρ)) : BD X G [] ρ P := pss_mono pss_nil fun D σ H ⟨F, E, q1, _⟩ => q1 _ F H σ q (Ext.refl _) E
/-- what must hold behind a statement, with more statements to come -/
def thenP (X : Cx) (G : Gx) (rest : List Stmt) (P : Out → Prop) : Out → Prop
  | .nx ρ => BD X G rest ρ P
  | o => P o
theorem bd_cons (h : SD X G st ρ (thenP X G rest P)) : BD X G (st :: rest) ρ P := by
  have hr : PSs X rest (fun D σ H => ∃ ρ', thenP X G rest P (.nx ρ') ∧ tS X.K G ρ' P D σ H) := pss_any (p := fun ρ' => thenP X G rest P (.nx ρ')) fun ρ' h => h
  refine pss_mono (pss_cons h hr) fun D σ H ⟨F, E, q1, q2, q3, q4⟩ => ⟨F, E, fun ρ' F' H' σ' hp e1 E1 => ⟨ρ', hp, F', E1, ?_, ?_, ?_, ?_⟩, q2, q3, q4⟩
  · exact fun ρ2 F2 H2 σ2 h2 e2 E2 => q1 ρ2 F2 H2 σ2 h2 (e1.trans e2) E2
  · exact fun r ρ2 F2 H2 σ2 v h2 e2 E2 r2 => q2 r ρ2 F2 H2 σ2 v h2 (e1.trans e2) E2 r2
  · exact fun ρ2 F2 H2 σ2 h2 e2 E2 => q3 ρ2 F2 H2 σ2 h2 (e1.trans e2) E2
  · exact fun ρ2 F2 H2 σ2 h2 e2 E2 => q4 ρ2 F2 H2 σ2 h2 (e1.trans e2) E2
theorem tS_ext {D : Ends} {σ : L2.St} {H F1 H1 : Hp} (E1 : ER K G F1 H1 σ ρ1) (e1 : Ext F F1)
    (q : (∀ ρ' F' H' σ', P (.nx ρ') → Ext F F' → ER K G F' H' σ' ρ' → D.nx σ' H') ∧ (∀ r ρ' F' H' σ' v, P (.ret r ρ') → Ext F F' → ER K G F' H' σ' ρ' → SR K G F' H' σ' ρ' r v → D.rt v H') ∧
      (∀ ρ' F' H' σ', P (.bk ρ') → Ext F F' → ER K G F' H' σ' ρ' → D.bk σ' H') ∧ (∀ ρ' F' H' σ', P (.ct ρ') → Ext F F' → ER K G F' H' σ' ρ' → D.ct σ' H')) : tS K G ρ1 P D σ H1 :=
  ⟨F1, E1, fun ρ2 F2 H2 σ2 h2 e2 E2 => q.1 ρ2 F2 H2 σ2 h2 (e1.trans e2) E2, fun r ρ2 F2 H2 σ2 v h2 e2 E2 r2 => q.2.1 r ρ2 F2 H2 σ2 v h2 (e1.trans e2) E2 r2,
    fun ρ2 F2 H2 σ2 h2 e2 E2 => q.2.2.1 ρ2 F2 H2 σ2 h2 (e1.trans e2) E2, fun ρ2 F2 H2 σ2 h2 e2 E2 => q.2.2.2 ρ2 F2 H2 σ2 h2 (e1.trans e2) E2⟩
theorem sd_if (hc : ET X G c ρ ρ1 k) (h1 : k = true → BD X G sts ρ1 P) (h2 : k = false → BD X G els ρ1 P) : SD X G (.If c sts els pos) ρ P := by
  cases k with
  | true =>
    refine ps_mono (ps_if (u := tNever) hc (h1 rfl) pss_never) fun D σ H ⟨F, E, q⟩ => ⟨F, E, fun F1 H1 e1 E1 => ?_⟩
    show tS X.K G ρ1 P D σ H1
    exact tS_ext (H := H) E1 e1 q
  | false =>
    refine ps_mono (ps_if (t := tNever) hc pss_never (h2 rfl)) fun D σ H ⟨F, E, q⟩ => ⟨F, E, fun F1 H1 e1 E1 => ?_⟩
    show tS X.K G ρ1 P D σ H1
    exact tS_ext (H := H) E1 e1 q
/-- what must hold at the end of a turn -/
def turnP (J : Env → Prop) (P : Out → Prop) : Out → Prop
  | .nx ρ => J ρ
  | .ct ρ => J ρ
  | .bk ρ => P (.nx ρ)
  | .ret r ρ => P (.ret r ρ)
inductive Walked : Slot → Bool → List D → Prop where
  | lst {k : Bool} {ds : List D} : Walked (.v k (.lst ds)) k ds
  | tup {k : Bool} {ds : List D} : Walked (.v k (.tup ds)) k ds
def tTurn (K : PySem.W.Frag) (G : Gx) (ds : List D) (k : Bool) (i : Nat) (J : Nat → Env → Prop) (P : Out → Prop) : TS := fun D σ H => ∃ q : Nat × DL.D × Env, (ds[q.1]? = some q.2.1 ∧ J q.1 q.2.2) ∧ tS K G (q.2.2.set i (some (.v k q.2.1))) (turnP (J (q.1 + 1)) P) D σ H
/-- for n in a list (a tuple): J i, what holds of the frame ahead of turn i -/
theorem sd_for {i : Nat} {pos' : Pos} (J : Nat → Env → Prop) (hN : X.N.Nodup) (hi : X.N[i]? = some n) (hx : Loc X.env.scope n) (he : ED X G e ρ ρ1 s) (hw : Walked s k ds) (hm : G.ms[i]? ≠ some true) (h0 : J 0 ρ1)
    (ht : ∀ (t : Nat) d ρ', ds[t]? = some d → J t ρ' → BD X G sts (ρ'.set i (some (.v k d))) (turnP (J (t + 1)) P)) (hd : ∀ ρ', J ds.length ρ' → P (.nx ρ')) (hp : PassesOwn (model X.prog X.w) X.A X.env X.xe) (hc : X.calm = true)
    (hs : ∀ x, foldedSetIterable e X.env x = pure x := by intro _; rfl) (hf : X.fn n = true ∨ X.env.scope.names.lookup n = some .local := by first | exact .inl rfl | exact .inr rfl | assumption) : SD X G (.For (.Name n pos') e sts [] pos) ρ P := by
  have hb : PSs X sts (tTurn X.K G ds k i J P) := pss_any fun q hq => ht q.1 q.2.1 q.2.2 hq.1 hq.2
  cases hw with
  | lst =>
    refine ps_mono (ps_for hp hc (pi_list he) (pg_name hN hi hx hf) hb hs) fun D σ H ⟨F, E, q1, q2, q3, q4⟩ => ⟨F, E, fun F1 H1 v e1 E1 r1 => ?_⟩
    obtain ⟨a, vs, rfl, hl, hr⟩ : ∃ a vs, v = V.ref a ∧ Rd (G.at F1 k) a (.lst vs) ∧ Reps X.K (G.at F1 k) ds vs := rep_lst.mp r1
    refine ⟨a, rfl, ⟨vs, sql_rd (E1.atH.rd hl)⟩, for_list (g := gName i) (tb := tTurn X.K G ds k i J P) (D := D) (K := X.K) (a := a) (xs := vs) (fun t σ' H' => ∃ F' ρ', J t ρ' ∧ Ext F1 F' ∧ ER X.K G F' H' σ' ρ') ⟨F1, ρ1, h0, Ext.refl _, E1⟩ ?_ ?_ ?_⟩
    · rintro t σ' H' _ ⟨F', ρ', _, e2, E2⟩
      exact sql_rd (E2.atH.rd ((at_ext e2).rd hl))
    · rintro t x σ' H' hx ⟨F', ρ', hj, e2, E2⟩
      obtain ⟨d, hd1, hd2⟩ := hr.get hx
      refine ⟨(t, d, ρ'), ⟨hd1, hj⟩, F', E2.put (r := .v k d) (Rep.mono (at_ext e2) _ _ hd2) hm, ?_, ?_, ?_, ?_⟩
      · exact fun ρ3 F3 H3 σ3 h3 e3 E3 => ⟨F3, ρ3, h3, e2.trans e3, E3⟩
      · exact fun r ρ3 F3 H3 σ3 v h3 e3 E3 r3 => q2 r ρ3 F3 H3 σ3 v h3 ((e1.trans e2).trans e3) E3 r3
      · exact fun ρ3 F3 H3 σ3 h3 e3 E3 => q1 ρ3 F3 H3 σ3 h3 ((e1.trans e2).trans e3) E3
      · exact fun ρ3 F3 H3 σ3 h3 e3 E3 => ⟨F3, ρ3, h3, e2.trans e3, E3⟩
    · rintro σ' H' ⟨F', ρ', hj, e2, E2⟩
      rw [hr.length] at hj
      exact q1 ρ' F' H' σ' (hd ρ' hj) (e1.trans e2) E2
  | tup =>
    refine ps_mono (ps_for hp hc (pi_tup he) (pg_name hN hi hx hf) hb hs) fun D σ H ⟨F, E, q1, q2, q3, q4⟩ => ⟨F, E, fun F1 H1 v e1 E1 r1 => ?_⟩
    obtain ⟨a, vs, rfl, ⟨hl, _⟩, hr⟩ : ∃ a vs, v = V.ref a ∧ SqX X.K (G.at F1 k) a vs ∧ Reps X.K (G.at F1 k) ds vs := rep_tup.mp r1
    refine ⟨a, rfl, ⟨vs, E1.atH.sqT hl⟩, for_tup (g := gName i) (tb := tTurn X.K G ds k i J P) (D := D) (K := X.K) (a := a) (xs := vs) (fun t σ' H' => ∃ F' ρ', J t ρ' ∧ Ext F1 F' ∧ ER X.K G F' H' σ' ρ') ⟨F1, ρ1, h0, Ext.refl _, E1⟩ ?_ ?_ ?_⟩
    · rintro t σ' H' _ ⟨F', ρ', _, e2, E2⟩
      exact E2.atH.sqT ((at_ext e2).sqT hl)
    · rintro t x σ' H' hx ⟨F', ρ', hj, e2, E2⟩
      obtain ⟨d, hd1, hd2⟩ := hr.get hx
      refine ⟨(t, d, ρ'), ⟨hd1, hj⟩, F', E2.put (r := .v k d) (Rep.mono (at_ext e2) _ _ hd2) hm, ?_, ?_, ?_, ?_⟩
      · exact fun ρ3 F3 H3 σ3 h3 e3 E3 => ⟨F3, ρ3, h3, e2.trans e3, E3⟩
      · exact fun r ρ3 F3 H3 σ3 v h3 e3 E3 r3 => q2 r ρ3 F3 H3 σ3 v h3 ((e1.trans e2).trans e3) E3 r3
      · exact fun ρ3 F3 H3 σ3 h3 e3 E3 => q1 ρ3 F3 H3 σ3 h3 ((e1.trans e2).trans e3) E3
      · exact fun ρ3 F3 H3 σ3 h3 e3 E3 => ⟨F3, ρ3, h3, e2.trans e3, E3⟩
    · rintro σ' H' ⟨F', ρ', hj, e2, E2⟩
      rw [hr.length] at hj
      exact q1 ρ' F' H' σ' (hd ρ' hj) (e1.trans e2) E2
/-- for n in range(m) -/
theorem sd_forR {i : Nat} {m : Int} {pos' p3 p4 : Pos} (J : Nat → Env → Prop) (hN : X.N.Nodup) (hi : X.N[i]? = some n) (hx : Loc X.env.scope n) (hg : Gl X "range") (hmr : X.mg "range" = none) (he : ED X G e ρ ρ1 (.v k (.int m))) (hz : m < 2 ^ 62 ∧ -(2 ^ 62) ≤ m) (hm : G.ms[i]? ≠ some true) (h0 : J 0 ρ1)
    (ht : ∀ (t : Nat) ρ', t < m.toNat → J t ρ' → BD X G sts (ρ'.set i (some (.val (.int (t : Int))))) (turnP (J (t + 1)) P)) (hd : ∀ ρ', J m.toNat ρ' → P (.nx ρ')) (hp : PassesOwn (model X.prog X.w) X.A X.env X.xe) (hc : X.calm = true)
    (hs0 : starEach [e] X.env = [(false, eval e X.env)] := by rfl) (hs : ∀ x, foldedSetIterable (.Call (.Name "range" p3) [e] [] p4) X.env x = pure x := by intro _; rfl) (hf : X.fn n = true ∨ X.env.scope.names.lookup n = some .local := by first | exact .inl rfl | exact .inr rfl | assumption) :
    SD X G (.For (.Name n pos') (.Call (.Name "range" p3) [e] [] p4) sts [] pos) ρ P := by
  have hb : PSs X sts (fun D σ H => ∃ i', (fun (q : Nat × Env) => q.1 < m.toNat ∧ J q.1 q.2) i' ∧ tS X.K G (i'.2.set i (some (.val (.int (i'.1 : Int))))) (turnP (J (i'.1 + 1)) P) D σ H) := pss_any fun q hq => ht q.1 q.2 hq.1 hq.2
  refine ps_mono (ps_for hp hc (pi_range1 hg hmr (ea_one he hs0) hs0) (pg_name hN hi hx hf) hb hs) fun D σ H ⟨F, E, q1, q2, q3, q4⟩ => ⟨F, E, fun F1 H1 v e1 E1 r1 => ?_⟩
  have := of_int r1
  subst this
  refine ⟨m, rfl, hz.2, hz.1, for_range (lo := 0) (n := m.toNat) (g := gName i) (tb := fun D σ H => ∃ i', (fun (q : Nat × Env) => q.1 < m.toNat ∧ J q.1 q.2) i' ∧ tS X.K G (i'.2.set i (some (.val (.int (i'.1 : Int))))) (turnP (J (i'.1 + 1)) P) D σ H) (D := D) (fun t σ' H' => ∃ F' ρ', J t ρ' ∧ Ext F1 F' ∧ ER X.K G F' H' σ' ρ') ⟨F1, ρ1, h0, Ext.refl _, E1⟩ ?_ ?_⟩
  · rintro t σ' H' hx ⟨F', ρ', hj, e2, E2⟩
    refine ⟨(t, ρ'), ⟨hx, hj⟩, F', ?_, ?_, ?_, ?_, ?_⟩
    · have e0 : (0 : Int) + (t : Int) = (t : Int) := Int.zero_add _
      rw [e0]; exact E2.put (r := .val (.int (t : Int))) sr_int hm
    · exact fun ρ3 F3 H3 σ3 h3 e3 E3 => ⟨F3, ρ3, h3, e2.trans e3, E3⟩
    · exact fun r ρ3 F3 H3 σ3 v h3 e3 E3 r3 => q2 r ρ3 F3 H3 σ3 v h3 ((e1.trans e2).trans e3) E3 r3
    · exact fun ρ3 F3 H3 σ3 h3 e3 E3 => q1 ρ3 F3 H3 σ3 h3 ((e1.trans e2).trans e3) E3
    · exact fun ρ3 F3 H3 σ3 h3 e3 E3 => ⟨F3, ρ3, h3, e2.trans e3, E3⟩
  · rintro σ' H' ⟨F', ρ', hj, e2, E2⟩
    exact q1 ρ' F' H' σ' (hd ρ' hj) (e1.trans e2) E2
/-- a word between a statement and what comes behind it -/
theorem bd_cut (M : Env → Prop) (h : SD X G st ρ (fun o => match o with | .nx ρ' => M ρ' | o => P o)) (k : ∀ ρ', M ρ' → BD X G rest ρ' P) : BD X G (st :: rest) ρ P := by
  refine bd_cons (ps_mono h fun D σ H ⟨F, E, q1, q2, q3, q4⟩ => ⟨F, E, fun ρ' F' H' σ' hp e E1 => q1 ρ' F' H' σ' (k ρ' hp) e E1, q2, q3, q4⟩)
theorem sd_imp {P' : Out → Prop} (h : SD X G st ρ P') (i : ∀ o, P' o → P o) : SD X G st ρ P :=
  ps_mono h fun D σ H ⟨F, E, q1, q2, q3, q4⟩ => ⟨F, E, fun ρ' F' H' σ' hp => q1 ρ' F' H' σ' (i _ hp), fun r ρ' F' H' σ' v hp => q2 r ρ' F' H' σ' v (i _ hp), fun ρ' F' H' σ' hp => q3 ρ' F' H' σ' (i _ hp), fun ρ' F' H' σ' hp => q4 ρ' F' H' σ' (i _ hp)⟩
end
end DL
/-! DL3: defs and their calls. -/
namespace DL
open PySem L2
def isOwn : Slot → Bool
  | .own _ => true
  | _ => false
section
variable {X : Cx} {G : Gx} {e a b c : Expr} {ρ ρ' ρ0 ρ1 ρ2 ρ3 : Env} {r s z : Slot} {d x y w : D} {ds es : List D} {K : PySem.W.Frag} {F F' H H' : Hp} {σ : L2.St} {v u : V} {pos p : Pos} {k k1 k2 : Bool} {n : Str} {xs : List Expr}
/-! ### what is handed over -/
inductive ArgS where
  | ex (k : Bool) (d : D)
  | var (i : Nat)
def AsR (K : PySem.W.Frag) (G : Gx) (F : Hp) (σ : L2.St) : List ArgS → List V → Prop
  | [], vs => vs = []
  | .ex k d :: r, vs => ∃ v t, vs = v :: t ∧ Rep K (G.at F k) d v ∧ AsR K G F σ r t
  | .var i :: r, vs => ∃ v t, vs = v :: t ∧ σ[i]? = some (some v) ∧ AsR K G F σ r t
theorem AsR.mono (e : Ext F F') : ∀ {as : List ArgS} {vs : List V}, AsR K G F σ as vs → AsR K G F' σ as vs
  | [], vs, h => h
  | .ex k d :: r, vs, h => by
    obtain ⟨v, t, h1, h2, h3⟩ := h
    exact ⟨v, t, h1, Rep.mono (at_ext e) _ _ h2, h3.mono e⟩
  | .var i :: r, vs, h => by
    obtain ⟨v, t, h1, h2, h3⟩ := h
    exact ⟨v, t, h1, h2, h3.mono e⟩
theorem AsR.len : ∀ {as : List ArgS} {vs : List V}, AsR K G F σ as vs → vs.length = as.length
  | [], vs, h => by rw [show vs = [] from h] <;> rfl
  | .ex k d :: r, vs, h => by
    obtain ⟨v, t, rfl, _, h3⟩ := h
    show t.length + 1 = r.length + 1
    rw [h3.len]
  | .var i :: r, vs, h => by
    obtain ⟨v, t, rfl, _, h3⟩ := h
    show t.length + 1 = r.length + 1
    rw [h3.len]
theorem AsR.ex : ∀ {as : List ArgS} {vs : List V} {j : Nat} {k : Bool} {d : D}, AsR K G F σ as vs → as[j]? = some (.ex k d) → ∃ v, vs[j]? = some v ∧ Rep K (G.at F k) d v
  | [], vs, j, k, d, h, g => by cases g
  | .ex k' d' :: r, vs, 0, k, d, h, g => by
    obtain ⟨v, t, rfl, h2, h3⟩ := h
    injection g with g; injection g with g1 g2; subst g1; subst g2
    exact ⟨v, rfl, h2⟩
  | .ex k' d' :: r, vs, j + 1, k, d, h, g => by
    obtain ⟨v, t, rfl, h2, h3⟩ := h
    exact h3.ex (j := j) g
  | .var i :: r, vs, 0, k, d, h, g => by cases g
  | .var i :: r, vs, j + 1, k, d, h, g => by
    obtain ⟨v, t, rfl, h2, h3⟩ := h
    exact h3.ex (j := j) g
theorem AsR.var : ∀ {as : List ArgS} {vs : List V} {j i : Nat}, AsR K G F σ as vs → as[j]? = some (.var i) → ∃ v, vs[j]? = some v ∧ σ[i]? = some (some v)
  | [], vs, j, i, h, g => by cases g
  | .ex k' d' :: r, vs, 0, i, h, g => by cases g
  | .ex k' d' :: r, vs, j + 1, i, h, g => by
    obtain ⟨v, t, rfl, h2, h3⟩ := h
    exact h3.var (j := j) g
  | .var i' :: r, vs, 0, i, h, g => by
    obtain ⟨v, t, rfl, h2, h3⟩ := h
    injection g with g; injection g with g1; subst g1
    exact ⟨v, rfl, h2⟩
  | .var i' :: r, vs, j + 1, i, h, g => by
    obtain ⟨v, t, rfl, h2, h3⟩ := h
    exact h3.var (j := j) g
def tAs (K : PySem.W.Frag) (G : Gx) (ρ ρ' : Env) (as : List ArgS) : TA := fun σ H Q => ∃ F, ER K G F H σ ρ ∧ ∀ F' H' vs, Ext F F' → ER K G F' H' σ ρ' → AsR K G F' σ as vs → Q vs H'
abbrev EAs (X : Cx) (G : Gx) (es : List Expr) (ρ ρ' : Env) (as : List ArgS) : Prop := PA X es (tAs X.K G ρ ρ' as)
variable {as : List ArgS} {args outs : List Slot}
theorem as_nil : EAs X G [] ρ ρ [] := pa_mono pa_nil fun σ H Q ⟨F, E, q⟩ => q F H [] (Ext.refl _) E rfl
theorem as_ex (ha : ED X G a ρ ρ1 (.v k d)) (hr : EAs X G xs ρ1 ρ2 as) (hs : starEach (a :: xs) X.env = (false, eval a X.env) :: starEach xs X.env := by rfl) : EAs X G (a :: xs) ρ ρ2 (.ex k d :: as) :=
  pa_mono (pa_cons ha hr hs) fun σ H Q ⟨F, E, q⟩ => ⟨F, E, fun F1 H1 v e1 E1 r1 => ⟨F1, E1, fun F2 H2 vs e2 E2 r2 => q F2 H2 (v :: vs) (e1.trans e2) E2 ⟨v, vs, rfl, Rep.mono (at_ext e2) _ _ r1, r2⟩⟩⟩
theorem as_own {i : Nat} (hN : X.N[i]? = some n) (hv : Vis X.env.scope n) (h0 : ρ[i]? = some (some (.own ds))) (hr : EAs X G xs ρ ρ2 as) (hs : starEach (.Name n p :: xs) X.env = (false, eval (.Name n p) X.env) :: starEach xs X.env := by rfl)
    (hd : (n == ("__debug__" : Str)) = false := by decide) (hcd : (n == ("__classdict__" : Str)) = false := by decide) : EAs X G (.Name n p :: xs) ρ ρ2 (.var i :: as) :=
  pa_mono (pa_cons (pe_var hN hv hd hcd) hr hs) fun σ H Q ⟨F, E, q⟩ => by
    obtain ⟨a, vs, h1, _⟩ := E.own i ds h0
    exact ⟨_, h1, F, E, fun F2 H2 ws e2 E2 r2 => q F2 H2 (V.ref a :: ws) e2 E2 ⟨_, ws, rfl, h1, r2⟩⟩
/-- how the caller's side becomes the def's -/
inductive ArgTo (ρ : Env) : ArgS → Slot → Prop where
  | val {d : D} : ArgTo ρ (.ex true d) (.v true d)
  | view {k : Bool} {d : D} : ArgTo ρ (.ex k d) (.v false d)
  | sc {k k' : Bool} {d : D} (h : isSc d = true) : ArgTo ρ (.ex k d) (.v k' d)
  | own {i : Nat} {ds : List D} (h : ρ[i]? = some (some (.own ds))) : ArgTo ρ (.var i) (.own ds)
  | bor {i : Nat} {ds : List D} (h : ρ[i]? = some (some (.own ds))) : ArgTo ρ (.var i) (.v false (.lst ds))
inductive ArgsTo (ρ : Env) : List ArgS → List Slot → Prop where
  | nil : ArgsTo ρ [] []
  | cons {a : ArgS} {s : Slot} {as : List ArgS} {ss : List Slot} (h : ArgTo ρ a s) (t : ArgsTo ρ as ss) : ArgsTo ρ (a :: as) (s :: ss)
theorem ArgsTo.len (h : ArgsTo ρ as args) : as.length = args.length := by
  induction h with
  | nil => rfl
  | cons _ _ ih => simp [ih]
theorem ArgsTo.get (h : ArgsTo ρ as args) : ∀ {j : Nat} {s : Slot}, args[j]? = some s → ∃ a, as[j]? = some a ∧ ArgTo ρ a s := by
  induction h with
  | nil => intro j s g; cases g
  | @cons a s' as ss h t ih =>
    intro j s g
    cases j with
    | zero => injection g with g; subst g; exact ⟨a, rfl, h⟩
    | succ j => exact ih (j := j) g
/-- the names of one's own that are handed over, each at most once -/
def varsOf : List ArgS → List Nat
  | [] => []
  | .var i :: r => i :: varsOf r
  | .ex _ _ :: r => varsOf r
theorem varsOf_mem : ∀ {as : List ArgS} {j i : Nat}, as[j]? = some (.var i) → i ∈ varsOf as
  | [], j, i, g => by cases g
  | .ex k d :: r, 0, i, g => by cases g
  | .ex k d :: r, j + 1, i, g => varsOf_mem (as := r) (j := j) g
  | .var i' :: r, 0, i, g => by injection g with g; injection g with g; subst g; exact List.mem_cons_self ..
  | .var i' :: r, j + 1, i, g => List.mem_cons_of_mem _ (varsOf_mem (as := r) (j := j) g)
theorem varsOf_inj : ∀ {as : List ArgS} {j l i : Nat}, (varsOf as).Nodup → as[j]? = some (.var i) → as[l]? = some (.var i) → j = l
  | [], j, l, i, _, g, _ => by cases g
  | .ex k d :: r, 0, l, i, _, g, _ => by cases g
  | .ex k d :: r, j + 1, 0, i, _, _, g => by cases g
  | .ex k d :: r, j + 1, l + 1, i, nd, g, g' => by rw [varsOf_inj (as := r) (j := j) (l := l) nd g g']
  | .var i' :: r, 0, 0, i, nd, g, g' => rfl
  | .var i' :: r, 0, l + 1, i, nd, g, g' => by
    injection g with g; injection g with g; subst g
    exact absurd (varsOf_mem (as := r) (j := l) g') (List.nodup_cons.mp nd).1
  | .var i' :: r, j + 1, 0, i, nd, g, g' => by
    injection g' with g'; injection g' with g'; subst g'
    exact absurd (varsOf_mem (as := r) (j := j) g) (List.nodup_cons.mp nd).1
  | .var i' :: r, j + 1, l + 1, i, nd, g, g' => by rw [varsOf_inj (as := r) (j := j) (l := l) (List.nodup_cons.mp nd).2 g g']
/-- the frame behind the call -/
def backE : Env → List ArgS → List Slot → Env
  | ρ, .var i :: as, .own ds :: outs => backE (ρ.set i (some (.own ds))) as outs
  | ρ, _ :: as, _ :: outs => backE ρ as outs
  | ρ, _, _ => ρ
theorem backE_len : ∀ (as : List ArgS) (outs : List Slot) (ρ : Env), (backE ρ as outs).length = ρ.length
  | [], outs, ρ => by cases outs <;> rfl
  | a :: as, [], ρ => by cases a <;> rfl
  | .ex k d :: as, s :: outs, ρ => by
    show (backE ρ as outs).length = _
    exact backE_len as outs ρ
  | .var i :: as, .v k d :: outs, ρ => by
    show (backE ρ as outs).length = _
    exact backE_len as outs ρ
  | .var i :: as, .own ds :: outs, ρ => by
    show (backE (ρ.set i (some (.own ds))) as outs).length = _
    rw [backE_len as outs, List.length_set]
theorem backE_out : ∀ (as : List ArgS) (outs : List Slot) (ρ : Env) {j : Nat}, (∀ (l : Nat) ds, as[l]? = some (.var j) → outs[l]? ≠ some (.own ds)) → (backE ρ as outs)[j]? = ρ[j]?
  | [], outs, ρ, j, h => by cases outs <;> rfl
  | a :: as, [], ρ, j, h => by cases a <;> rfl
  | .ex k d :: as, s :: outs, ρ, j, h => by
    show (backE ρ as outs)[j]? = _
    exact backE_out as outs ρ fun l ds g => h (l + 1) ds g
  | .var i :: as, .v k d :: outs, ρ, j, h => by
    show (backE ρ as outs)[j]? = _
    exact backE_out as outs ρ fun l ds g => h (l + 1) ds g
  | .var i :: as, .own ds :: outs, ρ, j, h => by
    show (backE (ρ.set i (some (.own ds))) as outs)[j]? = _
    rw [backE_out as outs _ fun l ds g => h (l + 1) ds g]
    have : i ≠ j := fun q => h 0 ds (by rw [q]; rfl) rfl
    exact getset_ne this
theorem backE_in : ∀ (as : List ArgS) (outs : List Slot) (ρ : Env) {j l : Nat} {ds : List D}, (varsOf as).Nodup → j < ρ.length → as[l]? = some (.var j) → outs[l]? = some (.own ds) → (backE ρ as outs)[j]? = some (some (.own ds))
  | [], outs, ρ, j, l, ds, nd, hj, h, g => by cases h
  | a :: as, [], ρ, j, l, ds, nd, hj, h, g => by cases g
  | .ex k d :: as, s :: outs, ρ, j, 0, ds, nd, hj, h, g => by cases h
  | .ex k d :: as, s :: outs, ρ, j, l + 1, ds, nd, hj, h, g => by
    show (backE ρ as outs)[j]? = _
    exact backE_in as outs ρ (l := l) nd hj h g
  | .var i :: as, .v k d :: outs, ρ, j, 0, ds, nd, hj, h, g => by cases g
  | .var i :: as, .v k d :: outs, ρ, j, l + 1, ds, nd, hj, h, g => by
    show (backE ρ as outs)[j]? = _
    exact backE_in as outs ρ (l := l) (List.nodup_cons.mp nd).2 hj h g
  | .var i :: as, .own es :: outs, ρ, j, 0, ds, nd, hj, h, g => by
    injection h with h; injection h with h; subst h
    injection g with g; injection g with g; subst g
    show (backE (ρ.set i (some (.own es))) as outs)[i]? = _
    rw [backE_out as outs _ fun l ds q => (absurd (varsOf_mem q) (List.nodup_cons.mp nd).1)]
    rw [List.getElem?_set, if_pos rfl, if_pos hj]
  | .var i :: as, .own es :: outs, ρ, j, l + 1, ds, nd, hj, h, g => by
    show (backE (ρ.set i (some (.own es))) as outs)[j]? = _
    exact backE_in as outs _ (l := l) (List.nodup_cons.mp nd).2 (by rw [List.length_set]; exact hj) h g
/-! ### a def's promise -/
def callG (F H : Hp) (vs : List V) (args : List Slot) : Gx := ⟨F, H, vs, args.map isOwn⟩
def spD (K : PySem.W.Frag) (args : List Slot) (r : Slot) (outs : List Slot) : Sp := fun vs H Q _ => vs.length = args.length ∧ ∃ F, ER K (callG F H vs args) F H (vs.map some) (args.map some) ∧
  ∀ F' H' v, Ext F F' → ER K (callG F H vs args) F' H' (vs.map some) (outs.map some) → SR K (callG F H vs args) F' H' (vs.map some) (outs.map some) r v → Q v H'
/-- results that a caller can take -/
inductive ResOk : Slot → Prop where
  | val {d : D} : ResOk (.v true d)
  | own {ds : List D} : ResOk (.own ds)
theorem map_some_get {α : Type} {l : List α} {i : Nat} {x : α} : (l.map some)[i]? = some (some x) ↔ l[i]? = some x := by
  rw [List.getElem?_map]
  cases l[i]? <;> simp
/-- the argument is a list that the def may change -/
def OwnTo (outs args : List Slot) : Prop := outs.length = args.length ∧ ∀ (i : Nat) (s : Slot), args[i]? = some s → (isOwn s = true → ∃ ds : List DL.D, outs[i]? = some (Slot.own ds)) ∧ (isOwn s = false → outs[i]? = some s)
theorem call_env {vs : List V} (E : ER K G F H σ ρ) (ha : AsR K G F σ as vs) (ht : ArgsTo ρ as args) (nd : (varsOf as).Nodup) :
    ER K (callG F H vs args) F H (vs.map some) (args.map some) ∧ (∀ k, Ext (G.at F k) (callG F H vs args).Hv) ∧ (∀ (j : Nat) (a : List DL.D), ρ[j]? = some (some (Slot.own a)) → (∀ (l : Nat) (ds : List DL.D), as[l]? = some (ArgS.var j) → args[l]? ≠ some (Slot.own ds)) → ∀ (q : Addr) (w : HO), σ[j]? = some (some (V.ref q)) → H q = some w → (callG F H vs args).Hv q = some w) := by
  have hl : vs.length = args.length := ha.len.trans ht.len
  have msT {i : Nat} (h : (args.map isOwn)[i]? = some true) : ∃ j ds, args[i]? = some (.own ds) ∧ as[i]? = some (.var j) ∧ ρ[j]? = some (some (.own ds)) := by
    rw [List.getElem?_map] at h
    cases q : args[i]? with
    | none => rw [q] at h; cases h
    | some s =>
      rw [q] at h
      cases s with
      | v k d => cases h
      | own ds =>
        obtain ⟨x, h1, h2⟩ := ht.get q
        cases h2 with
        | own h => exact ⟨_, ds, rfl, h1, h⟩
  have vsT {i j : Nat} (h : as[i]? = some (.var j)) {b : Addr} (g : vs[i]? = some (.ref b)) : σ[j]? = some (some (.ref b)) := by
    obtain ⟨v, h1, h2⟩ := ha.var h
    rw [h1] at g; cases g; exact h2
  -- an address of a list that is handed over is not in what stays
  have hv {b : Addr} {o : HO} (h : H b = some o) (q : ∀ (i j : Nat) (ds : List DL.D), as[i]? = some (ArgS.var j) → args[i]? = some (Slot.own ds) → σ[j]? ≠ some (some (V.ref b))) : (callG F H vs args).Hv b = some o :=
    Gx.h0_hv (G := callG F H vs args) h fun i hi g => by
      obtain ⟨j, ds, h1, h2, _⟩ := msT hi
      exact q i j ds h2 h1 (vsT h2 g)
  have hE : ∀ k, Ext (G.at F k) (callG F H vs args).Hv := fun k b o h => hv (E.atH _ _ h) fun i j ds h1 h2 h3 => by
    obtain ⟨x, g1, g2⟩ := ht.get h2
    rw [h1] at g1; cases g1
    cases g2 with
    | own g2 =>
      obtain ⟨a, vs', q1, q2, q3, q4, q5⟩ := E.own j ds g2
      rw [h3] at q1; cases q1
      cases k with
      | true => rw [show F b = some o from h] at q3; cases q3
      | false =>
        rcases q4 with q4 | q4
        · rw [Gx.hv_h0 h] at q4; cases q4
        · obtain ⟨v, z1, z2⟩ := E.arg j q4
          rw [h3] at z2; cases z2
          exact Gx.hv_ne h q4 z1
  have hO : ∀ (j : Nat) (a : List DL.D), ρ[j]? = some (some (Slot.own a)) → (∀ (l : Nat) (ds : List DL.D), as[l]? = some (ArgS.var j) → args[l]? ≠ some (Slot.own ds)) → ∀ (q : Addr) (w : HO), σ[j]? = some (some (V.ref q)) → H q = some w → (callG F H vs args).Hv q = some w := fun j es hj hn q w hs hq =>
    hv hq fun i l ds h1 h2 h3 => by
      by_cases z : l = j
      · subst z; exact hn i ds h1 h2
      · obtain ⟨x, g1, g2⟩ := ht.get h2
        rw [h1] at g1; cases g1
        cases g2 with
        | own g2 => exact E.inj l j q ds es z g2 hj h3 hs
  refine ⟨⟨Ext.refl _, E.sub, fun b o h => .inl h, fun b o h => Gx.hv_h0 h, fun b o h => ⟨o, h⟩, fun i hi => ?_, fun i k d hi => ?_, fun i ds hi => ?_, fun i j a ds es n h1 h2 s1 s2 => ?_, by simp [hl]⟩, hE, hO⟩
  · obtain ⟨j, ds, h1, h2, h3⟩ := msT hi
    obtain ⟨v, g1, g2⟩ := ha.var h2
    exact ⟨v, g1, map_some_get.mpr g1⟩
  · rw [map_some_get] at hi
    obtain ⟨x, h1, h2⟩ := ht.get hi
    cases h2 with
    | val =>
      obtain ⟨v, g1, g2⟩ := ha.ex h1
      exact ⟨v, map_some_get.mpr g1, g2⟩
    | @view k' _ =>
      obtain ⟨v, g1, g2⟩ := ha.ex h1
      exact ⟨v, map_some_get.mpr g1, Rep.mono (hE k') _ _ g2⟩
    | sc hs =>
      obtain ⟨v, g1, g2⟩ := ha.ex h1
      exact ⟨v, map_some_get.mpr g1, rep_sc hs g2⟩
    | @bor j ds hj =>
      obtain ⟨v, g1, g2⟩ := ha.var h1
      obtain ⟨a, ws, q1, q2, q3, q4, q5⟩ := E.own j ds hj
      rw [q1] at g2; cases g2
      refine ⟨_, map_some_get.mpr g1, rep_lst.mpr ⟨a, ws, rfl, .inl (hO j ds hj (fun l es z1 z2 => ?_) a _ q1 q2), Reps.mono (hE true) _ _ q5⟩⟩
      have := varsOf_inj nd z1 h1
      subst this
      rw [hi] at z2; cases z2
  · rw [map_some_get] at hi
    obtain ⟨x, h1, h2⟩ := ht.get hi
    cases h2 with
    | @own j _ hj =>
      obtain ⟨v, g1, g2⟩ := ha.var h1
      obtain ⟨a, ws, q1, q2, q3, q4, q5⟩ := E.own j ds hj
      rw [q1] at g2; cases g2
      refine ⟨a, ws, map_some_get.mpr g1, q2, q3, .inr ?_, q5⟩
      show (args.map isOwn)[i]? = some true
      rw [List.getElem?_map, hi]; rfl
  · rw [map_some_get] at h1 h2 s1 s2
    obtain ⟨x, g1, g2⟩ := ht.get h1
    obtain ⟨y, g3, g4⟩ := ht.get h2
    cases g2 with
    | @own l _ hl1 =>
      cases g4 with
      | @own m _ hm1 =>
        have q1 := vsT g1 s1
        have q2 := vsT g3 s2
        refine E.inj l m a ds es (fun z => ?_) hl1 hm1 q1 q2
        subst z
        exact n (varsOf_inj nd g1 g3)
/-- what a call must give, from its arguments -/
theorem call_sp {F0 F1 H1 : Hp} {vs : List V} {Q : VK} {Ex : XK} (E1 : ER K G F1 H1 σ ρ1) (e1 : Ext F0 F1) (r1 : AsR K G F1 σ as vs) (ht : ArgsTo ρ1 as args) (nd : (varsOf as).Nodup) (ho : OwnTo outs args) (hres : ResOk r)
    (q : ∀ F' H' v, Ext F0 F' → ER K G F' H' σ (backE ρ1 as outs) → SR K G F' H' σ (backE ρ1 as outs) r v → Q v H') : spD K args r outs vs H1 Q Ex := by
  obtain ⟨Ec, hE, hO⟩ := call_env E1 r1 ht nd
  refine ⟨r1.len.trans ht.len, F1, Ec, fun F2 H2 v e2 E2 r2 => q F2 H2 v (e1.trans e2) ?_ ?_⟩
  · refine ⟨E1.ext.trans e2, E2.sub, fun b o h => ?_, fun b o h => E2.keep b o (hE false b o h), fun b o h => ?_, E1.arg, fun i k d h => ?_, fun i es h => ?_, fun i j b ds es n h1 h2 s1 s2 => ?_, by rw [backE_len]; exact E1.len⟩
    · rcases E2.new b o h with h | h
      · exact E1.new b o h
      · exact .inr (E1.h0 h)
    · obtain ⟨u, hu⟩ := E1.there b o h
      exact E2.there b u hu
    · have hi : ρ1[i]? = some (some (.v k d)) := by
        by_cases z : ∃ (l : Nat) (ds : List DL.D), as[l]? = some (.var i) ∧ outs[l]? = some (.own ds)
        · obtain ⟨l, ds, z1, z2⟩ := z
          have hil : i < ρ1.length := by
            have := (List.getElem?_eq_some_iff.mp h).1
            rw [backE_len] at this; exact this
          rw [backE_in as outs ρ1 nd hil z1 z2] at h
          cases h
        · rw [backE_out as outs ρ1 fun l ds z1 z2 => z ⟨l, ds, z1, z2⟩] at h
          exact h
      obtain ⟨v, g1, g2⟩ := E1.val i k d hi
      exact ⟨v, g1, Rep.mono (at_ext e2) _ _ g2⟩
    · by_cases z : ∃ (l : Nat) (ds : List DL.D), as[l]? = some (.var i) ∧ outs[l]? = some (.own ds)
      · obtain ⟨l, ds, z1, z2⟩ := z
        have hil : i < ρ1.length := by
          have := (List.getElem?_eq_some_iff.mp h).1
          rw [backE_len] at this; exact this
        rw [backE_in as outs ρ1 nd hil z1 z2] at h
        injection h with h; injection h with h; injection h with h; subst h
        obtain ⟨a, ws, g1, g2, g3, g4, g5⟩ := E2.own l ds (map_some_get.mpr z2)
        rw [map_some_get] at g1
        obtain ⟨v, k1, k2⟩ := r1.var z1
        rw [g1] at k1; cases k1
        -- the caller's own word about this address
        have hl2 : l < args.length := by rw [← ho.1]; exact (List.getElem?_eq_some_iff.mp z2).1
        obtain ⟨s, hs⟩ : ∃ s, args[l]? = some s := ⟨_, List.getElem?_eq_getElem hl2⟩
        have hso : isOwn s = true := by
          cases hq : isOwn s with
          | true => rfl
          | false =>
            rw [((ho.2 l s hs).2 hq)] at z2
            injection z2 with z2; subst z2; cases hq
        obtain ⟨x, y1, y2⟩ := ht.get hs
        rw [z1] at y1; cases y1
        cases y2 with
        | bor => cases hso
        | own y2 =>
          obtain ⟨a', ws', m1, m2, m3, m4, m5⟩ := E1.own i _ y2
          rw [k2] at m1; cases m1
          exact ⟨a, ws, k2, g2, g3, m4, g5⟩
      · rw [backE_out as outs ρ1 fun l ds z1 z2 => z ⟨l, ds, z1, z2⟩] at h
        obtain ⟨a, ws, m1, m2, m3, m4, m5⟩ := E1.own i es h
        have hw : (callG F1 H1 vs args).Hv a = some (.lst ws) := hO i es h (fun l ds z1 z2 => by
          obtain ⟨us, hu⟩ := (ho.2 l _ z2).1 rfl
          exact z ⟨l, us, z1, hu⟩) a _ m1 m2
        refine ⟨a, ws, m1, E2.keep _ _ hw, ?_, m4, Reps.mono e2 _ _ m5⟩
        cases y : F2 a with
        | none => rfl
        | some o =>
          rcases E2.new a o y with y | y
          · rw [show F1 a = some o from y] at m3; cases m3
          · rw [show H1 a = none from y] at m2; cases m2
    · have back {i : Nat} {es : List DL.D} (h : (backE ρ1 as outs)[i]? = some (some (.own es))) : ∃ ds, ρ1[i]? = some (some (.own ds)) := by
        by_cases z : ∃ (l : Nat) (ds : List DL.D), as[l]? = some (.var i) ∧ outs[l]? = some (.own ds)
        · obtain ⟨l, ds, z1, z2⟩ := z
          have hl2 : l < args.length := by rw [← ho.1]; exact (List.getElem?_eq_some_iff.mp z2).1
          obtain ⟨s, hs⟩ : ∃ s, args[l]? = some s := ⟨_, List.getElem?_eq_getElem hl2⟩
          obtain ⟨x, y1, y2⟩ := ht.get hs
          rw [z1] at y1; cases y1
          cases y2 with
          | bor y2 => exact ⟨_, y2⟩
          | own y2 => exact ⟨_, y2⟩
        · rw [backE_out as outs ρ1 fun l ds z1 z2 => z ⟨l, ds, z1, z2⟩] at h
          exact ⟨es, h⟩
      obtain ⟨d1, h1⟩ := back h1
      obtain ⟨d2, h2⟩ := back h2
      exact E1.inj i j b d1 d2 n h1 h2 s1 s2
  · cases hres with
    | val => exact r2
    | own =>
      obtain ⟨a, ws, g1, g2, g3, g4, g5, g6⟩ := r2
      refine ⟨a, ws, g1, g2, g3, E1.h0 g4, g5, fun i es h hs => ?_⟩
      have : ∃ ds, ρ1[i]? = some (some (.own ds)) := by
        by_cases z : ∃ (l : Nat) (ds : List DL.D), as[l]? = some (.var i) ∧ outs[l]? = some (.own ds)
        · obtain ⟨l, ds, z1, z2⟩ := z
          have hl2 : l < args.length := by rw [← ho.1]; exact (List.getElem?_eq_some_iff.mp z2).1
          obtain ⟨s, hs⟩ : ∃ s, args[l]? = some s := ⟨_, List.getElem?_eq_getElem hl2⟩
          obtain ⟨x, y1, y2⟩ := ht.get hs
          rw [z1] at y1; cases y1
          cases y2 with
          | bor y2 => exact ⟨_, y2⟩
          | own y2 => exact ⟨_, y2⟩
        · rw [backE_out as outs ρ1 fun l ds z1 z2 => z ⟨l, ds, z1, z2⟩] at h
          exact ⟨es, h⟩
      obtain ⟨ds, h⟩ := this
      obtain ⟨a', ws', m1, m2, _⟩ := E1.own i ds h
      rw [hs] at m1; cases m1
      rw [show H1 a = none from g4] at m2; cases m2
/-- a call of a def of the text -/
theorem ed_call {kk : Nat} {f : Addr} {fd : FuncData} {ps : List Str} (Fo : FnOk X.prog X.w X.K X.mg X.base CX0 kk f fd ps (spD X.K args r outs)) (hr : Room kk X.A) (hg : Gl X n) (hm : X.mg n = some (.ref f)) (hk : PySem.W.keepIn X.K (.ref f) = true) (hb : Binds X.K fd ps [])
    (ha : EAs X G (a :: xs) ρ ρ1 as) (ht : ArgsTo ρ1 as args) (nd : (varsOf as).Nodup) (ho : OwnTo outs args) (hres : ResOk r) (hdb : (n == ("__debug__" : Str)) = false := by decide)
    (he : starEach (a :: xs) X.env = (false, eval a X.env) :: starEach xs X.env := by rfl) (hpl : (backTo pos (starEach xs X.env)).any (·.1) = false := by rfl) : ED X G (.Call (.Name n p) (a :: xs) [] pos) ρ (backE ρ1 as outs) r :=
  pe_mono (pe_call (E := fun _ _ _ => False) Fo hr hg hm hk hb .nil (fun _ _ _ _ _ _ _ h => h.elim) ha hdb he hpl) fun σ H Q ⟨F, E, q⟩ => ⟨F, E, fun F1 H1 vs e1 E1 r1 => by
    show spD X.K args r outs (vs ++ []) H1 Q _
    rw [List.append_nil]
    exact call_sp E1 e1 r1 ht nd ho hres q⟩
end
end DL
/-! DL4: the body of a def. -/
namespace DL
open PySem L2 PyProof.Rows
/-! ### the body of a def -/
inductive OwnL : List Slot → List Slot → Prop where
  | nil : OwnL [] []
  | v {k : Bool} {d : D} {os as : List Slot} (h : OwnL os as) : OwnL (.v k d :: os) (.v k d :: as)
  | own {ds es : List D} {os as : List Slot} (h : OwnL os as) : OwnL (.own es :: os) (.own ds :: as)
theorem OwnL.to {os as : List Slot} (h : OwnL os as) : OwnTo os as := by
  induction h with
  | nil => exact ⟨rfl, fun i s h => by cases h⟩
  | @v k d os as h ih =>
    refine ⟨by simp [ih.1], fun i s q => ?_⟩
    cases i with
    | zero => injection q with q; subst q; exact ⟨fun z => (nomatch z), fun _ => rfl⟩
    | succ i => exact ih.2 i s q
  | @own ds es os as h ih =>
    refine ⟨by simp [ih.1], fun i s q => ?_⟩
    cases i with
    | zero => injection q with q; subst q; exact ⟨fun _ => ⟨es, rfl⟩, fun z => (nomatch z)⟩
    | succ i => exact ih.2 i s q
section
variable {P : Program} {w : World} {K : PySem.W.Frag} {mg : Str → Option Value} {base : Heap}
/-- the frame at the start -/
def startE (N : List Str) (args : List Slot) : Env := args.map some ++ List.replicate (N.length - args.length) none
theorem start_get {N : List Str} {vs : List V} {i : Nat} {v : V} (h : vs[i]? = some v) : (L2.start N vs)[i]? = some (some v) := by
  unfold L2.start
  rw [List.getElem?_append_left (by rw [List.length_map]; exact (List.getElem?_eq_some_iff.mp h).1), map_some_get]; exact h
theorem startE_get {N : List Str} {args : List Slot} {i : Nat} {s : Slot} (h : (startE N args)[i]? = some (some s)) : args[i]? = some s := by
  unfold startE at h
  by_cases q : i < (args.map some).length
  · rw [List.getElem?_append_left q, map_some_get] at h; exact h
  · rw [List.getElem?_append_right (by omega), List.getElem?_replicate] at h
    split at h <;> cases h
/-- what a body's end must be: the value, and the lists that were handed in as they are now -/
def EndP (args : List Slot) (r : Slot) (outs : List Slot) : Out → Prop
  | .ret r' ρ' => r' = r ∧ ∀ (i : Nat) (ds : List DL.D), args[i]? = some (Slot.own ds) → ∃ es : List DL.D, outs[i]? = some (Slot.own es) ∧ ρ'[i]? = some (some (Slot.own es))
  | .nx ρ' => r = .val .non ∧ ∀ (i : Nat) (ds : List DL.D), args[i]? = some (Slot.own ds) → ∃ es : List DL.D, outs[i]? = some (Slot.own es) ∧ ρ'[i]? = some (some (Slot.own es))
  | _ => False
theorem end_env {args outs : List Slot} {F H F' H' : Hp} {vs : List V} {σ' : L2.St} {ρ' : Env} (ho : OwnTo outs args) (E0 : ER K (callG F H vs args) F H (vs.map some) (args.map some)) (e : Ext F F') (E : ER K (callG F H vs args) F' H' σ' ρ')
    (h : ∀ (i : Nat) (ds : List DL.D), args[i]? = some (Slot.own ds) → ∃ es : List DL.D, outs[i]? = some (Slot.own es) ∧ ρ'[i]? = some (some (Slot.own es))) :
    ER K (callG F H vs args) F' H' (vs.map some) (outs.map some) ∧ ∀ (i : Nat) (es : List DL.D), outs[i]? = some (Slot.own es) → ∃ v, vs[i]? = some v ∧ σ'[i]? = some (some v) ∧ ρ'[i]? = some (some (.own es)) := by
  have key : ∀ (i : Nat) (es : List DL.D), outs[i]? = some (Slot.own es) → (args.map isOwn)[i]? = some true ∧ ρ'[i]? = some (some (.own es)) := fun i es q => by
    have hl2 : i < args.length := by rw [← ho.1]; exact (List.getElem?_eq_some_iff.mp q).1
    obtain ⟨s, hs⟩ : ∃ s, args[i]? = some s := ⟨_, List.getElem?_eq_getElem hl2⟩
    cases s with
    | v k d => rw [(ho.2 i _ hs).2 rfl] at q; cases q
    | own ds =>
      obtain ⟨es', h1, h2⟩ := h i ds hs
      rw [h1] at q; injection q with q; injection q with q; subst q
      exact ⟨by rw [List.getElem?_map, hs]; rfl, h2⟩
  have key2 : ∀ (i : Nat) (es : List DL.D), outs[i]? = some (Slot.own es) → ∃ v, vs[i]? = some v ∧ σ'[i]? = some (some v) ∧ ρ'[i]? = some (some (.own es)) := fun i es q => by
    obtain ⟨h1, h2⟩ := key i es q
    obtain ⟨v, z1, z2⟩ := E.arg i h1
    exact ⟨v, z1, z2, h2⟩
  refine ⟨⟨E.ext, E.sub, E.new, E.keep, E.there, E0.arg, fun i k d hi => ?_, fun i es hi => ?_, fun i j b ds es n h1 h2 s1 s2 => ?_, ?_⟩, key2⟩
  · rw [map_some_get] at hi
    have hl2 : i < args.length := by rw [← ho.1]; exact (List.getElem?_eq_some_iff.mp hi).1
    obtain ⟨s, hs⟩ : ∃ s, args[i]? = some s := ⟨_, List.getElem?_eq_getElem hl2⟩
    cases s with
    | v k' d' =>
      rw [(ho.2 i _ hs).2 rfl] at hi
      injection hi with hi; injection hi with q1 q2; subst q1; subst q2
      obtain ⟨v, z1, z2⟩ := E0.val i k' d' (map_some_get.mpr hs)
      exact ⟨v, z1, Rep.mono (at_ext e) _ _ z2⟩
    | own ds =>
      obtain ⟨es', h1, h2⟩ := h i ds hs
      rw [h1] at hi; cases hi
  · rw [map_some_get] at hi
    obtain ⟨v, z1, z2, z3⟩ := key2 i es hi
    obtain ⟨a, ws, g1, g2, g3, g4, g5⟩ := E.own i es z3
    rw [g1] at z2; cases z2
    exact ⟨a, ws, map_some_get.mpr z1, g2, g3, g4, g5⟩
  · rw [map_some_get] at h1 h2 s1 s2
    obtain ⟨v, z1, z2, z3⟩ := key2 i ds h1
    obtain ⟨v', y1, y2, y3⟩ := key2 j es h2
    rw [z1] at s1; cases s1
    rw [y1] at s2; cases s2
    exact E.inj i j b ds es n z3 y3 z2 y2
  · have := E0.len
    simp only [List.length_map] at this ⊢
    rw [ho.1]; exact this
/-- at the start of a def's body: the promise, as the body's rule wants it -/
theorem start_tS {N ps : List Str} {args outs : List Slot} {r : Slot} {vs : List V} {H : Hp} {Q : VK} {E : XK} (hN : N.take ps.length = ps) (hl : args.length = ps.length) (ho : OwnTo outs args) (h : spD K args r outs vs H Q E) :
    ∃ F, tS K (callG F H vs args) (startE N args) (EndP args r outs) { nx := fun _ H' => Q .non H', rt := Q } (L2.start N vs) H := by
  obtain ⟨hv, F, E0, q⟩ := h
  refine ⟨F, F, ?_, ?_, ?_, ?_, ?_⟩
  · have hN : vs.length ≤ N.length := by
      have h2 : (N.take ps.length).length = ps.length := by rw [hN]
      rw [List.length_take] at h2
      omega
    refine ⟨E0.ext, E0.sub, E0.new, E0.keep, E0.there, fun i hi => ?_, fun i k d hi => ?_, fun i ds hi => ?_, fun i j a ds es n h1 h2 s1 s2 => ?_, ?_⟩
    · obtain ⟨v, h1, h2⟩ := E0.arg i hi
      exact ⟨v, h1, start_get (map_some_get.mp h2)⟩
    · obtain ⟨v, h1, h2⟩ := E0.val i k d (map_some_get.mpr (startE_get hi))
      exact ⟨v, start_get (map_some_get.mp h1), h2⟩
    · obtain ⟨a, ws, h1, h2⟩ := E0.own i ds (map_some_get.mpr (startE_get hi))
      exact ⟨a, ws, start_get (map_some_get.mp h1), h2⟩
    · have g1 := startE_get h1
      have g2 := startE_get h2
      obtain ⟨a1, _, z1, _⟩ := E0.own i ds (map_some_get.mpr g1)
      obtain ⟨a2, _, z2, _⟩ := E0.own j es (map_some_get.mpr g2)
      rw [start_get (map_some_get.mp z1)] at s1; cases s1
      rw [start_get (map_some_get.mp z2)] at s2; cases s2
      exact E0.inj i j a ds es n (map_some_get.mpr g1) (map_some_get.mpr g2) z1 z2
    · simp only [L2.start, startE, List.length_append, List.length_map, List.length_replicate]
      omega
  · rintro ρ' F' H' σ' ⟨rfl, h⟩ e E1
    obtain ⟨E2, _⟩ := end_env ho E0 e E1 h
    exact q F' H' .non e E2 sr_non
  · rintro r' ρ' F' H' σ' v ⟨rfl, h⟩ e E1 r1
    obtain ⟨E2, k2⟩ := end_env ho E0 e E1 h
    refine q F' H' v e E2 ?_
    cases r' with
    | v k d => exact r1
    | own ds =>
      obtain ⟨a, ws, g1, g2, g3, g4, g5, g6⟩ := r1
      refine ⟨a, ws, g1, g2, g3, g4, g5, fun i es hi hs => ?_⟩
      rw [map_some_get] at hi hs
      obtain ⟨u, z1, z2, z3⟩ := k2 i es hi
      rw [z1] at hs; cases hs
      exact g6 i es z3 z2
  · rintro ρ' F' H' σ' h; exact h.elim
  · rintro ρ' F' H' σ' h; exact h.elim
theorem fnD {x qual : Str} {st : Stmt} {f : Addr} {fd : FuncData} {N ps : List Str} {k : Nat} {args outs : List Slot} {r : Slot} (Fu : Fun K x qual st f fd) (S : FnScope N ps (defScope st)) (hl : args.length = ps.length) (ho : OwnTo outs args)
    (hbody : ∀ (cdv : Value) (A : Around) (outer : List PySem.Env) (s : Shared) (H F0 : Hp) (vs : List V) (E : XK), Room k (A.deeper (envOfC qual (defScope st) s.heap.objs.size f cdv)) →
      BD (cxOf CX0 P w K mg base N qual (defScope st) f cdv A outer s H E).nox (callG F0 H vs args) (defBody st) (startE N args) (EndP args r outs)) : FnOk P w K mg base CX0 (k + 1) f fd ps (spD K args r outs) := by
  refine Fu.ok S (fun vs H Q E h => h.1.trans hl) fun cdv A outer s H vs Q E hr h => ?_
  obtain ⟨F, h⟩ := start_tS S.pre hl ho h
  exact ⟨_, hbody cdv A outer s H F vs E hr, h⟩
inductive EndL : List Slot → List Slot → Env → Prop where
  | nil {ρ : Env} : EndL [] [] ρ
  | v {k : Bool} {d : D} {o : Slot} {x : Option Slot} {as os : List Slot} {ρ : Env} (h : EndL as os ρ) : EndL (.v k d :: as) (o :: os) (x :: ρ)
  | own {ds es es' : List D} {as os : List Slot} {ρ : Env} (e : es' = es) (h : EndL as os ρ) : EndL (.own ds :: as) (.own es :: os) (some (.own es') :: ρ)
theorem EndL.to {as os : List Slot} {ρ : Env} (h : EndL as os ρ) : ∀ (i : Nat) (ds : List DL.D), as[i]? = some (Slot.own ds) → ∃ es : List DL.D, os[i]? = some (Slot.own es) ∧ ρ[i]? = some (some (Slot.own es)) := by
  induction h with
  | nil => intro i ds q; cases q
  | v h ih =>
    intro i ds q
    cases i with
    | zero => cases q
    | succ i => exact ih i ds q
  | @own ds es es' as os ρ e h ih =>
    intro i ds q
    cases i with
    | zero => subst e; exact ⟨_, rfl, rfl⟩
    | succ i => exact ih i ds q
theorem ms_ne {o : Option Bool} (h : o = none ∨ o = some false) : o ≠ some true := by
  rcases h with h | h <;> (rw [h]; intro q; cases q)
end
end DL
/-! DL5: what is walked: for over anything, list comprehensions with what changes on the way. -/
namespace DL
open PySem L2
section
variable {X : Cx} {G G' : Gx} {e a b c : Expr} {ρ ρ' ρ0 ρ1 ρ2 ρ3 : Env} {r s z s1 s2 : Slot} {d x y w : D} {ds es : List D} {K : PySem.W.Frag} {F F1 F' H H' : Hp} {σ : L2.St} {v u : V} {pos p : Pos} {k k1 k2 : Bool} {n : Str} {xs : List Expr} {m i j : Nat}
/-! ### what a walk gives -/
inductive Yld where
  | one (s : Slot)
  | two (k1 : Bool) (d1 : D) (k2 : Bool) (d2 : D)
def YRep (K : PySem.W.Frag) (G : Gx) (F : Hp) : Yld → V → Hp → Hp → Prop
  | .one (.v k d), x, H, H' => H' = H ∧ Rep K (G.at F k) d x
  | .one (.own _), _, _, _ => False
  | .two k1 d1 k2 d2, x, H, H' => ∃ T x1 x2, x = V.ref T ∧ H T = none ∧ H' = upd H T (.tup [x1, x2]) ∧ Rep K (G.at F k1) d1 x1 ∧ Rep K (G.at F k2) d2 x2
def WkOk (K : PySem.W.Frag) (G : Gx) (F : Hp) (J : It) (m : Nat) (it : Nat → Yld) : Prop :=
  ∃ Gd Y, Walk J m Gd Y ∧ (∀ H, Ext F H → Ext G.Hv H → Gd H) ∧ ∀ t H x H', t < m → Ext F H → Ext G.Hv H → Y t H x H' → YRep K G F (it t) x H H'
def tW (K : PySem.W.Frag) (G : Gx) (ρ ρ1 : Env) (m : Nat) (it : Nat → Yld) : TI := fun σ H R => ∃ F, ER K G F H σ ρ ∧ ∀ F' H' J, Ext F F' → ER K G F' H' σ ρ1 → WkOk K G F' J m it → R J H'
abbrev WD (X : Cx) (G : Gx) (tg iter : Expr) (ρ ρ1 : Env) (m : Nat) (it : Nat → Yld) : Prop := PI X tg iter (tW X.K G ρ ρ1 m it)
theorem pi_mono {tg iter : Expr} {t t' : TI} (h : PI X tg iter t) (i : ∀ σ H R, t' σ H R → t σ H R) : PI X tg iter t' := ⟨fun pins s σ H R I q => h.run pins s σ H R I (i σ H R q)⟩
/-! ### targets -/
def setAll : L2.St → List Nat → List V → L2.St
  | σ, i :: is, v :: vs => setAll (σ.set i (some v)) is vs
  | σ, _, _ => σ
def TgR (K : PySem.W.Frag) (G : Gx) (g : TG) (ix : List Nat) (y : Yld) (f : Env → Env) : Prop :=
  ∀ F1 F H H' σ ρ x Q, Ext F1 F → ER K G F H σ ρ → YRep K G F1 y x H H' → (∀ H'' ws, Ext H' H'' → ER K G F H'' (setAll σ ix ws) (f ρ) → Q (setAll σ ix ws) H'') → g x σ H' Q
theorem tg_name (hm : G.ms[i]? ≠ some true) : TgR K G (gName i) [i] (.one (.v k d)) fun ρ => ρ.set i (some (.v k d)) := fun F1 F H H' σ ρ x Q e E y q => by
  obtain ⟨rfl, y⟩ := y
  exact q H' [x] (Ext.refl _) (E.put (r := .v k d) (Rep.mono (at_ext e) _ _ y) hm)
/-- names for the items of a tuple -/
def gNames : List Nat → TGs
  | [] => gNil
  | i :: is => gCons (gName i) (gNames is)
def setE : Env → List Nat → Bool → List D → Env
  | ρ, i :: is, k, d :: ds => setE (ρ.set i (some (.v k d))) is k ds
  | ρ, _, _, _ => ρ
theorem gNames_ok : ∀ {ix : List Nat} {ds : List D} {vs : List V} {F H : Hp} {σ : L2.St} {ρ : Env} {Q : L2.St → Hp → Prop}, ix.length = ds.length → (∀ i ∈ ix, G.ms[i]? ≠ some true) → ER K G F H σ ρ → Reps K (G.at F k) ds vs →
    (ER K G F H (setAll σ ix vs) (setE ρ ix k ds) → Q (setAll σ ix vs) H) → gNames ix vs σ H Q
  | [], [], vs, F, H, σ, ρ, Q, hl, hm, E, r, q => by
    rw [r.nil_of]; exact ⟨rfl, q E⟩
  | i :: ix, d :: ds, vs, F, H, σ, ρ, Q, hl, hm, E, r, q => by
    obtain ⟨v, t, rfl, h2, h3⟩ := r.cons_of
    refine ⟨v, t, rfl, ?_⟩
    exact gNames_ok (ix := ix) (ds := ds) (by simpa using hl) (fun i hi => hm i (List.mem_cons_of_mem _ hi)) (E.put (r := .v k d) h2 (hm i (List.mem_cons_self ..))) h3 q
  | [], d :: ds, vs, F, H, σ, ρ, Q, hl, hm, E, r, q => by cases hl
  | i :: ix, [], vs, F, H, σ, ρ, Q, hl, hm, E, r, q => by cases hl
theorem tg_tup {ix : List Nat} (hl : ix.length = ds.length) (hm : ∀ i ∈ ix, G.ms[i]? ≠ some true) : TgR K G (gTup K ix.length (gNames ix)) ix (.one (.v k (.tup ds))) fun ρ => setE ρ ix k ds := fun F1 F H H' σ ρ x Q e E y q => by
  obtain ⟨rfl, y⟩ := y
  rw [rep_tup] at y
  obtain ⟨a, vs, rfl, h2, h3⟩ := y
  have h3' := Reps.mono (at_ext (G := G) (k := k) e) _ _ h3
  refine ⟨a, vs, rfl, E.atH.sqT ((at_ext e).sqT h2.1), by rw [h3.length, hl], gNames_ok hl hm E h3' fun E' => q H' vs (Ext.refl _) E'⟩
theorem tg_two {i j : Nat} (h1 : G.ms[i]? ≠ some true) (h2 : G.ms[j]? ≠ some true) {d1 d2 : D} : TgR K G (gTup K 2 (gNames [i, j])) [i, j] (.two k1 d1 k2 d2) fun ρ => (ρ.set i (some (.v k1 d1))).set j (some (.v k2 d2)) := fun F1 F H H' σ ρ x Q e E y q => by
  obtain ⟨T, x1, x2, rfl, hT, rfl, r1, r2⟩ := y
  refine ⟨T, [x1, x2], rfl, SqT.of upd_same, rfl, x1, [x2], rfl, x2, [], rfl, rfl, ?_⟩
  have E1 := (E.lay0 (o := .tup [x1, x2]) hT).put (r := .v k1 d1) (Rep.mono (at_ext e) _ _ r1) h1
  have E2 := E1.put (r := .v k2 d2) (Rep.mono (at_ext e) _ _ r2) h2
  exact q _ [x1, x2] (Ext.refl _) E2
theorem pgs_nil' : PGs X [] (gNames []) := pgs_nil
theorem pgs_cons' {ex : Expr} {es : List Expr} {i : Nat} {is : List Nat} (h1 : PG X ex (gName i)) (h2 : PGs X es (gNames is)) (hs : (assignEach (ex :: es) X.env).map (·.2) = assign ex X.env :: (assignEach es X.env).map (·.2) := by rfl) : PGs X (ex :: es) (gNames (i :: is)) := pgs_cons h1 h2 hs
/-! ### for over anything -/
variable {st : Stmt} {rest sts els : List Stmt} {P : Out → Prop}
def tTurnW (K : PySem.W.Frag) (G : Gx) (m : Nat) (ft : Nat → Env → Env) (J : Nat → Env → Prop) (P : Out → Prop) : TS := fun D σ H => ∃ q : Nat × Env, (q.1 < m ∧ J q.1 q.2) ∧ tS K G (ft q.1 q.2) (turnP (J (q.1 + 1)) P) D σ H
theorem sd_forW {tg iter : Expr} {g : TG} {ix : List Nat} {it : Nat → Yld} {ft : Nat → Env → Env} (J : Nat → Env → Prop) (hw : WD X G tg iter ρ ρ1 m it) (hg : PG X tg g) (hy : ∀ t, t < m → TgR X.K G g ix (it t) (ft t)) (h0 : J 0 ρ1)
    (ht : ∀ t ρ', t < m → J t ρ' → BD X G sts (ft t ρ') (turnP (J (t + 1)) P)) (hd : ∀ ρ', J m ρ' → P (.nx ρ')) (hp : PassesOwn (model X.prog X.w) X.A X.env X.xe) (hc : X.calm = true) (hs : ∀ x, foldedSetIterable iter X.env x = pure x := by intro _; rfl) : SD X G (.For tg iter sts [] pos) ρ P := by
  have hb : PSs X sts (tTurnW X.K G m ft J P) := pss_any fun q hq => ht q.1 q.2 hq.1 hq.2
  refine ps_mono (ps_for hp hc hw hg hb hs) fun D σ H ⟨F, E, q1, q2, q3, q4⟩ => ⟨F, E, fun F1 H1 Jt e1 E1 wk => ?_⟩
  obtain ⟨Gd, Y, W, hG, hY⟩ := wk
  refine for_it W (g := g) (tb := tTurnW X.K G m ft J P) (D := D) (fun t σ' H' => ∃ F' ρ', J t ρ' ∧ Ext F1 F' ∧ ER X.K G F' H' σ' ρ') ⟨F1, ρ1, h0, Ext.refl _, E1⟩ ?_ ?_ ?_
  · rintro t σ' H' _ ⟨F', ρ', _, e2, E2⟩
    exact hG H' (e2.trans E2.sub) E2.keep
  · rintro t x σ' H' H2 hx ⟨F', ρ', hj, e2, E2⟩ y
    refine hy t hx F1 F' H' H2 σ' ρ' x _ e2 E2 (hY t H' x H2 hx (e2.trans E2.sub) E2.keep y) fun H3 ws _ E3 => ?_
    refine ⟨(t, ρ'), ⟨hx, hj⟩, F', E3, ?_, ?_, ?_, ?_⟩
    · exact fun ρ4 F4 H4 σ4 h4 e4 E4 => ⟨F4, ρ4, h4, e2.trans e4, E4⟩
    · exact fun r ρ4 F4 H4 σ4 v h4 e4 E4 r4 => q2 r ρ4 F4 H4 σ4 v h4 ((e1.trans e2).trans e4) E4 r4
    · exact fun ρ4 F4 H4 σ4 h4 e4 E4 => q1 ρ4 F4 H4 σ4 h4 ((e1.trans e2).trans e4) E4
    · exact fun ρ4 F4 H4 σ4 h4 e4 E4 => ⟨F4, ρ4, h4, e2.trans e4, E4⟩
  · rintro σ' H' ⟨F', ρ', hj, e2, E2⟩
    exact q1 ρ' F' H' σ' (hd ρ' hj) (e1.trans e2) E2
/-! ### walks -/
theorem wk_list {tg : Expr} (h : ED X G e ρ ρ1 (.v k (.lst ds))) {dx : D} : WD X G tg e ρ ρ1 ds.length (fun t => .one (.v k (ds.getD t dx))) :=
  pi_mono (pi_list h) fun σ H R ⟨F, E, q⟩ => ⟨F, E, fun F1 H1 v e1 E1 r1 => by
    obtain ⟨a, vs, rfl, hl, hr⟩ : ∃ a vs, v = V.ref a ∧ Rd (G.at F1 k) a (.lst vs) ∧ Reps X.K (G.at F1 k) ds vs := rep_lst.mp r1
    refine ⟨a, rfl, ⟨vs, sql_rd (E1.atH.rd hl)⟩, q F1 H1 _ e1 E1 ⟨_, _, by rw [← hr.length]; exact walk_list (K := X.K) (a := a) (xs := vs), fun H e2 e3 => sql_rd ?_, fun t H x H' ht _ _ y => ?_⟩⟩
    · cases k
      · exact Ext.rd e3 hl
      · exact Ext.rd e2 hl
    · obtain ⟨d, h1, h2⟩ := hr.get y.2
      have : ds.getD t dx = d := by rw [List.getD_eq_getElem?_getD, h1]; rfl
      show YRep X.K G F1 (.one (.v k (ds.getD t dx))) x H H'
      rw [this]
      exact ⟨y.1, h2⟩⟩
theorem wk_tup {tg : Expr} (h : ED X G e ρ ρ1 (.v k (.tup ds))) {dx : D} : WD X G tg e ρ ρ1 ds.length (fun t => .one (.v k (ds.getD t dx))) :=
  pi_mono (pi_tup h) fun σ H R ⟨F, E, q⟩ => ⟨F, E, fun F1 H1 v e1 E1 r1 => by
    obtain ⟨a, vs, rfl, ⟨hl, _⟩, hr⟩ : ∃ a vs, v = V.ref a ∧ SqX X.K (G.at F1 k) a vs ∧ Reps X.K (G.at F1 k) ds vs := rep_tup.mp r1
    refine ⟨a, rfl, ⟨vs, E1.atH.sqT hl⟩, q F1 H1 _ e1 E1 ⟨_, _, by rw [← hr.length]; exact walk_tup (K := X.K) (a := a) (xs := vs), fun H e2 e3 => ?_, fun t H x H' ht _ _ y => ?_⟩⟩
    · cases k
      · exact Ext.sqT e3 hl
      · exact Ext.sqT e2 hl
    · obtain ⟨d, h1, h2⟩ := hr.get y.2
      have : ds.getD t dx = d := by rw [List.getD_eq_getElem?_getD, h1]; rfl
      show YRep X.K G F1 (.one (.v k (ds.getD t dx))) x H H'
      rw [this]
      exact ⟨y.1, h2⟩⟩
theorem wk_range {tg : Expr} {h : Int} {p3 p4 : Pos} (hg : Gl X "range") (hm : X.mg "range" = none) (ha : ED X G a ρ ρ1 (.v k (.int h))) (hz : -(2 ^ 62) ≤ h ∧ h < 2 ^ 62) (hs : starEach [a] X.env = [(false, eval a X.env)] := by rfl) :
    WD X G tg (.Call (.Name "range" p3) [a] [] p4) ρ ρ1 h.toNat (fun t => .one (.val (.int (t : Int)))) :=
  pi_mono (pi_range1 hg hm (ea_one ha hs) hs) fun σ H R ⟨F, E, q⟩ => ⟨F, E, fun F1 H1 v e1 E1 r1 => by
    have := of_int r1
    subst this
    refine ⟨h, rfl, hz.1, hz.2, q F1 H1 _ e1 E1 ⟨_, _, walk_range, fun _ _ _ => trivial, fun t H x H' ht _ _ y => ⟨y.1, ?_⟩⟩⟩
    rw [rep_int, y.2]
    show V.int ((0 : Int) + (t : Int)) = _
    rw [Int.zero_add]⟩
theorem wk_str {tg : Expr} {z : Str} (h : ED X G e ρ ρ1 (.v k (.str z))) : WD X G tg e ρ ρ1 z.cps.size (fun t => .one (.val (.str ⟨#[z.cps.getD t 0]⟩))) :=
  pi_mono (pi_str h) fun σ H R ⟨F, E, q⟩ => ⟨F, E, fun F1 H1 v e1 E1 r1 => by
    have := of_str r1
    subst this
    refine ⟨z, rfl, q F1 H1 _ e1 E1 ⟨_, _, walk_str, fun _ _ _ => trivial, fun t H x H' ht _ _ y => ?_⟩⟩
    obtain ⟨y1, c, y2, y3⟩ := y
    refine ⟨y1, ?_⟩
    rw [rep_str, y3]
    have : z.cps.getD t 0 = c := by rw [Array.getD_eq_getD_getElem?, y2]; rfl
    rw [this]⟩
end
end DL
/-! DL6: list comprehensions. -/
namespace DL
open PySem L2 PyProof.Rows
section
variable {X : Cx} {G G' : Gx} {e a b c : Expr} {ρ ρ' ρ0 ρ1 ρ2 ρ3 : Env} {r s z s1 s2 : Slot} {d x y w : D} {ds es : List D} {K : PySem.W.Frag} {F F1 F' H H' : Hp} {σ : L2.St} {v u : V} {pos p : Pos} {k k1 k2 : Bool} {n : Str} {xs : List Expr} {m i j : Nat}
def maskE (ρ : Env) : List Bool := ρ.map fun o => match o with | some (.own _) => true | _ => false
theorem maskE_own : (maskE ρ)[i]? = some true → ∃ ds, ρ[i]? = some (some (.own ds)) := fun h => by
  unfold maskE at h
  rw [List.getElem?_map] at h
  cases q : ρ[i]? with
  | none => rw [q] at h; cases h
  | some o =>
    rw [q] at h
    match o, h with
    | some (.own ds), _ => exact ⟨ds, rfl⟩
    | some (.v k d), h => cases h
    | none, h => cases h
theorem own_maskE (h : ρ[i]? = some (some (.own ds))) : (maskE ρ)[i]? = some true := by
  unfold maskE; rw [List.getElem?_map, h]; rfl
/-- the same frame, seen from where it stands -/
def reG (F H : Hp) (σ : L2.St) (ρ : Env) : Gx := ⟨F, H, σ.map (·.getD .non), maskE ρ⟩
theorem reG_vs (h : σ[i]? = some (some v)) : (reG F H σ ρ).vs[i]? = some v := by
  show (σ.map (·.getD .non))[i]? = _
  rw [List.getElem?_map, h]; rfl
theorem reG_hv (E : ER K G F H σ ρ) {b : Addr} {o : HO} (h : H b = some o) (n : ∀ (i : Nat) (es : List DL.D), ρ[i]? = some (some (Slot.own es)) → σ[i]? ≠ some (some (V.ref b))) : (reG F H σ ρ).Hv b = some o :=
  Gx.h0_hv (G := reG F H σ ρ) h fun i hi hv => by
    obtain ⟨ds, hd⟩ := maskE_own hi
    obtain ⟨a, vs, h1, _⟩ := E.own i ds hd
    rw [reG_vs h1] at hv; cases hv
    exact n i ds hd h1
theorem reG_ext (E : ER K G F H σ ρ) : Ext G.Hv (reG F H σ ρ).Hv := fun b o h => reG_hv E (E.keep _ _ h) fun i es hi hs => by
  obtain ⟨a, vs, h1, h2, h3, h4, h5⟩ := E.own i es hi
  rw [h1] at hs; cases hs
  rcases h4 with h4 | h4
  · rw [Gx.hv_h0 h] at h4; cases h4
  · obtain ⟨v, z1, z2⟩ := E.arg i h4
    rw [h1] at z2; cases z2
    exact Gx.hv_ne h h4 z1
theorem ER.rebase (E : ER K G F H σ ρ) : ER K (reG F H σ ρ) F H σ ρ where
  ext := Ext.refl _
  sub := E.sub
  new := fun b o h => .inl h
  keep := fun b o h => Gx.hv_h0 h
  there := fun b o h => ⟨o, h⟩
  arg := fun i hi => by
    obtain ⟨ds, hd⟩ := maskE_own hi
    obtain ⟨a, vs, h1, _⟩ := E.own i ds hd
    exact ⟨_, reG_vs h1, h1⟩
  val := fun i k d hi => by
    obtain ⟨v, h1, h2⟩ := E.val i k d hi
    refine ⟨v, h1, ?_⟩
    cases k
    · exact Rep.mono (reG_ext E) _ _ h2
    · exact h2
  own := fun i ds hi => by
    obtain ⟨a, vs, h1, h2, h3, h4, h5⟩ := E.own i ds hi
    exact ⟨a, vs, h1, h2, h3, .inr (own_maskE hi), h5⟩
  inj := E.inj
  len := E.len
def keepV : Option Slot → Option Slot
  | some (.v k d) => some (.v k d)
  | _ => none
def backV : Option Slot → Option Slot → Option Slot
  | _, some (.own es) => some (.own es)
  | _, some (.v true d) => some (.v true d)
  | a, some (.v false _) => keepV a
  | _, none => none
def mg1 : Bool → Option Slot → Option Slot → Option Slot
  | true, a, _ => keepV a
  | false, a, b => backV a b
/-- the frame behind a turn: what the turn did to the lists of one's own; the names of the comprehension as they were -/
def mergeE : Nat → Env → Env → List Nat → Env
  | j, a :: ρ, b :: ρ3, vs => mg1 (vs.contains j) a b :: mergeE (j + 1) ρ ρ3 vs
  | _, _, _, _ => []
theorem mergeE_len : ∀ {ρ ρ3 : Env} {j : Nat} {vs : List Nat}, ρ3.length = ρ.length → (mergeE j ρ ρ3 vs).length = ρ.length
  | [], [], j, vs, h => rfl
  | a :: ρ, b :: ρ3, j, vs, h => by
    show (mergeE (j + 1) ρ ρ3 vs).length + 1 = ρ.length + 1
    rw [mergeE_len (by simpa using h)]
  | [], b :: ρ3, j, vs, h => by cases h
  | a :: ρ, [], j, vs, h => by cases h
theorem mergeE_get : ∀ {ρ ρ3 : Env} {j i : Nat} {vs : List Nat} {o : Option Slot}, (mergeE j ρ ρ3 vs)[i]? = some o → ∃ a b, ρ[i]? = some a ∧ ρ3[i]? = some b ∧ o = mg1 (vs.contains (j + i)) a b
  | [], ρ3, j, i, vs, o, h => by cases ρ3 <;> cases h
  | a :: ρ, [], j, i, vs, o, h => by cases h
  | a :: ρ, b :: ρ3, j, 0, vs, o, h => by
    injection h with h
    exact ⟨a, b, rfl, rfl, h.symm⟩
  | a :: ρ, b :: ρ3, j, i + 1, vs, o, h => by
    obtain ⟨a', b', h1, h2, h3⟩ := mergeE_get (ρ := ρ) (ρ3 := ρ3) (j := j + 1) (i := i) h
    exact ⟨a', b', h1, h2, by rw [h3, show j + 1 + i = j + (i + 1) by omega]⟩
def wipeE (ρ : Env) : List Nat → Env
  | [] => ρ
  | v :: vs => (wipeE ρ vs).set v none
theorem wipeE_len : ∀ {vs : List Nat}, (wipeE ρ vs).length = ρ.length
  | [] => rfl
  | v :: vs => by show ((wipeE ρ vs).set v none).length = _; rw [List.length_set, wipeE_len]
theorem wipeE_get : ∀ {vs : List Nat} {s : Slot}, (wipeE ρ vs)[i]? = some (some s) → ρ[i]? = some (some s) ∧ i ∉ vs
  | [], s, h => ⟨h, by simp⟩
  | v :: vs, s, h => by
    rcases getset_or (show ((wipeE ρ vs).set v none)[i]? = some (some s) from h) with ⟨_, h⟩ | ⟨ne, h⟩
    · cases h
    · obtain ⟨h1, h2⟩ := wipeE_get (vs := vs) h
      exact ⟨h1, by simp only [List.mem_cons, not_or]; exact ⟨fun q => ne q.symm, h2⟩⟩
theorem wipe_eq : ∀ {vs : List Nat}, i ∉ vs → (wipe σ vs)[i]? = σ[i]?
  | [], h => rfl
  | v :: vs, h => by
    simp only [List.mem_cons, not_or] at h
    show ((wipe σ vs).set v none)[i]? = _
    rw [getset_ne (fun q => h.1 q.symm), wipe_eq h.2]
theorem ER.wiped (E : ER K G F H σ ρ) {vs : List Nat} (hm : ∀ i ∈ vs, G.ms[i]? ≠ some true) : ER K G F H (wipe σ vs) (wipeE ρ vs) where
  ext := E.ext
  sub := E.sub
  new := E.new
  keep := E.keep
  there := E.there
  arg := fun i hi => by
    obtain ⟨v, h1, h2⟩ := E.arg i hi
    exact ⟨v, h1, by rw [wipe_eq fun q => hm i q hi]; exact h2⟩
  val := fun i k d hi => by
    obtain ⟨h1, h2⟩ := wipeE_get hi
    obtain ⟨v, g1, g2⟩ := E.val i k d h1
    exact ⟨v, by rw [wipe_eq h2]; exact g1, g2⟩
  own := fun i ds hi => by
    obtain ⟨h1, h2⟩ := wipeE_get hi
    obtain ⟨a, ws, g1, g2⟩ := E.own i ds h1
    exact ⟨a, ws, by rw [wipe_eq h2]; exact g1, g2⟩
  inj := fun i j a ds es ne h1 h2 s1 s2 => by
    obtain ⟨h1, n1⟩ := wipeE_get h1
    obtain ⟨h2, n2⟩ := wipeE_get h2
    rw [wipe_eq n1] at s1; rw [wipe_eq n2] at s2
    exact E.inj i j a ds es ne h1 h2 s1 s2
  len := by rw [wipe_length, wipeE_len]; exact E.len
theorem setAll_get : ∀ {ix : List Nat} {ws : List V} {σ : L2.St}, j ∉ ix → (setAll σ ix ws)[j]? = σ[j]?
  | [], ws, σ, h => by cases ws <;> rfl
  | i :: ix, [], σ, h => rfl
  | i :: ix, w :: ws, σ, h => by
    simp only [List.mem_cons, not_or] at h
    show (setAll (σ.set i (some w)) ix ws)[j]? = _
    rw [setAll_get h.2, getset_ne (fun q => h.1 q.symm)]
theorem setAll_len : ∀ {ix : List Nat} {ws : List V} {σ : L2.St}, (setAll σ ix ws).length = σ.length
  | [], ws, σ => by cases ws <;> rfl
  | i :: ix, [], σ => rfl
  | i :: ix, w :: ws, σ => by
    show (setAll (σ.set i (some w)) ix ws).length = _
    rw [setAll_len, List.length_set]
theorem wipe_in : ∀ {vs : List Nat}, i ∈ vs → i < σ.length → (wipe σ vs)[i]? = some none
  | [], h, _ => by cases h
  | v :: vs, h, hl => by
    show ((wipe σ vs).set v none)[i]? = _
    by_cases q : v = i
    · subst q; rw [List.getElem?_set, if_pos rfl, if_pos (by rw [wipe_length]; exact hl)]
    · rw [getset_ne q]
      rcases List.mem_cons.mp h with h | h
      · exact absurd h.symm q
      · exact wipe_in h hl
theorem wipe_setAll {ix vs : List Nat} {ws : List V} (h : ∀ i ∈ ix, i ∈ vs) : wipe (setAll (wipe σ vs) ix ws) vs = wipe σ vs := by
  apply List.ext_getElem?
  intro i
  by_cases hi : i ∈ vs
  · by_cases hl : i < σ.length
    · rw [wipe_in hi (by rw [setAll_len, wipe_length]; exact hl), wipe_in hi hl]
    · rw [List.getElem?_eq_none (by rw [wipe_length, setAll_len, wipe_length]; omega), List.getElem?_eq_none (by rw [wipe_length]; omega)]
  · rw [wipe_eq hi, setAll_get (fun q => hi (h i q))]
/-- a target does not make lists of one's own -/
def FtOk (ix : List Nat) (ft : Env → Env) : Prop := ∀ ρ (j : Nat), ((ft ρ).length = ρ.length) ∧ ∀ es, (ft ρ)[j]? = some (some (.own es)) → j ∉ ix ∧ ρ[j]? = some (some (.own es))
theorem ft_name : FtOk [i] fun ρ => ρ.set i (some (.v k d)) := fun ρ j => ⟨List.length_set, fun es h => by
  rcases getset_or h with ⟨_, h⟩ | ⟨ne, h⟩
  · cases h
  · exact ⟨by simpa using fun q => ne q.symm, h⟩⟩
theorem ft_two {d1 d2 : D} : FtOk [i, j] fun ρ => (ρ.set i (some (.v k1 d1))).set j (some (.v k2 d2)) := fun ρ l => ⟨by rw [List.length_set, List.length_set], fun es h => by
  rcases getset_or h with ⟨_, h⟩ | ⟨ne, h⟩
  · cases h
  · rcases getset_or h with ⟨_, h⟩ | ⟨ne2, h⟩
    · cases h
    · exact ⟨by simp only [List.mem_cons, List.not_mem_nil, or_false, not_or]; exact ⟨fun q => ne2 q.symm, fun q => ne q.symm⟩, h⟩⟩
theorem setE_ft : ∀ {ix : List Nat} {ds : List D}, ix.length = ds.length → FtOk ix fun ρ => setE ρ ix k ds
  | [], ds, hl => fun ρ j => ⟨by cases ds <;> rfl, fun es h => by cases ds <;> exact ⟨by simp, h⟩⟩
  | i :: ix, d :: ds, hl => fun ρ j => by
    obtain ⟨h1, h2⟩ := setE_ft (ix := ix) (ds := ds) (by simpa using hl) (ρ.set i (some (.v k d))) j
    refine ⟨by rw [List.length_set] at h1; exact h1, fun es h => ?_⟩
    obtain ⟨n1, h⟩ := h2 es h
    rcases getset_or h with ⟨_, h⟩ | ⟨ne, h⟩
    · cases h
    · exact ⟨by simp only [List.mem_cons, not_or]; exact ⟨fun q => ne q.symm, n1⟩, h⟩
  | i :: ix, [], hl => by cases hl
theorem ER.other {p : Addr} {o : HO} (E : ER K G F H σ ρ) (hF : F p = none) (h0 : G.H0 p = none) (ne : ∀ (i : Nat) (es : List DL.D), ρ[i]? = some (some (Slot.own es)) → σ[i]? ≠ some (some (V.ref p))) : ER K G F (upd H p o) σ ρ where
  ext := E.ext
  sub := E.sub.updR hF
  new := E.new
  keep := E.keep.updR (by
    cases q : G.Hv p with
    | none => rfl
    | some u => rw [Gx.hv_h0 q] at h0; cases h0)
  there := fun b u q => by
    obtain ⟨w, hw⟩ := E.there b u q
    by_cases hb : b = p
    · subst hb; exact ⟨_, upd_same⟩
    · exact ⟨w, by rw [upd_ne hb]; exact hw⟩
  arg := E.arg
  val := E.val
  own := fun i es hi => by
    obtain ⟨a', vs', h1, h2, h3, h4, h5⟩ := E.own i es hi
    have na : a' ≠ p := fun q => ne i es hi (by rw [h1, q])
    exact ⟨a', vs', h1, by rw [upd_ne na]; exact h2, h3, h4, h5⟩
  inj := E.inj
  len := E.len
/-- back from a turn -/
theorem ER.unturn {vs : List Nat} {σi : L2.St} {ρi : Env} {H0 : Hp} (E : ER K G F H0 σ ρ) (E1 : ER K G F H σi ρi) (E2 : ER K (reG F H σi ρi) F' H' σi ρ3) (e : Ext F F') (hm : ∀ i ∈ vs, G.ms[i]? ≠ some true)
    (hσ : ∀ i, i ∉ vs → σi[i]? = σ[i]?) (hl : ρi.length = ρ.length) (ho : ∀ (j : Nat) (es : List DL.D), ρi[j]? = some (some (Slot.own es)) → j ∉ vs ∧ ρ[j]? = some (some (Slot.own es))) : ER K G F' H' σ (mergeE 0 ρ ρ3 vs) := by
  have l3 : ρ3.length = ρ.length := by
    have h1 := E1.len; have h2 := E2.len
    omega
  have get {i : Nat} {s : Slot} (h : (mergeE 0 ρ ρ3 vs)[i]? = some (some s)) : (i ∉ vs ∧ ρ3[i]? = some (some s) ∧ ((∃ es, s = .own es) ∨ ∃ d, s = .v true d)) ∨ (∃ k d, s = .v k d ∧ ρ[i]? = some (some (.v k d))) := by
    obtain ⟨a, b, h1, h2, h3⟩ := mergeE_get h
    rw [Nat.zero_add] at h3
    cases hc : vs.contains i with
    | true =>
      rw [hc] at h3
      match a, h3, h1 with
      | some (.v k d), h3, h1 =>
        injection h3 with h3; exact .inr ⟨k, d, h3, h1⟩
    | false =>
      rw [hc] at h3
      have hn : i ∉ vs := fun q => by
        have := List.contains_iff_mem.mpr q
        rw [hc] at this; cases this
      match b, h3, h2 with
      | some (.own es), h3, h2 =>
        injection h3 with h3; subst h3
        exact .inl ⟨hn, h2, .inl ⟨es, rfl⟩⟩
      | some (.v true d), h3, h2 =>
        injection h3 with h3; subst h3
        exact .inl ⟨hn, h2, .inr ⟨d, rfl⟩⟩
      | some (.v false d), h3, h2 =>
        match a, h3, h1 with
        | some (.v k d), h3, h1 =>
          injection h3 with h3; exact .inr ⟨k, d, h3, h1⟩
  have own {i : Nat} {es : List DL.D} (h : (mergeE 0 ρ ρ3 vs)[i]? = some (some (.own es))) : i ∉ vs ∧ ρ3[i]? = some (some (.own es)) := by
    rcases get h with ⟨h1, h2, _⟩ | ⟨k, d, h1, _⟩
    · exact ⟨h1, h2⟩
    · cases h1
  refine ⟨E.ext.trans e, E2.sub, fun b o h => ?_, fun b o h => E2.keep _ _ (reG_ext E1 _ _ h), fun b o h => ?_, E.arg, fun i k d hi => ?_, fun i es hi => ?_, fun i j b ds es ne h1 h2 s1 s2 => ?_, by rw [mergeE_len l3]; exact E.len⟩
  · rcases E2.new b o h with h | h
    · exact E.new b o h
    · exact .inr (E1.h0 h)
  · obtain ⟨u, hu⟩ := E1.there b o h
    exact E2.there b u hu
  · rcases get hi with ⟨h1, h2, h3⟩ | ⟨k', d', h1, h2⟩
    · rcases h3 with ⟨es, h3⟩ | ⟨d', h3⟩
      · cases h3
      · injection h3 with q1 q2; subst q1; subst q2
        obtain ⟨v, g1, g2⟩ := E2.val i true d h2
        exact ⟨v, by rw [← hσ i h1]; exact g1, g2⟩
    · injection h1 with q1 q2; subst q1; subst q2
      obtain ⟨v, g1, g2⟩ := E.val i k d h2
      exact ⟨v, g1, Rep.mono (at_ext e) _ _ g2⟩
  · obtain ⟨h1, h2⟩ := own hi
    obtain ⟨a, ws, g1, g2, g3, g4, g5⟩ := E2.own i es h2
    refine ⟨a, ws, by rw [← hσ i h1]; exact g1, g2, g3, ?_, g5⟩
    rcases g4 with g4 | g4
    · exact .inl (E1.h0 g4)
    · obtain ⟨ds, hd⟩ := maskE_own g4
      obtain ⟨a', ws', k1, k2, k3, k4, k5⟩ := E1.own i ds hd
      rw [g1] at k1; cases k1
      exact k4
  · obtain ⟨n1, h1⟩ := own h1
    obtain ⟨n2, h2⟩ := own h2
    rw [← hσ i n1] at s1; rw [← hσ j n2] at s2
    exact E2.inj i j b ds es ne h1 h2 s1 s2
end
end DL
/-! DL7: the rules for list comprehensions. -/
namespace DL
open PySem L2 PyProof.Rows
section
variable {X : Cx} {G G' : Gx} {e a b c : Expr} {ρ ρ' ρ0 ρ1 ρ2 ρ3 : Env} {r s z s1 s2 : Slot} {d x y w : D} {ds es : List D} {K : PySem.W.Frag} {F F1 F' H H' : Hp} {σ : L2.St} {v u : V} {pos p : Pos} {k k1 k2 : Bool} {n : Str} {xs : List Expr} {m i j : Nat}
/-- what a turn of a comprehension must do: from the frame ρi to ρ3, with the item x; with a test, or left out -/
abbrev ElD (X : Cx) (scope : Scope) (elt : Expr) (ρi ρ3 : Env) (x : D) : Prop := ∀ (s : Shared) (H : Hp) (C : Addr) (cl : List (Str × Addr)) (fp : List Addr) (F1 H1 : Hp) (ws : List V), ED (X.blk s H scope (compEnvC scope cl C X.env) fp) ⟨F1, H1, ws, maskE ρi⟩ elt ρi ρ3 (.val x)
abbrev TsD (X : Cx) (scope : Scope) (c : Expr) (ρi ρ3 : Env) (b : Bool) : Prop := ∀ (s : Shared) (H : Hp) (C : Addr) (cl : List (Str × Addr)) (fp : List Addr) (F1 H1 : Hp) (ws : List V), ET (X.blk s H scope (compEnvC scope cl C X.env) fp) ⟨F1, H1, ws, maskE ρi⟩ c ρi ρ3 b
structure Tq where
  F1 : Hp
  H1 : Hp
  ws : List V
  ρi : Env
  ρ3 : Env
  x : D
def mkTq (F1 H1 : Hp) (σ : L2.St) (ρi ρ3 : Env) (x : D) : Tq := ⟨F1, H1, σ.map (·.getD .non), ρi, ρ3, x⟩
def tElt (K : PySem.W.Frag) (p : Env → Env → D → Prop) : TE := fun σ H Q => ∃ q : Tq, p q.ρi q.ρ3 q.x ∧ tD K ⟨q.F1, q.H1, q.ws, maskE q.ρi⟩ q.ρi q.ρ3 (.val q.x) σ H Q
structure Tb where
  F1 : Hp
  H1 : Hp
  ws : List V
  ρi : Env
  ρ3 : Env
  b : Bool
def tTst (K : PySem.W.Frag) (p : Env → Env → Bool → Prop) : TT := fun σ H Q => ∃ q : Tb, p q.ρi q.ρ3 q.b ∧ tDT K ⟨q.F1, q.H1, q.ws, maskE q.ρi⟩ q.ρi q.ρ3 q.b σ H Q
/-- a comprehension: as a value, or given to a name at once -/
structure CD (X : Cx) (G : Gx) (e : Expr) (ρ ρ' : Env) (acc : List D) : Prop where
  ed : ED X G e ρ ρ' (.own acc)
  set : ∀ {i : Nat} {y : Str} {py spos : Pos}, X.N[i]? = some y → X.env.scope.names.lookup y = some .local → swapsWith e (some (.Name y py)) spos.line X.env = pure true → PS X (.Assign [.Name y py] e spos) (tAsg (tD X.K G ρ ρ' (.own acc)) (gName i))
theorem CD.by {acc : List D} {t : TE} (h1 : PE X e t) (h2 : ∀ {i : Nat} {y : Str} {py spos : Pos}, X.N[i]? = some y → X.env.scope.names.lookup y = some .local → swapsWith e (some (.Name y py)) spos.line X.env = pure true → PS X (.Assign [.Name y py] e spos) (tAsg t (gName i)))
    (h : ∀ σ H Q, tD X.K G ρ ρ' (.own acc) σ H Q → t σ H Q) : CD X G e ρ ρ' acc :=
  ⟨pe_mono h1 h, fun a b c => ps_mono (h2 a b c) fun D σ H q => h σ H _ q⟩
theorem ed_of {acc : List D} (h : CD X G e ρ ρ' acc) : ED X G e ρ ρ' (.own acc) := h.ed
/-- x = [..] -/
theorem sd_setC {acc : List D} {i : Nat} {y : Str} {py spos : Pos} {P : Out → Prop} (hi : X.N[i]? = some y) (hl : X.env.scope.names.lookup y = some .local) (h : CD X G e ρ ρ' acc) (hm : G.ms[i]? ≠ some true) (q : P (.nx (ρ'.set i (some (.own acc)))))
    (hs : swapsWith e (some (.Name y py)) spos.line X.env = pure true := by rfl) : SD X G (.Assign [.Name y py] e spos) ρ P :=
  ps_mono (h.set hi hl hs) fun D σ H ⟨F, E, q1, _⟩ => ⟨F, E, fun F1 H1 v e1 E1 r1 => q1 _ F1 H1 _ q e1 (E1.put r1 hm)⟩
/-- what a comprehension's rule asks for, from the data: p tells what the elements give -/
theorem lc_tD {g : TG} {ix vs : List Nat} {it : Nat → Yld} {ft : Nat → Env → Env} {acc : List D} {Q : VK} (p : Env → Env → D → Prop) (J : Nat → Env → List D → Prop)
    (hy : ∀ t, t < m → TgR X.K G g ix (it t) (ft t) ∧ FtOk ix (ft t)) (hix : ∀ i ∈ ix, i ∈ vs) (hm : ∀ i ∈ vs, G.ms[i]? ≠ some true) (hz : m ≤ sizeLine)
    (h0 : J 0 ρ1 []) (hlen : ∀ t ρ' acc, J t ρ' acc → acc.length ≤ t) (ht : ∀ t ρ' acc, t < m → J t ρ' acc → ∃ ρ3 x, p (ft t (wipeE ρ' vs)) ρ3 x ∧ J (t + 1) (mergeE 0 ρ' ρ3 vs) (acc ++ [x])) (hd : ∀ ρ' acc', J m ρ' acc' → ρ' = ρ2 ∧ acc' = acc)
    (h : tD X.K G ρ ρ2 (.own acc) σ H Q) : tLc (tW X.K G ρ ρ1 m it) g tYes (tElt X.K p) vs σ H Q := by
  obtain ⟨F, E, q⟩ := h
  refine ⟨F, E, fun F1 H1 Jt e1 E1 wk => ?_⟩
  obtain ⟨Gd, Y, W, hG, hY⟩ := wk
  intro Dl hD
  refine lc_it W (g := g) (tt := tYes) (te := tElt X.K p) (vs := vs) (σ := σ) (D := Dl) (Qd := fun H => Q (.ref Dl) H) (fun t H' => ∃ F' ρ' acc avs, J t ρ' acc ∧ Ext F1 F' ∧ ER X.K G F' H' σ ρ' ∧ H' Dl = some (.lst avs) ∧ Reps X.K F' acc avs ∧ F' Dl = none ∧ G.H0 Dl = none ∧ ∀ (i : Nat) (es : List DL.D), ρ'[i]? = some (some (Slot.own es)) → σ[i]? ≠ some (some (V.ref Dl)))
    ⟨F1, ρ1, [], [], h0, Ext.refl _, E1.lay0 hD, upd_same, .nil, E1.sub.free hD, E1.h0 hD, fun i es hi hs => ?_⟩ ?_ ?_ ?_
  · obtain ⟨a, ws, g1, g2, _⟩ := E1.own i es hi
    rw [g1] at hs; cases hs
    rw [g2] at hD; cases hD
  · rintro t H' _ ⟨F', ρ', acc, avs, _, e2, E2, _⟩
    exact hG H' (e2.trans E2.sub) E2.keep
  · rintro t x H' H2 hx ⟨F', ρ', acc, avs, hj, e2, E2, l1, l2, l3, l4, l5⟩ y
    have yr := hY t H' x H2 hx (e2.trans E2.sub) E2.keep y
    have e5 : Ext H' H2 := by
      revert yr
      cases it t with
      | one s =>
        cases s with
        | v k d => rintro ⟨rfl, _⟩; exact Ext.refl _
        | own _ => intro h; exact h.elim
      | two => rintro ⟨T, x1, x2, _, hT, rfl, _⟩; exact Ext.lay hT
    obtain ⟨hy1, hy2⟩ := hy t hx
    refine hy1 F1 F' H' H2 _ (wipeE ρ' vs) x _ e2 (E2.wiped hm) yr fun H3 ws e3 E3 => ⟨wipe_setAll hix, ?_⟩
    unfold tYes; dsimp only; rw [if_pos rfl]
    obtain ⟨ρ3, x, hx1, hx2⟩ := ht t ρ' acc hx hj
    have hl := (hy2 (wipeE ρ' vs) 0).1
    rw [wipeE_len] at hl
    have hoI : ∀ (j : Nat) (es : List DL.D), (ft t (wipeE ρ' vs))[j]? = some (some (Slot.own es)) → j ∉ vs ∧ ρ'[j]? = some (some (Slot.own es)) := fun j es h => by
      obtain ⟨_, h2⟩ := (hy2 (wipeE ρ' vs) j).2 es h
      obtain ⟨h3, h4⟩ := wipeE_get h2
      exact ⟨h4, h3⟩
    have hσ : ∀ i, i ∉ vs → (setAll (wipe σ vs) ix ws)[i]? = σ[i]? := fun i hi => by
      rw [setAll_get (fun q => hi (hix i q)), wipe_eq hi]
    have hDl3 : H3 Dl = some (.lst avs) := e3 _ _ (e5 _ _ l1)
    refine ⟨mkTq F' H3 (setAll (wipe σ vs) ix ws) (ft t (wipeE ρ' vs)) ρ3 x, hx1, F', E3.rebase, fun F4 H4 y4 e4 E4 r4 => ?_⟩
    have hkeep : H4 Dl = some (.lst avs) := E4.keep _ _ (reG_hv E3 hDl3 fun i es hi hs => by
      obtain ⟨n1, h1⟩ := hoI i es hi
      rw [hσ i n1] at hs
      exact l5 i es h1 hs)
    have hF4 : F4 Dl = none := by
      cases q : F4 Dl with
      | none => rfl
      | some o =>
        rcases E4.new _ _ q with q | q
        · rw [show F' Dl = some o from q] at l3; cases l3
        · rw [show H3 Dl = none from q] at hDl3; cases hDl3
    have E5 := E2.unturn E3 E4 e4 hm hσ hl hoI
    have n5 : ∀ (i : Nat) (es : List DL.D), (mergeE 0 ρ' ρ3 vs)[i]? = some (some (Slot.own es)) → σ[i]? ≠ some (some (V.ref Dl)) := fun i es hi hs => by
      obtain ⟨a', ws', g1, g2, g3, g4, g5⟩ := E5.own i es hi
      rw [hs] at g1; cases g1
      -- the list at Dl is not one of the frame's: its slot was one of the frame before
      obtain ⟨a0, b0, z1, z2, z3⟩ := mergeE_get hi
      rw [Nat.zero_add] at z3
      cases hcn : vs.contains i with
      | true =>
        rw [hcn] at z3
        match a0, z3 with
        | some (.v _ _), z3 => cases z3
        | some (.own _), z3 => cases z3
        | none, z3 => cases z3
      | false =>
        rw [hcn] at z3
        have hn : i ∉ vs := fun q => by
          have := List.contains_iff_mem.mpr q
          rw [hcn] at this; cases this
        match b0, z3, z2 with
        | some (.own es'), z3, z2 =>
          obtain ⟨b', wb, k1, k2, k3, k4, k5⟩ := E4.own i es' z2
          rw [hσ i hn, hs] at k1; cases k1
          rcases k4 with k4 | k4
          · rw [show H3 Dl = none from k4] at hDl3; cases hDl3
          · obtain ⟨ds', hd'⟩ := maskE_own k4
            obtain ⟨n1, h1⟩ := hoI i ds' hd'
            exact l5 i ds' h1 hs
        | some (.v true _), z3, _ => cases z3
        | some (.v false _), z3, _ =>
          match a0, z3 with
          | some (.v _ _), z3 => cases z3
          | some (.own _), z3 => cases z3
          | none, z3 => cases z3
    refine ⟨avs, hkeep, ?_, F4, _, acc ++ [x], avs ++ [y4], hx2, e2.trans e4, E5.other hF4 l4 n5, upd_same, (Reps.mono e4 _ _ l2).append (.one r4), hF4, l4, n5⟩
    rw [l2.length]
    have := hlen _ _ _ hj
    omega
  · rintro H' ⟨F', ρ', acc', avs, hj, e2, E2, l1, l2, l3, l4, l5⟩
    obtain ⟨rfl, rfl⟩ := hd ρ' acc' hj
    exact q F' H' _ (e1.trans e2) E2 ⟨Dl, avs, rfl, l1, l3, l4, l2, l5⟩
/-- [elt for tg in iter] -/
theorem cd_lc {elt tg iter : Expr} {scope : Scope} {own : List (Str × Nat)} {g : TG} {ix vs : List Nat} {it : Nat → Yld} {ft : Nat → Env → Env} {acc : List D} (J : Nat → Env → List D → Prop) (ok : BlkOk X.N X.env.scope scope own) (hvs : own.map (·.2) = vs) (hc : X.calm = true) (hN : X.N.Nodup)
    (hw : WD X G tg iter ρ ρ1 m it) (hg : ∀ (s : Shared) (H : Hp) (C : Addr) (cl : List (Str × Addr)) (fp : List Addr), PG (X.blk s H scope (compEnvC scope cl C X.env) fp) tg g) (hy : ∀ t, t < m → TgR X.K G g ix (it t) (ft t) ∧ FtOk ix (ft t)) (hix : ∀ i ∈ ix, i ∈ vs) (hm : ∀ i ∈ vs, G.ms[i]? ≠ some true) (hz : m ≤ sizeLine)
    (h0 : J 0 ρ1 []) (hlen : ∀ t ρ' acc, J t ρ' acc → acc.length ≤ t) (ht : ∀ t ρ' acc, t < m → J t ρ' acc → ∃ ρ3 x, ElD X scope elt (ft t (wipeE ρ' vs)) ρ3 x ∧ J (t + 1) (mergeE 0 ρ' ρ3 vs) (acc ++ [x])) (hd : ∀ ρ' acc', J m ρ' acc' → ρ' = ρ2 ∧ acc' = acc)
    (hs : ∀ x, foldedSetIterable iter X.env x = pure x := by intro _; rfl) : CD X G (.ListComp elt [⟨tg, iter, [], 0⟩] scope pos) ρ ρ2 acc := by
  subst hvs
  let p : Env → Env → DL.D → Prop := fun ρi ρ3 x => ElD X scope elt ρi ρ3 x
  have he : ∀ (s : Shared) (H : Hp) (C : Addr) (cl : List (Str × Addr)) (fp : List Addr), PE (X.blk s H scope (compEnvC scope cl C X.env) fp) elt (tElt X.K p) := fun s H C cl fp => pe_any (p := fun q : Tq => p q.ρi q.ρ3 q.x) fun q hq => hq s H C cl fp q.F1 q.H1 q.ws
  exact CD.by (pe_lc hc hN hw ok hg (fun _ _ _ _ _ => pts_nil) he hs) (fun a b c => ps_setLc hc hN a b c hw ok hg (fun _ _ _ _ _ => pts_nil) he hs) fun σ H Q h => lc_tD p J hy hix hm hz h0 hlen ht hd h
/-- [elt for tg in iter if c] -/
theorem cd_lcI {c : Expr} {elt tg iter : Expr} {scope : Scope} {own : List (Str × Nat)} {g : TG} {ix vs : List Nat} {it : Nat → Yld} {ft : Nat → Env → Env} {acc : List D} (J : Nat → Env → List D → Prop) (ok : BlkOk X.N X.env.scope scope own) (hvs : own.map (·.2) = vs) (hc : X.calm = true) (hN : X.N.Nodup)
    (hw : WD X G tg iter ρ ρ1 m it) (hg : ∀ (s : Shared) (H : Hp) (C : Addr) (cl : List (Str × Addr)) (fp : List Addr), PG (X.blk s H scope (compEnvC scope cl C X.env) fp) tg g) (hy : ∀ t, t < m → TgR X.K G g ix (it t) (ft t) ∧ FtOk ix (ft t)) (hix : ∀ i ∈ ix, i ∈ vs) (hm : ∀ i ∈ vs, G.ms[i]? ≠ some true) (hz : m ≤ sizeLine)
    (h0 : J 0 ρ1 []) (hlen : ∀ t ρ' acc, J t ρ' acc → acc.length ≤ t) (ht : ∀ t ρ' acc, t < m → J t ρ' acc → ∃ b, TsD X scope c (ft t (wipeE ρ' vs)) (ft t (wipeE ρ' vs)) b ∧ (b = true → ∃ ρ3 x, ElD X scope elt (ft t (wipeE ρ' vs)) ρ3 x ∧ J (t + 1) (mergeE 0 ρ' ρ3 vs) (acc ++ [x])) ∧ (b = false → J (t + 1) (mergeE 0 ρ' (ft t (wipeE ρ' vs)) vs) acc)) (hd : ∀ ρ' acc', J m ρ' acc' → ρ' = ρ2 ∧ acc' = acc)
    (hs : ∀ x, foldedSetIterable iter X.env x = pure x := by intro _; rfl) : CD X G (.ListComp elt [⟨tg, iter, [c], 0⟩] scope pos) ρ ρ2 acc := by
  subst hvs
  let p : Env → Env → DL.D → Prop := fun ρi ρ3 x => ElD X scope elt ρi ρ3 x
  have he : ∀ (s : Shared) (H : Hp) (C : Addr) (cl : List (Str × Addr)) (fp : List Addr), PE (X.blk s H scope (compEnvC scope cl C X.env) fp) elt (tElt X.K p) := fun s H C cl fp => pe_any (p := fun q : Tq => p q.ρi q.ρ3 q.x) fun q hq => hq s H C cl fp q.F1 q.H1 q.ws
  let pt : Env → Env → Bool → Prop := fun ρi ρ3 b => TsD X scope c ρi ρ3 b
  have hcc : ∀ (s : Shared) (H : Hp) (C : Addr) (cl : List (Str × Addr)) (fp : List Addr), PT (X.blk s H scope (compEnvC scope cl C X.env) fp) c (tTst X.K pt) := fun s H C cl fp => pt_any (p := fun q : Tb => pt q.ρi q.ρ3 q.b) fun q hq => hq s H C cl fp q.F1 q.H1 q.ws
  refine CD.by (pe_lc hc hN hw ok hg (fun s H C cl fp => pts_one (hcc s H C cl fp)) he hs) (fun a b c => ps_setLc hc hN a b c hw ok hg (fun s H C cl fp => pts_one (hcc s H C cl fp)) he hs) fun σ H Q ⟨F, E, q⟩ => ⟨F, E, fun F1 H1 Jt e1 E1 wk => ?_⟩
  obtain ⟨Gd, Y, W, hG, hY⟩ := wk
  intro Dl hD
  refine lc_it W (g := g) (tt := tTst X.K pt) (te := tElt X.K p) (vs := own.map (·.2)) (σ := σ) (D := Dl) (Qd := fun H => Q (.ref Dl) H) (fun t H' => ∃ F' ρ' acc avs, J t ρ' acc ∧ Ext F1 F' ∧ ER X.K G F' H' σ ρ' ∧ H' Dl = some (.lst avs) ∧ Reps X.K F' acc avs ∧ F' Dl = none ∧ G.H0 Dl = none ∧ ∀ (i : Nat) (es : List DL.D), ρ'[i]? = some (some (Slot.own es)) → σ[i]? ≠ some (some (V.ref Dl)))
    ⟨F1, ρ1, [], [], h0, Ext.refl _, E1.lay0 hD, upd_same, .nil, E1.sub.free hD, E1.h0 hD, fun i es hi hs => ?_⟩ ?_ ?_ ?_
  · obtain ⟨a, ws, g1, g2, _⟩ := E1.own i es hi
    rw [g1] at hs; cases hs
    rw [g2] at hD; cases hD
  · rintro t H' _ ⟨F', ρ', acc, avs, _, e2, E2, _⟩
    exact hG H' (e2.trans E2.sub) E2.keep
  · rintro t x H' H2 hx ⟨F', ρ', acc, avs, hj, e2, E2, l1, l2, l3, l4, l5⟩ y
    have yr := hY t H' x H2 hx (e2.trans E2.sub) E2.keep y
    have e5 : Ext H' H2 := by
      revert yr
      cases it t with
      | one s =>
        cases s with
        | v k d => rintro ⟨rfl, _⟩; exact Ext.refl _
        | own _ => intro h; exact h.elim
      | two => rintro ⟨T, x1, x2, _, hT, rfl, _⟩; exact Ext.lay hT
    obtain ⟨hy1, hy2⟩ := hy t hx
    refine hy1 F1 F' H' H2 _ (wipeE ρ' (own.map (·.2))) x _ e2 (E2.wiped hm) yr fun H3 ws e3 E3 => ⟨wipe_setAll hix, ?_⟩
    obtain ⟨b, hb1, hb2, hb3⟩ := ht t ρ' acc hx hj
    have hl := (hy2 (wipeE ρ' (own.map (·.2))) 0).1
    rw [wipeE_len] at hl
    have hoI : ∀ (j : Nat) (es : List DL.D), (ft t (wipeE ρ' (own.map (·.2))))[j]? = some (some (Slot.own es)) → j ∉ own.map (·.2) ∧ ρ'[j]? = some (some (Slot.own es)) := fun j es h => by
      obtain ⟨_, h2⟩ := (hy2 (wipeE ρ' (own.map (·.2))) j).2 es h
      obtain ⟨h3, h4⟩ := wipeE_get h2
      exact ⟨h4, h3⟩
    have hσ : ∀ i, i ∉ own.map (·.2) → (setAll (wipe σ (own.map (·.2))) ix ws)[i]? = σ[i]? := fun i hi => by
      rw [setAll_get (fun q => hi (hix i q)), wipe_eq hi]
    have hDl3 : H3 Dl = some (.lst avs) := e3 _ _ (e5 _ _ l1)
    have later : ∀ (F4 H4 : Hp) (ρ4 : Env), Ext F' F4 → ER X.K (reG F' H3 (setAll (wipe σ (own.map (·.2))) ix ws) (ft t (wipeE ρ' (own.map (·.2))))) F4 H4 (setAll (wipe σ (own.map (·.2))) ix ws) ρ4 →
        H4 Dl = some (.lst avs) ∧ F4 Dl = none ∧ ER X.K G F4 H4 σ (mergeE 0 ρ' ρ4 (own.map (·.2))) ∧ ∀ (i : Nat) (es : List DL.D), (mergeE 0 ρ' ρ4 (own.map (·.2)))[i]? = some (some (Slot.own es)) → σ[i]? ≠ some (some (V.ref Dl)) := fun F4 H4 ρ3 e4 E4 => by
      have hkeep : H4 Dl = some (.lst avs) := E4.keep _ _ (reG_hv E3 hDl3 fun i es hi hs => by
        obtain ⟨n1, h1⟩ := hoI i es hi
        rw [hσ i n1] at hs
        exact l5 i es h1 hs)
      have hF4 : F4 Dl = none := by
        cases q : F4 Dl with
        | none => rfl
        | some o =>
          rcases E4.new _ _ q with q | q
          · rw [show F' Dl = some o from q] at l3; cases l3
          · rw [show H3 Dl = none from q] at hDl3; cases hDl3
      have E5 := E2.unturn E3 E4 e4 hm hσ hl hoI
      have n5 : ∀ (i : Nat) (es : List DL.D), (mergeE 0 ρ' ρ3 (own.map (·.2)))[i]? = some (some (Slot.own es)) → σ[i]? ≠ some (some (V.ref Dl)) := fun i es hi hs => by
        obtain ⟨a', ws', g1, g2, g3, g4, g5⟩ := E5.own i es hi
        rw [hs] at g1; cases g1
        -- the list at Dl is not one of the frame's: its slot was one of the frame before
        obtain ⟨a0, b0, z1, z2, z3⟩ := mergeE_get hi
        rw [Nat.zero_add] at z3
        cases hcn : (own.map (·.2)).contains i with
        | true =>
          rw [hcn] at z3
          match a0, z3 with
          | some (.v _ _), z3 => cases z3
          | some (.own _), z3 => cases z3
          | none, z3 => cases z3
        | false =>
          rw [hcn] at z3
          have hn : i ∉ own.map (·.2) := fun q => by
            have := List.contains_iff_mem.mpr q
            rw [hcn] at this; cases this
          match b0, z3, z2 with
          | some (.own es'), z3, z2 =>
            obtain ⟨b', wb, k1, k2, k3, k4, k5⟩ := E4.own i es' z2
            rw [hσ i hn, hs] at k1; cases k1
            rcases k4 with k4 | k4
            · rw [show H3 Dl = none from k4] at hDl3; cases hDl3
            · obtain ⟨ds', hd'⟩ := maskE_own k4
              obtain ⟨n1, h1⟩ := hoI i ds' hd'
              exact l5 i ds' h1 hs
          | some (.v true _), z3, _ => cases z3
          | some (.v false _), z3, _ =>
            match a0, z3 with
            | some (.v _ _), z3 => cases z3
            | some (.own _), z3 => cases z3
            | none, z3 => cases z3
      exact ⟨hkeep, hF4, E5, n5⟩
    refine ⟨⟨F', H3, (setAll (wipe σ (own.map fun p : Str × Nat => p.2)) ix ws).map (fun o : Option V => o.getD .non), ft t (wipeE ρ' (own.map fun p : Str × Nat => p.2)), ft t (wipeE ρ' (own.map fun p : Str × Nat => p.2)), b⟩, hb1, F', E3.rebase, fun F4 H4 e4 E4 => ?_⟩
    dsimp only
    cases b with
    | true =>
      obtain ⟨ρ3, x, hx1, hx2⟩ := hb2 rfl
      refine ite2 (fun _ => ?_) (fun q => absurd rfl q)
      refine ⟨mkTq F' H3 (setAll (wipe σ (own.map fun p : Str × Nat => p.2)) ix ws) (ft t (wipeE ρ' (own.map fun p : Str × Nat => p.2))) ρ3 x, hx1, F4, E4, fun F5 H5 y5 e5' E5 r5 => ?_⟩
      obtain ⟨k1, k2, k3, k4⟩ := later F5 H5 ρ3 (e4.trans e5') E5
      refine ⟨avs, k1, ?_, F5, _, acc ++ [x], avs ++ [y5], hx2, e2.trans (e4.trans e5'), k3.other k2 l4 k4, upd_same, (Reps.mono (e4.trans e5') _ _ l2).append (.one r5), k2, l4, k4⟩
      rw [l2.length]
      have := hlen _ _ _ hj
      omega
    | false =>
      refine ite2 (fun q => nomatch q) (fun _ => ?_)
      obtain ⟨k1, k2, k3, k4⟩ := later F4 H4 _ e4 E4
      exact ⟨F4, _, acc, avs, hb3 rfl, e2.trans e4, k3, k1, Reps.mono e4 _ _ l2, k2, l4, k4⟩
  · rintro H' ⟨F', ρ', acc', avs, hj, e2, E2, l1, l2, l3, l4, l5⟩
    obtain ⟨rfl, rfl⟩ := hd ρ' acc' hj
    exact q F' H' _ (e1.trans e2) E2 ⟨Dl, avs, rfl, l1, l3, l4, l2, l5⟩
end
end DL
/-! DL8: built-ins, lists of one's own. -/
namespace DL
open PySem L2 PyProof.Rows
section
variable {X : Cx} {G G' : Gx} {e a b c : Expr} {ρ ρ' ρ0 ρ1 ρ2 ρ3 : Env} {r s z s1 s2 : Slot} {d x y w : D} {ds es : List D} {K : PySem.W.Frag} {F F1 F' H H' : Hp} {σ : L2.St} {v u : V} {pos p p2 apos cpos : Pos} {k k1 k2 : Bool} {n : Str} {xs : List Expr} {m i j : Nat} {P : Out → Prop}
/-- x[i] = e, for a list of the def's own -/
theorem sd_setO {jj : Int} {q : Nat} (hN : X.N[i]? = some n) (hv : Vis X.env.scope n) (he : ED X G e ρ ρ1 s) (hd : ToV s d) (hb : ED X G b ρ1 ρ1 (.v k (.int jj))) (h1 : ρ1[i]? = some (some (.own ds))) (hj : ixN ds.length jj = some q) (hP : P (.nx (ρ1.set i (some (.own (ds.set q d))))))
    (hdb : (n == ("__debug__" : Str)) = false := by decide) (hcd : (n == ("__classdict__" : Str)) = false := by decide) (hs : swapsWithSole [Expr.Subscript (Expr.Name n p) b p2] e pos.line X.env = pure false := by rfl) (hw : swappedStores [Expr.Subscript (Expr.Name n p) b p2] e X.env = pure none := by rfl)
    (ha : ∀ v, assign (.Subscript (.Name n p) b p2) X.env v = (do let ov ← holding [v] (eval (.Name n p) X.env); let iv ← holding [v, ov] (eval b X.env); standAt p2; holding [v, ov, iv] (setItem ov iv v); release [v, ov, iv] []) := by intro _; rfl) : SD X G (.Assign [.Subscript (.Name n p) b p2] e pos) ρ P :=
  ps_mono (ps_asg (ed_toV he hd) (pg_sub (pe_var hN hv hdb hcd) hb set_list ha) hs hw) fun Dx σ H ⟨F, E, q1, _⟩ => ⟨F, E, fun F1 H1 v e1 E1 r1 => by
    obtain ⟨a, vs, g1, g2, g3, g4, g5⟩ := E1.own i ds h1
    refine ⟨_, g1, F1, E1, fun F2 H2 w e2 E2 r2 => ?_⟩
    obtain ⟨a', vs', k1, k2, k3, k4, k5⟩ := E2.own i ds h1
    rw [g1] at k1; cases k1
    refine ⟨a, vs', _, q, rfl, of_int r2, k2, by rw [k5.length]; exact hj, q1 _ F2 _ σ hP (e1.trans e2) (E2.write h1 g1 (k5.set q (Rep.mono e2 _ _ r1)))⟩⟩
/-- int(x) of an int -/
theorem ed_intOf {jj : Int} (hg : Gl X "int") (hm : X.mg "int" = none) (ha : ED X G a ρ ρ1 (.v k (.int jj))) (he : starEach [a] X.env = (false, eval a X.env) :: starEach [] X.env := by rfl) (hpl : (backTo pos (starEach [] X.env)).any (·.1) = false := by rfl) : ED X G (.Call (.Name "int" p) [a] [] pos) ρ ρ1 (.val (.int jj)) :=
  pe_mono (pe_callTy call_int1 hg hm boot_int (ea_one ha he) (by decide) (by decide) he hpl) fun σ H Q ⟨F, E, q⟩ => ⟨F, E, fun F1 H1 v e1 E1 r1 => .inl ⟨jj, by rw [of_int r1], q F1 H1 _ e1 E1 sr_int⟩⟩
/-- x.append(e), a list of the def's own -/
theorem ed_append (hN : X.N[i]? = some n) (hv : Vis X.env.scope n) (h0 : ρ[i]? = some (some (.own es))) (he : ED X G e ρ ρ1 s) (hd : ToV s d) (h1 : ρ1[i]? = some (some (.own ds))) (hz : ds.length < sizeLine)
    (hdb : (n == ("__debug__" : Str)) = false := by decide) (hcd : (n == ("__classdict__" : Str)) = false := by decide) (hbase : attributeBase (.Name n p) "append" X.env (eval (.Name n p) X.env) = eval (.Name n p) X.env := by rfl)
    (hst : starEach [e] X.env = (false, eval e X.env) :: starEach [] X.env := by rfl) (hpl : (backTo cpos (starEach [] X.env)).any (·.1) = false := by rfl) (hline : (apos.endLine == cpos.line) = true := by rfl)
    (hfew : ((backTo cpos (starEach [e] X.env)).all (fun x => !x.1) && (backToKw cpos (keywordEach [] X.env)).all (fun x => x.1.isSome) && decide ([e].length + ([] : List Keyword).length + (if ([] : List Keyword).isEmpty then 0 else 1) < 30)) = true := by rfl) : ED X G (.Call (.Attribute (.Name n p) "append" apos) [e] [] cpos) ρ (ρ1.set i (some (.own (ds ++ [d])))) (.val .non) :=
  pe_mono (pe_bm PySem.F.plainAttrs_list PySem.F.slot_list_append PySem.F.type_list_append mt_append (pe_var hN hv hdb hcd) (ea_one (ed_toV he hd) hst) hbase hfew hline hst hpl) fun σ H Q ⟨F, E, q⟩ => by
    obtain ⟨a, vs, g1, g2, g3, g4, g5⟩ := E.own i es h0
    refine ⟨_, g1, .inl ⟨rfl, vs, SqL.of g2⟩, F, E, fun F2 H2 w e2 E2 r2 => ?_⟩
    obtain ⟨a', vs', k1, k2, k3, k4, k5⟩ := E2.own i ds h1
    rw [g1] at k1; cases k1
    exact ⟨a, vs', w, rfl, rfl, k2, by rw [k5.length]; exact hz, q F2 _ _ e2 (E2.write h1 g1 (k5.append (.one r2))) sr_non⟩
end
end DL
/-! DL9: chains, the text's own constants, isinstance, in, all, any, sum, list, tuple, slices. -/
namespace DL
open PySem L2 PyProof.Rows
section
variable {X : Cx} {G G' : Gx} {e a b c : Expr} {ρ ρ' ρ0 ρ1 ρ2 ρ3 : Env} {r s z s1 s2 : Slot} {d x y w : D} {ds es : List D} {K : PySem.W.Frag} {F F1 F' H H' : Hp} {σ : L2.St} {v u : V} {pos p p2 apos cpos : Pos} {k k1 k2 k3 : Bool} {n : Str} {xs : List Expr} {m i j : Nat} {P : Out → Prop}
theorem opr_false {f : Value → Value → Sem Value} : OpR X f (fun _ _ _ _ => False) := fun _ _ _ _ _ _ _ _ _ _ _ _ h => h.elim
/-- a op b op' c -/
theorem et_chain {op op' : CmpOp} {l : Bool} (ha : ED X G a ρ ρ1 (.v k1 x)) (hb : ED X G b ρ1 ρ2 (.v k2 y)) (h1 : CmpD op x y k) (hc : k = true → ED X G c ρ2 ρ2 (.v k3 w)) (h2 : k = true → CmpD op' y w l) (hm : lastMarks [op, op'] [b, c] = false := by with_unfolding_all rfl) : ET X G (.Compare a [op, op'] [b, c] pos) ρ ρ2 (k && l) := by
  obtain ⟨r, ho, hr⟩ := vcmp h1
  cases k with
  | true =>
    obtain ⟨r', ho', hr'⟩ := vcmp (h2 rfl)
    refine pt_mono (pt_chain ho ho' ha hb (hc rfl) hm) fun σ H Q ⟨F, E, q⟩ => ⟨F, E, fun F1 H1 v e1 E1 r1 => ⟨F1, E1, fun F2 H2 u e2 E2 r2 => ?_⟩⟩
    refine hr _ _ _ _ _ σ F2 H2 v u _ E2 (Rep.mono (at_ext e2) _ _ r1) r2 fun F3 H3 w1 e3 E3 s3 => ⟨true, of_bl s3, ?_⟩
    refine iteT ?_
    refine ⟨F3, E3, fun F4 H4 w2 e4 E4 r4 => hr' _ _ _ _ _ σ F4 H4 u w2 _ E4 (Rep.mono (at_ext (e3.trans e4)) _ _ r2) r4 fun F5 H5 w3 e5 E5 s5 => ⟨l, of_bl s5, ?_⟩⟩
    exact q F5 H5 ((((e1.trans e2).trans e3).trans e4).trans e5) E5
  | false =>
    refine pt_mono (pt_chain (r' := fun _ _ _ _ => False) ho opr_false ha hb (pe_false (e := c)) hm) fun σ H Q ⟨F, E, q⟩ => ⟨F, E, fun F1 H1 v e1 E1 r1 => ⟨F1, E1, fun F2 H2 u e2 E2 r2 => ?_⟩⟩
    refine hr _ _ _ _ _ σ F2 H2 v u _ E2 (Rep.mono (at_ext e2) _ _ r1) r2 fun F3 H3 w1 e3 E3 s3 => ⟨false, of_bl s3, ?_⟩
    refine iteF ⟨false, rfl, q F3 H3 ((e1.trans e2).trans e3) E3⟩
/-! ### constants of the text -/
theorem ed_gI {i : Int} (hg : Gl X n) (hm : ∃ u, X.mg n = some u ∧ RelV (.int i) u) (hd : (n == ("__debug__" : Str)) = false := by decide) : ED X G (.Name n pos) ρ ρ (.val (.int i)) := by
  obtain ⟨u, h1, h2⟩ := hm
  exact ed_glob hg h1 h2 (fun _ => rep_int.mpr rfl) hd
theorem ed_gS {i : Str} (hg : Gl X n) (hm : ∃ u, X.mg n = some u ∧ RelV (.str i) u) (hd : (n == ("__debug__" : Str)) = false := by decide) : ED X G (.Name n pos) ρ ρ (.val (.str i)) := by
  obtain ⟨u, h1, h2⟩ := hm
  exact ed_glob hg h1 h2 (fun _ => rep_str.mpr rfl) hd
/-! ### isinstance -/
def tyD : D → String
  | .non => "NoneType" | .bl _ => "bool" | .int _ => "int" | .str _ => "str" | .lst _ => "list" | .tup _ => "tuple" | .dk _ _ => "dict" | .ty _ => "type" | .ins _ _ _ => "object"
/-- data of the built-in kinds -/
def plainD : D → Bool
  | .ty _ => false
  | .ins _ _ _ => false
  | _ => true
theorem tyx_of (h : plainD d = true) (r : Rep K F d v) (e : Ext F H) : TyX K H v (.type (tyD d)) := by
  cases d with
  | non => rw [rep_non] at r; subst r; exact .base .non
  | bl b => rw [rep_bl] at r; subst r; exact .base (.bl b)
  | int b => rw [rep_int] at r; subst r; exact .base (.int b)
  | str b => rw [rep_str] at r; subst r; exact .base (.str b)
  | lst ds =>
    obtain ⟨a, vs, rfl, h2, _⟩ := Rep.lstH e r
    rcases h2 with h2 | ⟨o, h2⟩
    · exact .base (.lst h2)
    · exact .base (.frz h2)
  | tup ds =>
    obtain ⟨a, vs, rfl, h2, _⟩ := Rep.tupH e r
    rcases h2 with (h2 | ⟨o, h2⟩) | ⟨o, its, n, h2, h3, _⟩
    · exact .base (.tup h2)
    · exact .fTuple h2
    · exact .kTuple h2 h3
  | dk ks ds =>
    simp only [Rep] at r
    obtain ⟨a, kvs, rfl, h2, _⟩ := r
    exact .base (.dK (e _ _ h2))
  | ty n => cases h
  | ins C ns ds => cases h
def isiT (t T : String) : Bool := t == T || (t == "bool" && T == "int")
/-- isinstance(x, T) -/
def isiD (d : D) (T : String) : Bool := isiT (tyD d) T
theorem kitB_all : ∀ t ∈ ["NoneType", "bool", "int", "str", "list", "tuple", "dict"], ∀ T ∈ ["int", "str", "bool", "list", "tuple", "dict"], kitB t T = some (isiT t T) := by decide +kernel
theorem kitB_is (h : plainD d = true) {T : String} (hT : T ∈ ["int", "str", "bool", "list", "tuple", "dict"]) : kitB (tyD d) T = some (isiD d T) :=
  kitB_all (tyD d) (by cases d <;> first | (cases h; done) | simp [tyD]) T hT
theorem ed_isi {T : String} {nT : Str} {p2 : Pos} (hg : Gl X "isinstance") (hm : X.mg "isinstance" = none) (ha : ED X G a ρ ρ1 (.v k d)) (hp : plainD d = true) (hgT : Gl X nT) (hmT : X.mg nT = none) (hvT : bootBuiltins nT = some (.type T)) (hT : T ∈ ["int", "str", "bool", "list", "tuple", "dict"])
    (hn : nT ≠ "__name__" := by decide) (hdT : (nT == ("__debug__" : Str)) = false := by decide) (he : starEach [a, .Name nT p2] X.env = (false, eval a X.env) :: starEach [.Name nT p2] X.env := by rfl) (he2 : starEach [.Name nT p2] X.env = (false, eval (.Name nT p2) X.env) :: starEach [] X.env := by rfl)
    (hpl : (backTo pos (starEach [.Name nT p2] X.env)).any (·.1) = false := by rfl) : ED X G (.Call (.Name "isinstance" p) [a, .Name nT p2] [] pos) ρ ρ1 (.val (.bl (isiD d T))) :=
  pe_mono (pe_callB call_isi hg hm boot_isinstance (pa_cons ha (pa_cons (pe_bltn (v := .ty T) hgT hmT hvT rfl hn hdT) pa_nil he2) he) (by decide) (by decide) he hpl) fun σ H Q ⟨F, E, q⟩ => ⟨F, E, fun F1 H1 v e1 E1 r1 =>
    ⟨v, .ty T, .type (tyD d), .type T, _, rfl, .ty T, tyx_of hp r1 E1.atH, kit_ty (kitB_is hp hT), q F1 H1 _ e1 E1 sr_bl⟩⟩
theorem kitAny2 {K : PySem.W.Frag} {t c1 c2 : Value} {b1 b2 : Bool} (h1 : PySem.W.kitOne K t c1 = some b1) (h2 : PySem.W.kitOne K t c2 = some b2) : PySem.W.kitAny K t [c1, c2] = some (b1 || b2) := by
  refine kitAny_cons h1 (fun hb => ?_) (fun hb => by rw [hb]; rfl)
  rw [hb, Bool.false_or]
  exact kitAny_cons h2 (fun hb => by rw [hb]; exact kitAny_nil) (fun hb => hb)
/-- isinstance(x, (T1, T2)) -/
theorem ed_isi2 {T1 T2 : String} {n1 n2 : Str} {p1 p2 pt : Pos} {tk : Nat} (hg : Gl X "isinstance") (hm : X.mg "isinstance" = none) (ha : ED X G a ρ ρ1 (.v k d)) (hp : plainD d = true) (hg1 : Gl X n1) (hm1 : X.mg n1 = none) (hv1 : bootBuiltins n1 = some (.type T1)) (hT1 : T1 ∈ ["int", "str", "bool", "list", "tuple", "dict"])
    (hg2 : Gl X n2) (hm2 : X.mg n2 = none) (hv2 : bootBuiltins n2 = some (.type T2)) (hT2 : T2 ∈ ["int", "str", "bool", "list", "tuple", "dict"]) (hn1 : n1 ≠ "__name__" := by decide) (hd1 : (n1 == ("__debug__" : Str)) = false := by decide) (hn2 : n2 ≠ "__name__" := by decide) (hd2 : (n2 == ("__debug__" : Str)) = false := by decide)
    (he : starEach [a, .Tuple [.Name n1 p1, .Name n2 p2] tk pt] X.env = (false, eval a X.env) :: starEach [.Tuple [.Name n1 p1, .Name n2 p2] tk pt] X.env := by rfl) (he1 : starEach [.Tuple [.Name n1 p1, .Name n2 p2] tk pt] X.env = (false, eval (.Tuple [.Name n1 p1, .Name n2 p2] tk pt) X.env) :: starEach [] X.env := by rfl)
    (he2 : starEach [.Name n1 p1, .Name n2 p2] X.env = (false, eval (.Name n1 p1) X.env) :: starEach [.Name n2 p2] X.env := by rfl) (he3 : starEach [.Name n2 p2] X.env = (false, eval (.Name n2 p2) X.env) :: starEach [] X.env := by rfl)
    (hpl : (backTo pos (starEach [.Tuple [.Name n1 p1, .Name n2 p2] tk pt] X.env)).any (·.1) = false := by rfl) : ED X G (.Call (.Name "isinstance" p) [a, .Tuple [.Name n1 p1, .Name n2 p2] tk pt] [] pos) ρ ρ1 (.val (.bl (isiD d T1 || isiD d T2))) :=
  pe_mono (pe_callB call_isiT hg hm boot_isinstance (pa_cons ha (pa_cons (pe_tup (pa_cons (pe_bltn (v := .ty T1) hg1 hm1 hv1 rfl hn1 hd1) (pa_cons (pe_bltn (v := .ty T2) hg2 hm2 hv2 rfl hn2 hd2) pa_nil he3) he2)) pa_nil he1) he) (by decide) (by decide) he hpl)
    fun σ H Q ⟨F, E, q⟩ => ⟨F, E, fun F1 H1 v e1 E1 r1 => ⟨by show 2 ≤ sizeLine; decide, fun tp hp1 =>
    ⟨v, tp, [.ty T1, .ty T2], .type (tyD d), [.type T1, .type T2], _, rfl, upd_same, .cons (.ty T1) (.cons (.ty T2) .nil), tyx_of hp r1 (E1.atH.updR (E1.atH.free hp1)), kitAny2 (kit_ty (kitB_is hp hT1)) (kit_ty (kitB_is hp hT2)), q F1 _ _ e1 (E1.lay0 hp1) sr_bl⟩⟩⟩
/-! ### in -/
theorem cmp_sign {c : Nat} {t : Str} (ha : ED X G a ρ ρ1 (.v k1 (.str ⟨#[c]⟩))) (hb : ED X G b ρ1 ρ2 (.v k2 (.str t))) (hm : behindInMarks .In b = false := by rfl) : ED X G (.Compare a [.In] [b] pos) ρ ρ2 (.val (.bl (decide (c ∈ t.cps.toList)))) :=
  ed_bin (fun h1 h2 => pe_cmpR op_in_sign h1 h2 hm) ha hb fun σ F H v u Q E hv hu q => by
    rw [rep_str] at hv hu
    exact ⟨c, t, hv, hu, q F H _ (Ext.refl _) E sr_bl⟩
theorem et_sign {c : Nat} {t : Str} (ha : ED X G a ρ ρ1 (.v k1 (.str ⟨#[c]⟩))) (hb : ED X G b ρ1 ρ2 (.v k2 (.str t))) (hm : behindInMarks .In b = false := by rfl) : ET X G (.Compare a [.In] [b] pos) ρ ρ2 (decide (c ∈ t.cps.toList)) :=
  et_bin (fun h1 h2 => pt_cmpR op_in_sign h1 h2 hm) ha hb fun σ F H v u Q E hv hu q => by
    rw [rep_str] at hv hu
    exact ⟨c, t, hv, hu, q F H _ (Ext.refl _) E sr_bl⟩
theorem cmp_nsign {c : Nat} {t : Str} (ha : ED X G a ρ ρ1 (.v k1 (.str ⟨#[c]⟩))) (hb : ED X G b ρ1 ρ2 (.v k2 (.str t))) (hm : behindInMarks .NotIn b = false := by rfl) : ED X G (.Compare a [.NotIn] [b] pos) ρ ρ2 (.val (.bl (!decide (c ∈ t.cps.toList)))) :=
  ed_bin (fun h1 h2 => pe_cmpR op_notIn_sign h1 h2 hm) ha hb fun σ F H v u Q E hv hu q => by
    rw [rep_str] at hv hu
    exact ⟨c, t, hv, hu, q F H _ (Ext.refl _) E sr_bl⟩
theorem et_nsign {c : Nat} {t : Str} (ha : ED X G a ρ ρ1 (.v k1 (.str ⟨#[c]⟩))) (hb : ED X G b ρ1 ρ2 (.v k2 (.str t))) (hm : behindInMarks .NotIn b = false := by rfl) : ET X G (.Compare a [.NotIn] [b] pos) ρ ρ2 (!decide (c ∈ t.cps.toList)) :=
  et_bin (fun h1 h2 => pt_cmpR op_notIn_sign h1 h2 hm) ha hb fun σ F H v u Q E hv hu q => by
    rw [rep_str] at hv hu
    exact ⟨c, t, hv, hu, q F H _ (Ext.refl _) E sr_bl⟩
def flatD : D → Bool
  | .non => true | .bl _ => true | .int _ => true | .str _ => true
  | _ => false
/-- == of two flat data, as Python has it -/
def eqF : D → D → Bool
  | .non, .non => true
  | .bl a, .bl b => a == b
  | .bl a, .int b => (if a then 1 else 0) == b
  | .int a, .bl b => a == (if b then 1 else 0)
  | .int a, .int b => a == b
  | .str a, .str b => a == b
  | _, _ => false
theorem flat_of (h : flatD d = true) (r : Rep K F d v) : flatV v = true := by
  cases d <;> first | (cases h; done) | (simp only [Rep] at r; subst r; rfl)
theorem eqF_of (h : flatD d = true) (g : flatD x = true) (r : Rep K F d v) (t : Rep K F' x u) : eqV v u = eqF d x := by
  cases d <;> first | (cases h; done) | (cases x <;> first | (cases g; done) | (simp only [Rep] at r t; subst r; subst t; rfl))
def inD (x : D) (ds : List D) : Bool := ds.any fun y => eqF y x
theorem inV_of (hx : flatD x = true) (t : Rep K F' x u) : ∀ {ds : List D} {vs : List V}, ds.all flatD = true → Reps K F ds vs → vs.all flatV = true ∧ inV u vs = inD x ds
  | [], vs, h, r => by rw [r.nil_of]; exact ⟨rfl, rfl⟩
  | d :: ds, vs, h, r => by
    obtain ⟨v, ws, rfl, h2, h3⟩ := r.cons_of
    simp only [List.all_cons, Bool.and_eq_true] at h
    obtain ⟨i1, i2⟩ := inV_of hx t h.2 h3
    refine ⟨by simp only [List.all_cons, Bool.and_eq_true]; exact ⟨flat_of h.1 h2, i1⟩, ?_⟩
    show (eqV v u || inV u ws) = (eqF d x || inD x ds)
    rw [eqF_of h.1 hx h2 t, i2]
/-- a list or a tuple, to be read -/
inductive SeqS : Slot → List D → Prop where
  | lst {k : Bool} {ds : List D} : SeqS (.v k (.lst ds)) ds
  | tup {k : Bool} {ds : List D} : SeqS (.v k (.tup ds)) ds
theorem vin {neg : Bool} (hs : SeqS s ds) (hx : flatD x = true) (hd : ds.all flatD = true) : ∃ k d, s = .v k d ∧ ∀ K G ρ k1, VR K G ρ (rIn K neg) k1 x k d (.val (.bl (if neg then !inD x ds else inD x ds))) := by
  cases hs with
  | @lst k _ =>
    refine ⟨k, _, rfl, fun K G ρ k1 σ F H v u Q E hv hu q => ?_⟩
    obtain ⟨a, vs, rfl, h2, h3⟩ := Rep.lstH E.atH hu
    obtain ⟨i1, i2⟩ := inV_of hx hv hd h3
    exact ⟨a, vs, rfl, .inl (sql_rd h2), flat_of hx hv, i1, by rw [i2]; exact q F H _ (Ext.refl _) E sr_bl⟩
  | @tup k _ =>
    refine ⟨k, _, rfl, fun K G ρ k1 σ F H v u Q E hv hu q => ?_⟩
    obtain ⟨a, vs, rfl, h2, h3⟩ := Rep.tupH E.atH hu
    obtain ⟨i1, i2⟩ := inV_of hx hv hd h3
    exact ⟨a, vs, rfl, .inr h2, flat_of hx hv, i1, by rw [i2]; exact q F H _ (Ext.refl _) E sr_bl⟩
theorem cmp_in (ha : ED X G a ρ ρ1 (.v k1 x)) (hb : ED X G b ρ1 ρ2 s) (hs : SeqS s ds) (hx : flatD x = true) (hd : ds.all flatD = true) (hm : behindInMarks .In b = false := by rfl) : ED X G (.Compare a [.In] [b] pos) ρ ρ2 (.val (.bl (inD x ds))) := by
  obtain ⟨k, d, rfl, h⟩ := vin (neg := false) hs hx hd
  exact ed_bin (fun h1 h2 => pe_cmpR op_in_seq h1 h2 hm) ha hb (h _ _ _ _)
theorem et_in (ha : ED X G a ρ ρ1 (.v k1 x)) (hb : ED X G b ρ1 ρ2 s) (hs : SeqS s ds) (hx : flatD x = true) (hd : ds.all flatD = true) (hm : behindInMarks .In b = false := by rfl) : ET X G (.Compare a [.In] [b] pos) ρ ρ2 (inD x ds) := by
  obtain ⟨k, d, rfl, h⟩ := vin (neg := false) hs hx hd
  exact et_bin (fun h1 h2 => pt_cmpR op_in_seq h1 h2 hm) ha hb (h _ _ _ _)
theorem cmp_nin (ha : ED X G a ρ ρ1 (.v k1 x)) (hb : ED X G b ρ1 ρ2 s) (hs : SeqS s ds) (hx : flatD x = true) (hd : ds.all flatD = true) (hm : behindInMarks .NotIn b = false := by rfl) : ED X G (.Compare a [.NotIn] [b] pos) ρ ρ2 (.val (.bl (!inD x ds))) := by
  obtain ⟨k, d, rfl, h⟩ := vin (neg := true) hs hx hd
  exact ed_bin (fun h1 h2 => pe_cmpR op_notIn_seq h1 h2 hm) ha hb (h _ _ _ _)
theorem et_nin (ha : ED X G a ρ ρ1 (.v k1 x)) (hb : ED X G b ρ1 ρ2 s) (hs : SeqS s ds) (hx : flatD x = true) (hd : ds.all flatD = true) (hm : behindInMarks .NotIn b = false := by rfl) : ET X G (.Compare a [.NotIn] [b] pos) ρ ρ2 (!inD x ds) := by
  obtain ⟨k, d, rfl, h⟩ := vin (neg := true) hs hx hd
  exact et_bin (fun h1 h2 => pt_cmpR op_notIn_seq h1 h2 hm) ha hb (h _ _ _ _)
/-! ### is None -/
def isNon : D → Bool
  | .non => true
  | _ => false
theorem vnon (d : D) : ∀ K G ρ k1 k2, VR K G ρ rIsN k1 d k2 .non (.val (.bl (isNon d))) := fun K G ρ k1 k2 σ F H v u Q E hv hu q => by
  rw [rep_non] at hu
  refine ⟨hu, ?_⟩
  have e : decide (v = V.non) = isNon d := by
    cases d with
    | non => rw [rep_non] at hv; subst hv; rfl
    | bl _ => rw [rep_bl] at hv; subst hv; rfl
    | int _ => rw [rep_int] at hv; subst hv; rfl
    | str _ => rw [rep_str] at hv; subst hv; rfl
    | ty _ => rw [rep_ty] at hv; subst hv; rfl
    | lst _ => simp only [Rep] at hv; obtain ⟨a, vs, rfl, _⟩ := hv; rfl
    | tup _ => simp only [Rep] at hv; obtain ⟨a, vs, rfl, _⟩ := hv; rfl
    | dk _ _ => simp only [Rep] at hv; obtain ⟨a, vs, rfl, _⟩ := hv; rfl
    | ins _ _ _ => simp only [Rep] at hv; obtain ⟨a, dx, vs, rfl, _⟩ := hv; rfl
  rw [e]; exact q F H _ (Ext.refl _) E sr_bl
theorem vnotn (d : D) : ∀ K G ρ k1 k2, VR K G ρ rNotN k1 d k2 .non (.val (.bl (!isNon d))) := fun K G ρ k1 k2 σ F H v u Q E hv hu q => by
  rw [rep_non] at hu
  refine ⟨hu, ?_⟩
  have e : decide (v = V.non) = isNon d := by
    cases d with
    | non => rw [rep_non] at hv; subst hv; rfl
    | bl _ => rw [rep_bl] at hv; subst hv; rfl
    | int _ => rw [rep_int] at hv; subst hv; rfl
    | str _ => rw [rep_str] at hv; subst hv; rfl
    | ty _ => rw [rep_ty] at hv; subst hv; rfl
    | lst _ => simp only [Rep] at hv; obtain ⟨a, vs, rfl, _⟩ := hv; rfl
    | tup _ => simp only [Rep] at hv; obtain ⟨a, vs, rfl, _⟩ := hv; rfl
    | dk _ _ => simp only [Rep] at hv; obtain ⟨a, vs, rfl, _⟩ := hv; rfl
    | ins _ _ _ => simp only [Rep] at hv; obtain ⟨a, dx, vs, rfl, _⟩ := hv; rfl
  rw [e]; exact q F H _ (Ext.refl _) E sr_bl
theorem et_isN {p2 : Pos} {jn : Nat} (ha : ED X G a ρ ρ1 (.v k1 d)) : ET X G (.Compare a [.Is] [.Constant .none jn p2] pos) ρ ρ1 (isNon d) := et_bin (fun h1 h2 => pt_cmpR op_isN1 h1 h2 (nomark _)) ha ed_non (vnon d _ _ _ _ _)
theorem et_notN {p2 : Pos} {jn : Nat} (ha : ED X G a ρ ρ1 (.v k1 d)) : ET X G (.Compare a [.IsNot] [.Constant .none jn p2] pos) ρ ρ1 (!isNon d) := et_bin (fun h1 h2 => pt_cmpR op_notN1 h1 h2 (nomark _)) ha ed_non (vnotn d _ _ _ _ _)
theorem cmp_isN {p2 : Pos} {jn : Nat} (ha : ED X G a ρ ρ1 (.v k1 d)) : ED X G (.Compare a [.Is] [.Constant .none jn p2] pos) ρ ρ1 (.val (.bl (isNon d))) := ed_bin (fun h1 h2 => pe_cmpR op_isN1 h1 h2 (nomark _)) ha ed_non (vnon d _ _ _ _ _)
theorem cmp_notN {p2 : Pos} {jn : Nat} (ha : ED X G a ρ ρ1 (.v k1 d)) : ED X G (.Compare a [.IsNot] [.Constant .none jn p2] pos) ρ ρ1 (.val (.bl (!isNon d))) := ed_bin (fun h1 h2 => pe_cmpR op_notN1 h1 h2 (nomark _)) ha ed_non (vnotn d _ _ _ _ _)
end
end DL
/-! DL10: all, any, sum, list, tuple, slices, lists of one's own. -/
namespace DL
open PySem L2 PyProof.Rows
section
variable {X : Cx} {G G' : Gx} {e a b c o : Expr} {ρ ρ' ρ0 ρ1 ρ2 ρ3 : Env} {r s z s1 s2 : Slot} {d x y w : D} {ds es : List D} {K : PySem.W.Frag} {F F1 F' H H' : Hp} {σ : L2.St} {v u : V} {pos p p2 apos cpos : Pos} {k k1 k2 k3 : Bool} {n : Str} {xs : List Expr} {m i j : Nat} {P : Out → Prop}
/-- a list that can be read: somebody's, or new -/
inductive LstS : Slot → List D → Prop where
  | v {k : Bool} {ds : List D} : LstS (.v k (.lst ds)) ds
  | own {ds : List D} : LstS (.own ds) ds
theorem lst_rd (h : LstS s ds) (E : ER K G F H σ ρ) (r : SR K G F H σ ρ s v) : ∃ k a vs, v = V.ref a ∧ Rd H a (.lst vs) ∧ Reps K (G.at F k) ds vs := by
  cases h with
  | @v k ds =>
    obtain ⟨a, vs, h1, h2, h3⟩ := Rep.lstH E.atH (show Rep K (G.at F k) (.lst ds) v from r)
    exact ⟨k, a, vs, h1, h2, h3⟩
  | own =>
    obtain ⟨a, vs, h1, h2, h3, h4, h5, h6⟩ := r
    exact ⟨true, a, vs, h1, .inl h2, h5⟩
theorem ed_call1B {id : String} {rc : List V → Hp → VK → Prop} (hc : CallR X (.builtin id) rc) (hg : Gl X n) (hm : X.mg n = none) (hv : bootBuiltins n = some (.builtin id)) (ha : ED X G a ρ ρ1 s)
    (hr : ∀ σ F H v Q, ER X.K G F H σ ρ1 → SR X.K G F H σ ρ1 s v → (∀ F' H' w, Ext F F' → ER X.K G F' H' σ ρ1 → SR X.K G F' H' σ ρ1 z w → Q w H') → rc [v] H Q) (hn : n ≠ "__name__" := by decide) (hdb : (n == ("__debug__" : Str)) = false := by decide)
    (he : starEach [a] X.env = (false, eval a X.env) :: starEach [] X.env := by rfl) (hpl : (backTo pos (starEach [] X.env)).any (·.1) = false := by rfl) : ED X G (.Call (.Name n p) [a] [] pos) ρ ρ1 z :=
  pe_mono (pe_callB hc hg hm hv (ea_one ha he) hn hdb he hpl) fun σ H Q ⟨F, E, q⟩ => ⟨F, E, fun F1 H1 v e1 E1 r1 => hr σ F1 H1 v Q E1 r1 fun F2 H2 w e2 E2 s2 => q F2 H2 w (e1.trans e2) E2 s2⟩
theorem ed_call1T {id : String} {rc : List V → Hp → VK → Prop} (hc : CallR X (.type id) rc) (hg : Gl X n) (hm : X.mg n = none) (hv : bootBuiltins n = some (.type id)) (ha : ED X G a ρ ρ1 s)
    (hr : ∀ σ F H v Q, ER X.K G F H σ ρ1 → SR X.K G F H σ ρ1 s v → (∀ F' H' w, Ext F F' → ER X.K G F' H' σ ρ1 → SR X.K G F' H' σ ρ1 z w → Q w H') → rc [v] H Q) (hn : n ≠ "__name__" := by decide) (hdb : (n == ("__debug__" : Str)) = false := by decide)
    (he : starEach [a] X.env = (false, eval a X.env) :: starEach [] X.env := by rfl) (hpl : (backTo pos (starEach [] X.env)).any (·.1) = false := by rfl) : ED X G (.Call (.Name n p) [a] [] pos) ρ ρ1 z :=
  pe_mono (pe_callTy hc hg hm hv (ea_one ha he) hn hdb he hpl) fun σ H Q ⟨F, E, q⟩ => ⟨F, E, fun F1 H1 v e1 E1 r1 => hr σ F1 H1 v Q E1 r1 fun F2 H2 w e2 E2 s2 => q F2 H2 w (e1.trans e2) E2 s2⟩
theorem ed_all {bs : List Bool} (hc : X.calm = true) (hg : Gl X "all") (hm : X.mg "all" = none) (ha : ED X G a ρ ρ1 s) (hs : LstS s ds) (hd : ds = bs.map D.bl) (he : starEach [a] X.env = (false, eval a X.env) :: starEach [] X.env := by rfl) (hpl : (backTo pos (starEach [] X.env)).any (·.1) = false := by rfl) : ED X G (.Call (.Name "all" p) [a] [] pos) ρ ρ1 (.val (.bl (bs.all id))) :=
  ed_call1B (cr_all hc) hg hm boot_all ha (fun σ F H v Q E r1 q => by
    obtain ⟨k, a, vs, rfl, h2, h3⟩ := lst_rd hs E r1
    rw [hd] at h3
    rw [h3.bls] at h2
    exact ⟨a, bs, rfl, sql_rd h2, q F H _ (Ext.refl _) E sr_bl⟩) (by decide) (by decide) he hpl
theorem ed_any {bs : List Bool} (hc : X.calm = true) (hg : Gl X "any") (hm : X.mg "any" = none) (ha : ED X G a ρ ρ1 s) (hs : LstS s ds) (hd : ds = bs.map D.bl) (he : starEach [a] X.env = (false, eval a X.env) :: starEach [] X.env := by rfl) (hpl : (backTo pos (starEach [] X.env)).any (·.1) = false := by rfl) : ED X G (.Call (.Name "any" p) [a] [] pos) ρ ρ1 (.val (.bl (bs.any id))) :=
  ed_call1B (cr_any hc) hg hm boot_any ha (fun σ F H v Q E r1 q => by
    obtain ⟨k, a, vs, rfl, h2, h3⟩ := lst_rd hs E r1
    rw [hd] at h3
    rw [h3.bls] at h2
    exact ⟨a, bs, rfl, sql_rd h2, q F H _ (Ext.refl _) E sr_bl⟩) (by decide) (by decide) he hpl
theorem ed_sum {ns : List Int} (hc : X.calm = true) (hg : Gl X "sum") (hm : X.mg "sum" = none) (ha : ED X G a ρ ρ1 s) (hs : LstS s ds) (hd : ds = ns.map D.int) (he : starEach [a] X.env = (false, eval a X.env) :: starEach [] X.env := by rfl) (hpl : (backTo pos (starEach [] X.env)).any (·.1) = false := by rfl) : ED X G (.Call (.Name "sum" p) [a] [] pos) ρ ρ1 (.val (.int ns.sum)) :=
  ed_call1B (cr_sum hc) hg hm boot_sum ha (fun σ F H v Q E r1 q => by
    obtain ⟨k, a, vs, rfl, h2, h3⟩ := lst_rd hs E r1
    rw [hd] at h3
    rw [h3.ints] at h2
    exact ⟨a, ns, rfl, sql_rd h2, q F H _ (Ext.refl _) E sr_int⟩) (by decide) (by decide) he hpl
/-- what may be put into a new list -/
theorem reps_val {vs : List V} (h : Reps K (G.at F k) ds vs) (hk : k = true ∨ ds.all isSc = true) : Reps K F ds vs := by
  rcases hk with rfl | hk
  · exact h
  · have : ∀ {ds : List DL.D} {vs : List V}, ds.all isSc = true → Reps K (G.at F k) ds vs → Reps K F ds vs := by
      intro ds
      induction ds with
      | nil => intro vs _ h; rw [h.nil_of]; exact .nil
      | cons d ds ih =>
        intro vs hk h
        obtain ⟨v, ws, rfl, h2, h3⟩ := h.cons_of
        simp only [List.all_cons, Bool.and_eq_true] at hk
        exact .cons (rep_sc hk.1 h2) (ih hk.2 h3)
    exact this hk h
inductive SeqK : Slot → Bool → List D → Prop where
  | lst {k : Bool} {ds : List D} : SeqK (.v k (.lst ds)) k ds
  | tup {k : Bool} {ds : List D} : SeqK (.v k (.tup ds)) k ds
  | own {ds : List D} : SeqK (.own ds) true ds
/-- list(x) -/
theorem ed_list (hg : Gl X "list") (hm : X.mg "list" = none) (ha : ED X G a ρ ρ1 s) (hs : SeqK s k ds) (hk : k = true ∨ ds.all isSc = true) (he : starEach [a] X.env = (false, eval a X.env) :: starEach [] X.env := by rfl) (hpl : (backTo pos (starEach [] X.env)).any (·.1) = false := by rfl) : ED X G (.Call (.Name "list" p) [a] [] pos) ρ ρ1 (.own ds) :=
  ed_call1T call_list_of hg hm boot_list ha (fun σ F H v Q E r1 q => by
    cases hs with
    | lst =>
      obtain ⟨a, vs, rfl, h2, h3⟩ := Rep.lstH E.atH r1
      exact ⟨a, vs, rfl, .inl (sql_rd h2), fun l hl => q F _ _ (Ext.refl _) (E.lay0 hl) (E.newL hl (reps_val h3 hk))⟩
    | tup =>
      obtain ⟨a, vs, rfl, h2, h3⟩ := Rep.tupH E.atH r1
      exact ⟨a, vs, rfl, .inr h2, fun l hl => q F _ _ (Ext.refl _) (E.lay0 hl) (E.newL hl (reps_val h3 hk))⟩
    | own =>
      obtain ⟨a, vs, rfl, h2, h3, h4, h5, h6⟩ := r1
      exact ⟨a, vs, rfl, .inl (sql_rd (.inl h2)), fun l hl => q F _ _ (Ext.refl _) (E.lay0 hl) (E.newL hl h5)⟩) (by decide) (by decide) he hpl
/-- tuple(x) of a list -/
theorem call_tuple_ofX : CallR X (.type "tuple") (fun xs H Q => ∃ p ys, xs = [.ref p] ∧ SqL X.K H p ys ∧ ∀ l o, H l = none → o.dict = none → Q (.ref l) (upd H l (.frz o (.tup ys)))) := by
  intro pins s σ H xs us Q I r h
  obtain ⟨p, ys, rfl, hq, q⟩ := h
  obtain ⟨u, rfl, rx⟩ := vals1 r
  cases rx
  obtain ⟨its, r', pl, hz⟩ := I.list hq
  have hlen := r'.length
  refine call_tuple_list pl.isList (fun h' kp => ?_) (by simp only [List.size_toArray] <;> omega)
  have I1 : Inv X pins σ H { s with heap := h' } := I.kept (t' := s.toks) kp
  have hnew : (h'.push { cls := .type "tuple", data := .seq its.toArray }).get? h'.objs.size = some { cls := .type "tuple", data := .seq its.toArray } := Heap.get?_push_size _ rfl
  exact ⟨.ref h'.objs.size, upd H h'.objs.size (.frz { cls := .type "tuple", data := .seq its.toArray } (.tup ys)), I1.laid (t' := s.toks) (fun b o e => Heap.get?_push_of_some _ e) (Nat.le_refl _) (show ObjOk X.prog X.w _ _ _ (.frz _ (.tup ys)) from ⟨hnew, hz, its, r', IsTup.new _ _⟩), rfl, q _ _ (I1.hok.fresh (Nat.le_refl _)) rfl⟩
theorem ed_tupleL (hg : Gl X "tuple") (hm : X.mg "tuple" = none) (ha : ED X G a ρ ρ1 s) (hs : LstS s ds) (hk : (∀ k d, s = .v k d → k = true ∨ ds.all isSc = true)) (he : starEach [a] X.env = (false, eval a X.env) :: starEach [] X.env := by rfl) (hpl : (backTo pos (starEach [] X.env)).any (·.1) = false := by rfl) : ED X G (.Call (.Name "tuple" p) [a] [] pos) ρ ρ1 (.val (.tup ds)) :=
  ed_call1T call_tuple_ofX hg hm boot_tuple ha (fun σ F H v Q E r1 q => by
    have mk {a : Addr} {vs : List V} (h2 : Rd H a (.lst vs)) (h5 : Reps X.K F ds vs) : ∀ l o, H l = none → o.dict = none → Q (.ref l) (upd H l (.frz o (.tup vs))) := fun l o hl ho => q (upd F l (.frz o (.tup vs))) (upd H l (.frz o (.tup vs))) _ (Ext.lay (E.sub.free hl)) (E.lay hl) (sr_val (rep_tup.mpr ⟨l, vs, rfl, SqX.new ho, Reps.mono (Ext.lay (E.sub.free hl)) _ _ h5⟩))
    cases hs with
    | @v k _ =>
      obtain ⟨a, vs, rfl, h2, h3⟩ := Rep.lstH E.atH r1
      exact ⟨a, vs, rfl, sql_rd h2, mk h2 (reps_val h3 (hk k _ rfl))⟩
    | own =>
      obtain ⟨a, vs, rfl, h2, h3, h4, h5, h6⟩ := r1
      exact ⟨a, vs, rfl, sql_rd (.inl h2), mk (.inl h2) h5⟩) (by decide) (by decide) he hpl
/-! ### slices -/
def tDO (K : PySem.W.Frag) (G : Gx) (ρ ρ' : Env) (o : Option Int) : TO := fun σ H Q => ∃ F, ER K G F H σ ρ ∧ ∀ F' H', Ext F F' → ER K G F' H' σ ρ' → Q o H'
abbrev EO (X : Cx) (G : Gx) (e : Option Expr) (ρ ρ' : Env) (o : Option Int) : Prop := PO X e (tDO X.K G ρ ρ' o)
theorem po_mono {e : Option Expr} {t t' : TO} (h : PO X e t) (i : ∀ σ H Q, t' σ H Q → t σ H Q) : PO X e t' := ⟨fun pins s σ H Q I q => h.run pins s σ H Q I (i σ H Q q)⟩
theorem eo_none : EO X G none ρ ρ none := po_mono po_none fun σ H Q ⟨F, E, q⟩ => q F H (Ext.refl _) E
theorem eo_some {i : Int} (h : ED X G e ρ ρ1 (.v k (.int i))) : EO X G (some e) ρ ρ1 (some i) := po_mono (po_some h) fun σ H Q ⟨F, E, q⟩ => ⟨F, E, fun F1 H1 v e1 E1 r1 => ⟨i, of_int r1, q F1 H1 e1 E1⟩⟩
def cutD (xs : List D) (lo hi : Option Int) : List D := (xs.drop (HT.sIx xs.length 0 lo)).take (HT.sIx xs.length xs.length hi - HT.sIx xs.length 0 lo)
theorem reps_cut {vs : List V} {lo hi : Option Int} (h : Reps K F ds vs) : Reps K F (cutD ds lo hi) (cutV vs lo hi) := by
  unfold cutD cutV
  rw [h.length]
  exact (h.drop _).take _
variable {lo hi : Option Expr} {l1 l2 : Option Int}
/-- x[lo:hi] of a list, the bounds leave the frame as it is -/
theorem ed_slL (ha : ED X G a ρ ρ1 s) (hs : SeqK s k ds) (hl : EO X G lo ρ1 ρ1 l1) (hh : EO X G hi ρ1 ρ1 l2) (hk : k = true ∨ ds.all isSc = true) (hL : (∃ k, s = .v k (.lst ds))) : ED X G (.Subscript a (.Slice lo hi none p2) pos) ρ ρ1 (.own (cutD ds l1 l2)) :=
  pe_mono (pe_slice sl_list ha hl hh) fun σ H Q ⟨F, E, q⟩ => ⟨F, E, fun F1 H1 v e1 E1 r1 => ⟨F1, E1, fun F2 H2 e2 E2 => ⟨F2, E2, fun F3 H3 e3 E3 => by
    obtain ⟨k', rfl⟩ := hL
    have hkk : k' = k := by cases hs; rfl
    subst hkk
    obtain ⟨a, vs, rfl, h2, h3⟩ := Rep.lstH E3.atH (Rep.mono (at_ext (e2.trans e3)) _ _ r1)
    exact ⟨a, vs, rfl, sql_rd h2, fun l hl => q F3 _ _ ((e1.trans e2).trans e3) (E3.lay0 hl) (E3.newL hl (reps_cut (reps_val h3 hk)))⟩⟩⟩⟩
theorem ed_slS {t : Str} (ha : ED X G a ρ ρ1 (.v k (.str t))) (hl : EO X G lo ρ1 ρ2 l1) (hh : EO X G hi ρ2 ρ3 l2) (hz : t.length ≤ sizeLine) : ED X G (.Subscript a (.Slice lo hi none p2) pos) ρ ρ3 (.val (.str (cutS t l1 l2))) :=
  pe_mono (pe_slice sl_str ha hl hh) fun σ H Q ⟨F, E, q⟩ => ⟨F, E, fun F1 H1 v e1 E1 r1 => ⟨F1, E1, fun F2 H2 e2 E2 => ⟨F2, E2, fun F3 H3 e3 E3 => by
    have := of_str r1
    subst this
    exact ⟨t, rfl, hz, q F3 _ _ ((e1.trans e2).trans e3) E3 sr_str⟩⟩⟩⟩
/-- x.extend(y), y also frozen -/
def rExtendR : V → List V → Hp → VK → Prop := fun x vs H Q => ∃ l b xs zs, x = .ref l ∧ vs = [.ref b] ∧ H l = some (.lst xs) ∧ Rd H b (.lst zs) ∧ xs.length + zs.length ≤ sizeLine ∧ Q .non (upd H l (.lst (xs ++ zs)))
theorem mt_extendR {X : Cx} : MtM X "list.extend" rExtendR := by
  intro pins s σ H x vs v us Q I rx rv h
  obtain ⟨l, b, xs, zs, rfl, rfl, hH, hB, hz, q⟩ := h
  cases rx
  obtain ⟨u, rfl, ru⟩ := rv.one
  cases ru
  obtain ⟨z, its, n, r, hl, e⟩ := I.lstM hH
  obtain ⟨z2, its2, n2, r2, e2⟩ := (show ObjOk X.prog X.w H s.heap b (.lst zs) from hB.ok I.hok)
  have hl2 := r2.length
  have size2 : its.toArray.size + its2.toArray.size ≤ sizeLine := by rw [List.size_toArray, List.size_toArray]; omega
  have few : ¬ (!its.toArray.isEmpty && Builtin.List.listTooLong (its.toArray.size + its2.toArray.size)) = true := by
    rw [notLongL size2, Bool.and_false]; exact Bool.false_ne_true
  refine call_meets F.slot_list_extend ⟨_, e, rfl⟩ F.entry_list_extend (F.args_list_extend_2 _ _) (AutoSeq1.list_extend_list_list_0 l its.toArray n b its2.toArray n2 few (by rw [List.size_toArray]; omega) (by omega)) ⟨e, e2, .non, _, I.lset (its' := its ++ its2) hH e (by simp) (r.append r2) ?_, rfl, q⟩
  rw [List.length_append]; omega
/-! ### lists of one's own, by methods -/
theorem ed_extend (hN : X.N[i]? = some n) (hv : Vis X.env.scope n) (h0 : ρ[i]? = some (some (.own es))) (he : ED X G e ρ ρ1 s) (hd : ToV s (.lst ds)) {zs : List D} (h1 : ρ1[i]? = some (some (.own zs))) (hz : zs.length + ds.length ≤ sizeLine)
    (hdb : (n == ("__debug__" : Str)) = false := by decide) (hcd : (n == ("__classdict__" : Str)) = false := by decide) (hbase : attributeBase (.Name n p) "extend" X.env (eval (.Name n p) X.env) = eval (.Name n p) X.env := by rfl)
    (hst : starEach [e] X.env = (false, eval e X.env) :: starEach [] X.env := by rfl) (hpl : (backTo cpos (starEach [] X.env)).any (·.1) = false := by rfl) (hline : (apos.endLine == cpos.line) = true := by rfl)
    (hfew : ((backTo cpos (starEach [e] X.env)).all (fun x => !x.1) && (backToKw cpos (keywordEach [] X.env)).all (fun x => x.1.isSome) && decide ([e].length + ([] : List Keyword).length + (if ([] : List Keyword).isEmpty then 0 else 1) < 30)) = true := by rfl) : ED X G (.Call (.Attribute (.Name n p) "extend" apos) [e] [] cpos) ρ (ρ1.set i (some (.own (zs ++ ds)))) (.val .non) :=
  pe_mono (pe_bm PySem.F.plainAttrs_list PySem.F.slot_list_extend PySem.F.type_list_extend mt_extendR (pe_var hN hv hdb hcd) (ea_one (ed_toV he hd) hst) hbase hfew hline hst hpl) fun σ H Q ⟨F, E, q⟩ => by
    obtain ⟨a, vs, g1, g2, g3, g4, g5⟩ := E.own i es h0
    refine ⟨_, g1, .inl ⟨rfl, vs, SqL.of g2⟩, F, E, fun F2 H2 w e2 E2 r2 => ?_⟩
    obtain ⟨a', vs', k1, k2, k3, k4, k5⟩ := E2.own i zs h1
    rw [g1] at k1; cases k1
    obtain ⟨b, ws, rfl, m2, m3⟩ := Rep.lstH E2.sub r2
    exact ⟨a, b, vs', ws, rfl, rfl, k2, m2, by rw [k5.length, m3.length]; exact hz, q F2 _ _ e2 (E2.write h1 g1 (k5.append m3)) sr_non⟩
/-- x.pop(e) -/
theorem ed_popAt {jj : Int} {q : Nat} (hN : X.N[i]? = some n) (hv : Vis X.env.scope n) (h0 : ρ[i]? = some (some (.own es))) (he : ED X G e ρ ρ1 (.v k (.int jj))) (h1 : ρ1[i]? = some (some (.own ds))) (hj : jj = (q : Int)) (hq : ds[q]? = some d) (hz : jj < 2 ^ 63)
    (hdb : (n == ("__debug__" : Str)) = false := by decide) (hcd : (n == ("__classdict__" : Str)) = false := by decide) (hbase : attributeBase (.Name n p) "pop" X.env (eval (.Name n p) X.env) = eval (.Name n p) X.env := by rfl)
    (hst : starEach [e] X.env = (false, eval e X.env) :: starEach [] X.env := by rfl) (hpl : (backTo cpos (starEach [] X.env)).any (·.1) = false := by rfl) (hline : (apos.endLine == cpos.line) = true := by rfl)
    (hfew : ((backTo cpos (starEach [e] X.env)).all (fun x => !x.1) && (backToKw cpos (keywordEach [] X.env)).all (fun x => x.1.isSome) && decide ([e].length + ([] : List Keyword).length + (if ([] : List Keyword).isEmpty then 0 else 1) < 30)) = true := by rfl) : ED X G (.Call (.Attribute (.Name n p) "pop" apos) [e] [] cpos) ρ (ρ1.set i (some (.own (ds.eraseIdx q)))) (.val d) :=
  pe_mono (pe_bm PySem.F.plainAttrs_list PySem.F.slot_list_pop PySem.F.type_list_pop mt_popAt (pe_var hN hv hdb hcd) (ea_one he hst) hbase hfew hline hst hpl) fun σ H Q ⟨F, E, qq⟩ => by
    obtain ⟨a, vs, g1, g2, g3, g4, g5⟩ := E.own i es h0
    refine ⟨_, g1, .inl ⟨rfl, vs, SqL.of g2⟩, F, E, fun F2 H2 w e2 E2 r2 => ?_⟩
    obtain ⟨a', vs', k1, k2, k3, k4, k5⟩ := E2.own i ds h1
    rw [g1] at k1; cases k1
    obtain ⟨y, m1, m2⟩ := k5.getD hq
    have hl : q < vs'.length := (List.getElem?_eq_some_iff.mp m1).1
    have hb : vs'.length ≤ vs'.length := Nat.le_refl _
    refine ⟨a, vs', jj, q, y, rfl, by rw [of_int r2], k2, by omega, hz, ?_, m1, qq F2 _ _ e2 (E2.write h1 g1 (k5.eraseIdx q)) (sr_val m2)⟩
    obtain ⟨j2, z1, z2, _⟩ := atI_get (atI_nat m1)
    rw [hj]
    have : j2 = q := by
      have z3 := z1
      unfold seqIndex? at z3
      split at z3 <;> simp at z3 <;> omega
    rw [← this]; rw [this] at z1 ⊢; exact z1
/-- x.reverse() -/
theorem ed_reverse (hN : X.N[i]? = some n) (hv : Vis X.env.scope n) (h0 : ρ[i]? = some (some (.own ds)))
    (hdb : (n == ("__debug__" : Str)) = false := by decide) (hcd : (n == ("__classdict__" : Str)) = false := by decide) (hbase : attributeBase (.Name n p) "reverse" X.env (eval (.Name n p) X.env) = eval (.Name n p) X.env := by rfl) (hline : (apos.endLine == cpos.line) = true := by rfl) :
    ED X G (.Call (.Attribute (.Name n p) "reverse" apos) [] [] cpos) ρ (ρ.set i (some (.own ds.reverse))) (.val .non) :=
  pe_mono (pe_bm0 PySem.F.plainAttrs_list PySem.F.slot_list_reverse PySem.F.type_list_reverse mt_reverse (pe_var hN hv hdb hcd) hbase hline) fun σ H Q ⟨F, E, q⟩ => by
    obtain ⟨a, vs, g1, g2, g3, g4, g5⟩ := E.own i ds h0
    exact ⟨_, g1, .inl ⟨rfl, vs, SqL.of g2⟩, a, vs, rfl, rfl, g2, q F _ _ (Ext.refl _) (E.write h0 g1 g5.reverse) sr_non⟩
/-! ### texts -/
theorem ed_strOf {jj : Int} (hg : Gl X "str") (hm : X.mg "str" = none) (ha : ED X G a ρ ρ1 (.v k (.int jj))) (hz : jj.natAbs.log2 < 1920) (he : starEach [a] X.env = (false, eval a X.env) :: starEach [] X.env := by rfl) (hpl : (backTo pos (starEach [] X.env)).any (·.1) = false := by rfl) : ED X G (.Call (.Name "str" p) [a] [] pos) ρ ρ1 (.val (.str (Str.ofString (toString jj)))) :=
  ed_call1T call_str_int hg hm boot_str ha (fun σ F H v Q E r1 q => ⟨jj, by rw [of_int r1], hz, q F H _ (Ext.refl _) E sr_str⟩) (by decide) (by decide) he hpl
/-- t.join(x) -/
theorem ed_join {t : Str} {ss : List Str} (ho : ED X G o ρ ρ1 (.v k (.str t))) (he : ED X G e ρ1 ρ2 s) (hs : LstS s ds) (hd : ds = ss.map D.str) (hz : (ss.map (·.length)).sum + ss.length * t.length ≤ 16777216)
    (hbase : attributeBase o "join" X.env (eval o X.env) = eval o X.env := by rfl)
    (hst : starEach [e] X.env = (false, eval e X.env) :: starEach [] X.env := by rfl) (hpl : (backTo cpos (starEach [] X.env)).any (·.1) = false := by rfl) (hline : (apos.endLine == cpos.line) = true := by rfl)
    (hfew : ((backTo cpos (starEach [e] X.env)).all (fun x => !x.1) && (backToKw cpos (keywordEach [] X.env)).all (fun x => x.1.isSome) && decide ([e].length + ([] : List Keyword).length + (if ([] : List Keyword).isEmpty then 0 else 1) < 30)) = true := by rfl) : ED X G (.Call (.Attribute o "join" apos) [e] [] cpos) ρ ρ2 (.val (.str (Txt.join t ss))) :=
  pe_mono (pe_bm PySem.F.plainAttrs_str PySem.F.slot_str_join PySem.F.type_str_join mt_join ho (ea_one he hst) hbase hfew hline hst hpl) fun σ H Q ⟨F, E, q⟩ => ⟨F, E, fun F1 H1 v e1 E1 r1 => by
    have := of_str r1
    subst this
    refine ⟨rfl, F1, E1, fun F2 H2 w e2 E2 r2 => ?_⟩
    obtain ⟨k, a, vs, rfl, h2, h3⟩ := lst_rd hs E2 r2
    rw [hd] at h3
    rw [h3.strs] at h2
    exact ⟨t, a, ss, rfl, rfl, .inl (sql_rd h2), hz, q F2 _ _ (e1.trans e2) E2 sr_str⟩⟩
end
end DL
/-! DL11: zip and enumerate over lists and tuples in any mix. -/
namespace DL
open PySem L2 PyProof.Rows
/-- a list or a tuple that is walked -/
inductive Src where
  | l (a : Addr) | t (a : Addr)
def Src.ad : Src → Addr
  | .l a => a
  | .t a => a
def Src.Sq (K : PySem.W.Frag) (H : Hp) : Src → List V → Prop
  | .l a, xs => SqL K H a xs
  | .t a, xs => SqT K H a xs
def Src.It (h : Heap) (it : Addr) (i : Nat) : Src → Prop
  | .l a => h.IsListIter it a i
  | .t a => h.IsTupleIter it a i
def Src.Has (h : Heap) (items : Array Value) : Src → Prop
  | .l a => h.IsList a items
  | .t a => h.IsTuple a items
def Src.ob : Src → Obj
  | .l a => { cls := .type "list_iterator", data := .fields #[.ref a, .int 0 0] }
  | .t a => { cls := .type "tuple_iterator", data := .fields #[.ref a, .int 0 0] }
theorem Src.draws {prog : Program} {w : World} {A : Around} (hh : A.handled = none) (S : Src) (it : Addr) (hne : S.ad ≠ it) (items : Array Value) : Draws prog w A it [it, S.ad] items.size (fun i v => items[i]? = some v) (fun i h => S.It h it i ∧ S.Has h items) := by
  cases S with
  | l a => exact Draws.list hh it a hne items
  | t a => exact Draws.tuple hh it a hne items
theorem Src.begins (S : Src) (items : Array Value) : Begins (.ref S.ad) S.ob fun h => S.Has h items := by
  cases S with
  | l a => exact begins_list a items
  | t a => exact begins_tuple a items
section
variable {X : Cx} {pins : List (Addr × Obj)} {σ : L2.St} {H : Hp} {s : Shared} {S : Src} {xs ys : List V} {h h' : Heap} {it : Addr} {i : Nat}
theorem Src.inv (I : Inv X pins σ H s) (q : S.Sq X.K H xs) : ∃ its : List Value, Vals xs its ∧ S.Has s.heap its.toArray := by
  cases S with
  | l a =>
    obtain ⟨its, rv, p, _⟩ := I.list q
    exact ⟨its, rv, p.isList⟩
  | t a =>
    obtain ⟨its, rv, p, _⟩ := I.tuple q
    exact ⟨its, rv, p⟩
theorem Src.inj (I : Inv X pins σ H s) (q : S.Sq X.K H xs) (q' : S.Sq X.K H ys) : xs = ys := by
  cases S with
  | l a => exact I.list_inj q q'
  | t a => exact I.tuple_inj q q'
theorem Src.It.ob_ (st : S.It h it i) : ∃ o, h.get? it = some o ∧ ∀ v, o.data ≠ .cell v := by
  cases S with
  | l a => obtain ⟨o, ho, _, hd⟩ := st; exact ⟨o, ho, fun v q => by rw [hd] at q; cases q⟩
  | t a => obtain ⟨o, ho, _, hd⟩ := st; exact ⟨o, ho, fun v q => by rw [hd] at q; cases q⟩
theorem Src.It.keep (st : S.It h it i) (k : ∀ o, h.get? it = some o → h'.get? it = some o) : S.It h' it i := by
  cases S with
  | l a => exact st.at k
  | t a => exact st.at k
theorem Src.It.start (e : h.get? it = some S.ob) : S.It h it 0 := by
  cases S with
  | l a => exact ⟨_, e, rfl, rfl⟩
  | t a => exact ⟨_, e, rfl, rfl⟩
end
/-! ### zip -/
def ItS2 (K : PySem.W.Frag) (S1 S2 : Src) : It :=
  ⟨fun i H => ∃ (xs ys : List V) (x y : V), S1.Sq K H xs ∧ S2.Sq K H ys ∧ xs[i]? = some x ∧ ys[i]? = some y,
    fun i H v H' => ∃ T x y, v = .ref T ∧ H T = none ∧ H' = upd H T (.tup [x, y]) ∧ (∀ xs, S1.Sq K H xs → xs[i]? = some x) ∧ ∀ ys, S2.Sq K H ys → ys[i]? = some y,
    fun i H => ∃ xs ys : List V, S1.Sq K H xs ∧ S2.Sq K H ys ∧ i = min xs.length ys.length⟩
theorem turn_zipS {P : Program} {w : World} {K : PySem.W.Frag} {elts : List Expr} {kk : Nat} {tpos : Pos} {S1 S2 : Src} {z TI TO i1 i2 : Addr} (D : ZipSep2 z TI TO i1 i2 [i1, S1.ad] [i2, S2.ad]) (n1 : S1.ad ≠ i1) (n2 : S2.ad ≠ i2) :
    Turn P w K (.Tuple elts kk tpos) (ItS2 K S1 S2) [z, TI, TO, i1, i2] z (fun i h => IsZip h z TI TO .none ∧ IsTupOf2 h TI (.ref i1) (.ref i2) ∧ (∃ x y, IsTupOf2 h TO x y) ∧ S1.It h i1 i ∧ S2.It h i2 i) where
  mem := by simp
  obj := fun i h st c hc => by
    obtain ⟨hz, hTI, ⟨x, y, hTO⟩, h1, h2⟩ := st
    have e' : c = z ∨ c = TI ∨ c = TO ∨ c = i1 ∨ c = i2 := by simpa using hc
    rcases e' with q | q | q | q | q
    · rw [q]; exact ⟨_, hz, fun v q => nomatch q⟩
    · rw [q]; exact ⟨_, hTI, fun v q => nomatch q⟩
    · rw [q]; exact ⟨_, hTO, fun v q => nomatch q⟩
    · rw [q]; exact h1.ob_
    · rw [q]; exact h2.ob_
  keep := fun i h h' st k => by
    obtain ⟨hz, hTI, ⟨x, y, hTO⟩, h1, h2⟩ := st
    exact ⟨k z (by simp) _ hz, k TI (by simp) _ hTI, ⟨x, y, k TO (by simp) _ hTO⟩, h1.keep fun o q => k i1 (by simp) o q, h2.keep fun o q => k i2 (by simp) o q⟩
  item := by
    intro X hP hw hK hc i pins s σ H E I hf st hg
    subst hP hw hK
    obtain ⟨hz, hTI, ⟨x0, y0, hTO⟩, h1, h2⟩ := st
    obtain ⟨xs, ys, x, y, hqx, hqy, hx, hy⟩ := hg
    obtain ⟨its, rv, p⟩ := Src.inv I hqx
    obtain ⟨its2, rv2, p2⟩ := Src.inv I hqy
    obtain ⟨u, hu, ru⟩ := rv.get hx
    obtain ⟨u2, hu2, ru2⟩ := rv2.get hy
    have hzl : z < s.heap.objs.size := Heap.lt_size hz
    have hh : X.A.in1.handled = none := I.ok.hd hc
    have lt1 : i < its.toArray.size := by
      have := (List.getElem?_eq_some_iff.mp hu).1
      simpa using this
    have lt2 : i < its2.toArray.size := by
      have := (List.getElem?_eq_some_iff.mp hu2).1
      simpa using this
    refine wpAny_pyNext_zipD2_item D (S1.draws hh i1 n1 its.toArray) (S2.draws hh i2 n2 its2.toArray) hz hTI hTO ⟨h1, p⟩ ⟨h2, p2⟩ lt1 lt2 fun x1 x2 h' tk y1 y2 z' TO' h1' h2' hT hsz hk => ?_
    have e1 : x1 = u := by
      have : its.toArray[i]? = some u := by simpa using hu
      rw [this] at y1; exact (Option.some.inj y1).symm
    have e2 : x2 = u2 := by
      have : its2.toArray[i]? = some u2 := by simpa using hu2
      rw [this] at y2; exact (Option.some.inj y2).symm
    subst e1
    subst e2
    refine ⟨_, rfl, wpAny_letOwnedTupleGo_zip (s := { s with heap := h', toks := tk }) z' fun h'' z'' sb => ?_⟩
    have hT2 : h''.get? s.heap.objs.size = some { cls := .type "tuple", data := .seq #[x1, x2] } := (sb.2 _ (Nat.ne_of_gt hzl)).trans hT
    have new : ObjOk X.prog X.w (upd H s.heap.objs.size (.tup [x, y])) h'' s.heap.objs.size (.tup [x, y]) :=
      ⟨by show 2 ≤ sizeLine; decide, [x1, x2], .cons ru (.cons ru2 .nil), ⟨_, hT2, rfl, _, rfl⟩⟩
    have I1 : Inv X pins σ (upd H s.heap.objs.size (.tup [x, y])) { s with heap := h'', toks := tk } :=
      I.turnedNew (t' := tk) (ch := [z, TI, TO, i1, i2]) (fun c o hb q => (sb.2 c (fun q' => hb (by simp [q']))).trans (hk c o (fun q' => hb (by simp [q'])) (fun q' => hb (by simp [q'])) (fun q' => hb (by simp [q'])) (fun q' => hb (by simp [q'])) q)) hf (Nat.le_refl _) new
    refine ⟨.ref s.heap.objs.size, _, I1, rfl, ⟨_, x, y, rfl, I.hok.fresh (Nat.le_refl _), rfl, fun l hl => by rw [Src.inj I hl hqx]; exact hx, fun l hl => by rw [Src.inj I hl hqy]; exact hy⟩, ⟨z'', ?_, ⟨x1, x2, ?_⟩, ?_, ?_⟩, fun c hcm => ?_⟩
    · exact (sb.2 _ D.TIz).trans (hk _ _ D.TIz D.TITO D.TIi1 D.TIi2 hTI)
    · exact (sb.2 _ D.TOz).trans TO'
    · exact h1'.1.keep fun o q => (sb.2 _ (fun q' => D.zi1 q'.symm)).trans q
    · exact h2'.1.keep fun o q => (sb.2 _ (fun q' => D.zi2 q'.symm)).trans q
    · have hlt : c < s.heap.objs.size := by
        have e' : c = z ∨ c = TI ∨ c = TO ∨ c = i1 ∨ c = i2 := by simpa using hcm
        rcases e' with q | q | q | q | q
        · rw [q]; exact hzl
        · rw [q]; exact Heap.lt_size hTI
        · rw [q]; exact Heap.lt_size hTO
        · rw [q]; obtain ⟨_, e1, _⟩ := h1.ob_; exact Heap.lt_size e1
        · rw [q]; obtain ⟨_, e2, _⟩ := h2.ob_; exact Heap.lt_size e2
      rw [upd_ne (Nat.ne_of_lt hlt)]
      exact (hf c hcm).1
  done := by
    intro X hP hw hK hc i pins s σ H E I hf st hg
    subst hP hw hK
    obtain ⟨hz, hTI, ⟨x0, y0, hTO⟩, h1, h2⟩ := st
    obtain ⟨xs, ys, hqx, hqy, hend⟩ := hg
    obtain ⟨its, rv, p⟩ := Src.inv I hqx
    obtain ⟨its2, rv2, p2⟩ := Src.inv I hqy
    have l1 := rv.length
    have l2 := rv2.length
    have hh : X.A.in1.handled = none := I.ok.hd hc
    exact wpAny_pyNext_zipD2_end D (S1.draws hh i1 n1 its.toArray) (S2.draws hh i2 n2 its2.toArray) hz hTI hTO ⟨h1, p⟩ ⟨h2, p2⟩ (by simp; omega) (by simp; omega) (by simp; omega) fun h' tk hk => ⟨rfl, I.turnedL (t' := tk) (ch := [z, TI, TO, i1, i2]) (fun c o hb q =>
      hk c o (fun q' => hb (by simp [q'])) (fun q' => hb (by simp [q'])) (fun q' => hb (by simp [q'])) (fun q' => hb (by simp [q'])) q) hf⟩
  self := fun A i s Q E st h => wpAny_pyIter_zip st.1 h
def iZipS (K : PySem.W.Frag) (ta : TA) : TI := fun σ H R => ta σ H fun vs H1 => ∃ S1 S2 xs ys, vs = [V.ref S1.ad, V.ref S2.ad] ∧ S1.Sq K H1 xs ∧ S2.Sq K H1 ys ∧ R (ItS2 K S1 S2) H1
theorem Src.lt {S : Src} {h : Heap} {items : Array Value} (q : S.Has h items) : S.ad < h.objs.size := by
  cases S with
  | l a => obtain ⟨o, ho, _⟩ := q; exact Heap.lt_size ho
  | t a => obtain ⟨o, ho, _⟩ := q; exact Heap.lt_size ho
theorem pi_zipS {X : Cx} {e e2 : Expr} {ta : TA} {p pos tpos : Pos} {elts : List Expr} {kk : Nat} (hg : Gl X "zip") (hm : X.mg "zip" = none) (ha : PA X [e, e2] ta)
    (hs : starEach [e, e2] X.env = (false, eval e X.env) :: starEach [e2] X.env := by rfl) (hpl : (backTo pos (starEach [e2] X.env)).any (·.1) = false := by rfl) :
    PI X (.Tuple elts kk tpos) (.Call (.Name "zip" p) [e, e2] [] pos) (iZipS X.K ta) := by
  refine ⟨fun pins s σ H R I h => ?_⟩
  refine Call_ (ld_blt I hg hm PyProof.Rows.boot_zip (PyProof.Rows.callWith_type1 (thn (ha.run pos pins s σ H _ I h) fun us s1 ⟨vs, H1, I1, r1, q1⟩ => ?_) hs hpl))
  obtain ⟨S1, S2, xs, ys, ex, hqx, hqy, q⟩ := q1
  subst ex
  cases r1 with
  | cons r rr =>
    cases rr with
    | cons r' rr =>
      cases rr
      cases r
      cases r'
      obtain ⟨its, rv, p1⟩ := Src.inv I1 hqx
      obtain ⟨its2, rv2, p2⟩ := Src.inv I1 hqy
      have fresh5 : ∀ c, c ∈ [s1.heap.objs.size + 4, s1.heap.objs.size + 2, s1.heap.objs.size + 3, s1.heap.objs.size, s1.heap.objs.size + 1] → FpOk X pins H1 c := fun c hcm => by
        have e' : c = s1.heap.objs.size + 4 ∨ c = s1.heap.objs.size + 2 ∨ c = s1.heap.objs.size + 3 ∨ c = s1.heap.objs.size ∨ c = s1.heap.objs.size + 1 := by simpa using hcm
        have hle : s1.heap.objs.size ≤ c := by omega
        exact I1.fpOk hle (I1.hok.fresh hle)
      refine zip_begins2 (S1.begins its.toArray) (S2.begins its2.toArray) p1 p2 fun h' hz hTI hTO h1 h2 hsz hk => wpAny_pyIter_zip hz ?_
      have I2 : Inv X pins σ H1 { s1 with heap := h' } := I1.kept (t' := s1.toks) hk
      have lt1 := Src.lt p1
      have lt2 := Src.lt p2
      have hS : ZipSep2 (s1.heap.objs.size + 4) (s1.heap.objs.size + 2) (s1.heap.objs.size + 3) s1.heap.objs.size (s1.heap.objs.size + 1) [s1.heap.objs.size, S1.ad] [s1.heap.objs.size + 1, S2.ad] := zip_sep2 (by simpa using lt1) (by simpa using lt2)
      exact ⟨s1.heap.objs.size + 4, [s1.heap.objs.size + 4, s1.heap.objs.size + 2, s1.heap.objs.size + 3, s1.heap.objs.size, s1.heap.objs.size + 1], _, _, H1, rfl, I2, turn_zipS hS (Nat.ne_of_lt lt1) (Nat.ne_of_lt (Nat.lt_succ_of_lt lt2)), ⟨hz, hTI, ⟨_, _, hTO⟩, Src.It.start h1, Src.It.start h2⟩, fresh5, q⟩
theorem walk_zipS {K : PySem.W.Frag} {S1 S2 : Src} {xs ys : List V} {n : Nat} (hn : n = min xs.length ys.length) : Walk (ItS2 K S1 S2) n (fun H => S1.Sq K H xs ∧ S2.Sq K H ys) (YPair (fun i => xs[i]?) (fun i => ys[i]?)) :=
  ⟨fun i _ hi q => ⟨xs, ys, xs[i]'(by omega), ys[i]'(by omega), q.1, q.2, by simp [show i < xs.length by omega], by simp [show i < ys.length by omega]⟩, fun _ q => ⟨xs, ys, q.1, q.2, hn⟩,
    fun i H x H' _ q y => by
      obtain ⟨T, a, b, h1, h2, h3, h4, h5⟩ := y
      exact ⟨T, a, b, h1, h2, h3, h4 xs q.1, h5 ys q.2⟩⟩
/-! ### at the level of data -/
section
variable {X : Cx} {G G' : Gx} {e a b c o : Expr} {ρ ρ' ρ0 ρ1 ρ2 ρ3 : DL.Env} {r s z s1 s2 : Slot} {d x y w : D} {ds es : List D} {K : PySem.W.Frag} {F F1 F' H H' : Hp} {σ : L2.St} {v u : V} {pos p p2 apos cpos tpos : Pos} {k k1 k2 k3 : Bool} {n : Str} {xs : List Expr} {m i j kk : Nat} {P : Out → Prop} {elts : List Expr}
/-- a list or a tuple, or one's own list -/
theorem seq_src (hs : SeqS s ds) (E : ER K G F H σ ρ) (r : SR K G F H σ ρ s v) : ∃ k S vs, s = .v k (match S with | Src.l _ => .lst ds | Src.t _ => .tup ds) ∧ v = V.ref S.ad ∧ Reps K (G.at F k) ds vs ∧ ∀ H', Ext F H' → Ext G.Hv H' → S.Sq K H' vs := by
  cases hs with
  | @lst k ds =>
    obtain ⟨a, vs, rfl, h2, h3⟩ : ∃ a vs, v = V.ref a ∧ Rd (G.at F k) a (.lst vs) ∧ Reps K (G.at F k) ds vs := rep_lst.mp r
    refine ⟨k, .l a, vs, rfl, rfl, h3, fun H' e1 e2 => sql_rd ?_⟩
    cases k
    · exact Ext.rd e2 h2
    · exact Ext.rd e1 h2
  | @tup k ds =>
    obtain ⟨a, vs, rfl, ⟨h2, _⟩, h3⟩ : ∃ a vs, v = V.ref a ∧ SqX K (G.at F k) a vs ∧ Reps K (G.at F k) ds vs := rep_tup.mp r
    refine ⟨k, .t a, vs, rfl, rfl, h3, fun H' e1 e2 => ?_⟩
    cases k
    · exact Ext.sqT e2 h2
    · exact Ext.sqT e1 h2
def tD2 (K : PySem.W.Frag) (G : Gx) (ρ ρ' : DL.Env) (r1 r2 : Slot) : TA := fun σ H Q => ∃ F, ER K G F H σ ρ ∧ ∀ F' H' v u, Ext F F' → ER K G F' H' σ ρ' → SR K G F' H' σ ρ' r1 v → SR K G F' H' σ ρ' r2 u → Q [v, u] H'
theorem ea_two {x1 y1 : D} (ha : ED X G a ρ ρ1 (.v k1 x1)) (hb : ED X G b ρ1 ρ2 (.v k2 y1)) (hs : starEach [a, b] X.env = (false, eval a X.env) :: starEach [b] X.env := by rfl) (hs2 : starEach [b] X.env = (false, eval b X.env) :: starEach [] X.env := by rfl) : PA X [a, b] (tD2 X.K G ρ ρ2 (.v k1 x1) (.v k2 y1)) :=
  pa_mono (pa_cons ha (pa_cons hb pa_nil hs2) hs) fun σ H Q ⟨F, E, q⟩ => ⟨F, E, fun F1 H1 v e1 E1 r1 => ⟨F1, E1, fun F2 H2 u e2 E2 r2 => q F2 H2 v u (e1.trans e2) E2 (Rep.mono (at_ext e2) _ _ r1) r2⟩⟩
theorem wk_zip {x1 y1 : D} (hg : Gl X "zip") (hm : X.mg "zip" = none) (ha : ED X G a ρ ρ1 (.v k1 x1)) (hb : ED X G b ρ1 ρ2 (.v k2 y1)) (h1 : SeqS (.v k1 x1) ds) (h2 : SeqS (.v k2 y1) es) (hn : m = min ds.length es.length) {dx : D}
    (hs : starEach [a, b] X.env = (false, eval a X.env) :: starEach [b] X.env := by rfl) (hs2 : starEach [b] X.env = (false, eval b X.env) :: starEach [] X.env := by rfl) (hpl : (backTo pos (starEach [b] X.env)).any (·.1) = false := by rfl) :
    WD X G (.Tuple elts kk tpos) (.Call (.Name "zip" p) [a, b] [] pos) ρ ρ2 m (fun t => .two k1 (ds.getD t dx) k2 (es.getD t dx)) :=
  pi_mono (pi_zipS hg hm (ea_two ha hb hs hs2) hs hpl) fun σ H R ⟨F, E, q⟩ => ⟨F, E, fun F1 H1 v u e1 E1 r1 r2 => by
    obtain ⟨k1', S1, vs, q1, rfl, hr1, hq1⟩ := seq_src h1 E1 r1
    obtain ⟨k2', S2, ws, q2, rfl, hr2, hq2⟩ := seq_src h2 E1 r2
    have z1 : k1' = k1 := by injection q1 with q1 _; exact q1.symm
    have z2 : k2' = k2 := by injection q2 with q2 _; exact q2.symm
    subst z1
    subst z2
    refine ⟨S1, S2, vs, ws, rfl, hq1 _ E1.sub E1.keep, hq2 _ E1.sub E1.keep, q F1 H1 _ e1 E1 ⟨_, _, walk_zipS (xs := vs) (ys := ws) (n := m) (by rw [hr1.length, hr2.length]; exact hn), fun H e2 e3 => ⟨hq1 H e2 e3, hq2 H e2 e3⟩, fun t H x H' ht e2 e3 y => ?_⟩⟩
    obtain ⟨T, a, b, g1, g2, g3, g4, g5⟩ := y
    obtain ⟨d1, m1, m2⟩ := hr1.get g4
    obtain ⟨d2, m3, m4⟩ := hr2.get g5
    refine ⟨T, a, b, g1, g2, g3, ?_, ?_⟩
    · have : ds.getD t dx = d1 := by rw [List.getD_eq_getElem?_getD, m1]; rfl
      rw [this]; exact m2
    · have : es.getD t dx = d2 := by rw [List.getD_eq_getElem?_getD, m3]; rfl
      rw [this]; exact m4⟩
end
end DL
/-! DL12: enumerate. -/
namespace DL
open PySem L2 PyProof.Rows
def ItE (K : PySem.W.Frag) (S : Src) (k0 : Int) : It :=
  ⟨fun i H => ∃ (xs : List V) (x : V), S.Sq K H xs ∧ xs[i]? = some x, fun i H v H' => ∃ T x, v = .ref T ∧ H T = none ∧ H' = upd H T (.tup [.int (k0 + (i : Nat)), x]) ∧ ∀ xs, S.Sq K H xs → xs[i]? = some x, fun i H => ∃ xs : List V, S.Sq K H xs ∧ xs.length = i⟩
theorem turn_enumS {P : Program} {w : World} {K : PySem.W.Frag} {elts : List Expr} {kk : Nat} {tpos : Pos} {S : Src} {k0 : Int} (e it : Addr) (hne : e ≠ it) (he : e ≠ S.ad) (hit : S.ad ≠ it) :
    Turn P w K (.Tuple elts kk tpos) (ItE K S k0) [e, it] e (fun i h => (∃ old, IsEnum h e it (k0 + ((i : Nat) : Int)) old) ∧ S.It h it i) where
  mem := by simp
  obj := fun i h st b hb => by
    obtain ⟨⟨old, he⟩, hi⟩ := st
    have e' : b = e ∨ b = it := by simpa using hb
    rcases e' with z | z
    · rw [z]; exact ⟨_, he, fun v q => nomatch q⟩
    · rw [z]; exact hi.ob_
  keep := fun i h h' st k => let ⟨⟨old, he⟩, hi⟩ := st; ⟨⟨old, k e (by simp) _ he⟩, hi.keep fun o q => k it (by simp) o q⟩
  item := by
    intro X hP hw hK hc i pins s σ H E I hf st hg
    subst hP hw hK
    obtain ⟨⟨old, hen⟩, hi⟩ := st
    obtain ⟨xs, x, hq, hx⟩ := hg
    obtain ⟨its, rv, p⟩ := Src.inv I hq
    obtain ⟨u, hu, ru⟩ := rv.get hx
    have hel : e < s.heap.objs.size := Heap.lt_size hen
    have hil : it < s.heap.objs.size := by obtain ⟨_, q, _⟩ := hi.ob_; exact Heap.lt_size q
    have hh : X.A.in1.handled = none := I.ok.hd hc
    have lt1 : i < its.toArray.size := by
      have := (List.getElem?_eq_some_iff.mp hu).1
      simpa using this
    refine wpAny_pyNext_enum_itemC (S.draws hh it hit its.toArray) hen ⟨hi, p⟩ lt1 hne (by simp [hne, he]) fun x1 h' tk y1 ho hs' hT hsz hk => ?_
    have e1 : x1 = u := by
      have : its.toArray[i]? = some u := by simpa using hu
      rw [this] at y1; exact (Option.some.inj y1).symm
    subst e1
    refine ⟨_, rfl, wpAny_letOwnedTupleGo_enum (s := { s with heap := h', toks := tk + 1 }) ho fun h'' he' sb => ?_⟩
    have hT2 : h''.get? s.heap.objs.size = some { cls := .type "tuple", data := .seq #[.int (k0 + (i : Nat)) tk, x1] } := (sb.2 _ (Nat.ne_of_gt hel)).trans hT
    have new : ObjOk X.prog X.w (upd H s.heap.objs.size (.tup [.int (k0 + (i : Nat)), x])) h'' s.heap.objs.size (.tup [.int (k0 + (i : Nat)), x]) :=
      ⟨by show 2 ≤ sizeLine; decide, [.int (k0 + (i : Nat)) tk, x1], .cons ⟨_, rfl⟩ (.cons ru .nil), ⟨_, hT2, rfl, _, rfl⟩⟩
    have I1 : Inv X pins σ (upd H s.heap.objs.size (.tup [.int (k0 + (i : Nat)), x])) { s with heap := h'', toks := tk + 1 } :=
      I.turnedNew (t' := tk + 1) (ch := [e, it]) (fun b ob hb q => (sb.2 b (fun z => hb (by simp [z]))).trans (hk b ob (fun z => hb (by simp [z])) (fun z => hb (by simp [z])) q)) hf (Nat.le_refl _) new
    refine ⟨.ref s.heap.objs.size, _, I1, rfl, ⟨_, x, rfl, I.hok.fresh (Nat.le_refl _), rfl, fun ys hy => by rw [Src.inj I hy hq]; exact hx⟩, ⟨⟨x1, ?_⟩, hs'.1.keep fun o q => (sb.2 it (Ne.symm hne)).trans q⟩, fun b hb => ?_⟩
    · have e1 : k0 + ((i + 1 : Nat) : Int) = k0 + (i : Int) + 1 := by omega
      rw [e1]; exact he'
    · have hb' : b < s.heap.objs.size := by
        have e' : b = e ∨ b = it := by simpa using hb
        rcases e' with z | z
        · rw [z]; exact hel
        · rw [z]; exact hil
      rw [upd_ne (Nat.ne_of_lt hb')]
      exact (hf b hb).1
  done := by
    intro X hP hw hK hc i pins s σ H E I hf st hg
    subst hP hw hK
    obtain ⟨⟨old, hen⟩, hi⟩ := st
    obtain ⟨xs, hq, hx⟩ := hg
    obtain ⟨its, rv, p⟩ := Src.inv I hq
    obtain ⟨f0, f1, f2, f3, f4, f5⟩ := hf it (by simp)
    have hl := rv.length
    have hh : X.A.in1.handled = none := I.ok.hd hc
    have e0 : i = its.toArray.size := by simp; omega
    subst e0
    exact wpAny_pyNext_enum_endD (S.draws hh it hit its.toArray) hen ⟨hi, p⟩ fun h' eb => ⟨rfl, I.turnedL (t' := s.toks) (ch := [e, it]) (fun b o hb q => eb b o (fun z => hb (by simp [z])) q) hf⟩
  self := fun A i s Q E st h => let ⟨⟨_, he⟩, _⟩ := st; wpAny_pyIter_enum he h
def iEnumS (K : PySem.W.Frag) (k0 : Int) (ta : TA) : TI := fun σ H R => ta σ H fun vs H1 => ∃ S xs, vs = [V.ref S.ad] ∧ S.Sq K H1 xs ∧ R (ItE K S k0) H1
theorem enum_end {X : Cx} {pins : List (Addr × Obj)} {σ : L2.St} {H1 : Hp} {s1 : Shared} {S : Src} {its : List Value} {k0 : Int} {elts : List Expr} {kk : Nat} {tpos : Pos} {R : It → Hp → Prop} (I1 : Inv X pins σ H1 s1) (p1 : S.Has s1.heap its.toArray) (q : R (ItE X.K S k0) H1) {h' : Heap}
    (he : IsEnum h' (s1.heap.objs.size + 1) s1.heap.objs.size k0 .none) (h1 : h'.get? s1.heap.objs.size = some S.ob) (hk : ∀ b o, s1.heap.get? b = some o → h'.get? b = some o) : PIE X pins σ (.Tuple elts kk tpos) R (.ref (s1.heap.objs.size + 1)) { s1 with heap := h' } := by
  have I2 : Inv X pins σ H1 { s1 with heap := h' } := I1.kept (t' := s1.toks) hk
  have lt1 := Src.lt p1
  refine ⟨s1.heap.objs.size + 1, [s1.heap.objs.size + 1, s1.heap.objs.size], _, _, H1, rfl, I2, turn_enumS (S := S) (k0 := k0) (s1.heap.objs.size + 1) s1.heap.objs.size (Nat.succ_ne_self _) (Nat.ne_of_gt (Nat.lt_succ_of_lt lt1)) (Nat.ne_of_lt lt1), ⟨⟨.none, ?_⟩, Src.It.start h1⟩, fun b hb => ?_, q⟩
  · have e0 : k0 + ((0 : Nat) : Int) = k0 := by omega
    rw [e0]; exact he
  · have e' : b = s1.heap.objs.size + 1 ∨ b = s1.heap.objs.size := by simpa using hb
    have hle : s1.heap.objs.size ≤ b := by
      rcases e' with z | z
      · rw [z]; exact Nat.le_succ _
      · rw [z]; exact Nat.le_refl _
    exact I1.fpOk hle (I1.hok.fresh hle)
section
open PySem.Sem (wp)
theorem meets_enumerate_new0B {v : Value} {o : Obj} {H : Heap → Prop} (B : Begins v o H) :
    Meets (Builtin.«enumerate.__new__» ⟨[.type "enumerate", v], []⟩) (fun _ R s => H s.heap ∧
      R (.ok (.ret (.ref (s.heap.push o).objs.size))) { s with heap := (s.heap.push o).push { cls := .type "enumerate", data := .fields #[.none, .bool false, .ref s.heap.objs.size, rawInt 0, .none, .none] } }) :=
  .of_wp fun prog w A R s h => by
    obtain ⟨hp, g, d, tk, os⟩ := s; obtain ⟨h1, h⟩ := h
    have hsub := sub_enumerate
    have q1 : ∀ {A' : Around} {E : Value → Shared → Prop} {Q : Value → Shared → Prop}, Q (.ref hp.objs.size) ⟨hp.push o, g, d, tk, os⟩ → wpAny (model prog w) A' (pyIter v) Q E ⟨hp, g, d, tk, os⟩ :=
      fun q => B.iter prog w _ _ ⟨hp, g, d, tk, os⟩ _ h1 q
    wp_walk using q1
    refine wpAny_stack_any fun st => wpAny_pure ?_
    split
    · rename_i c _ _ _ _ _
      cases (c == Value.type "enumerate")
      · wp_walk using q1
        exact ⟨_, rfl, h⟩
      · wp_walk using q1
        exact ⟨_, rfl, h⟩
    · wp_walk using q1
      exact ⟨_, rfl, h⟩
theorem enum_begins0 {prog : Program} {w : World} {A : Around} {E : Value → Shared → Prop} {s : Shared} {v : Value} {o : Obj} {H : Heap → Prop} {Q : Value → Shared → Prop} (B : Begins v o H) (h1 : H s.heap)
    (h : ∀ h', IsEnum h' (s.heap.objs.size + 1) s.heap.objs.size 0 .none → h'.get? s.heap.objs.size = some o → (∀ b o, s.heap.get? b = some o → h'.get? b = some o) → Q (.ref (s.heap.objs.size + 1)) { s with heap := h' }) :
    wpAny (model prog w) A (call (.type "enumerate") [v]) Q E s := by
  refine callType_new F.called_enumerate (by decide) (F.typeCall_enumerate_1 _) (F.newCall_enumerate_1 _) (fun obj => F.args_object_init_2 obj _) F.entry_enumerate_new
    (meets_enumerate_new0B B) ⟨h1, ?_⟩
  have hz : (s.heap.push o).objs.size = s.heap.objs.size + 1 := Heap.size_push ..
  show _ ∧ _
  rw [hz]
  have he : IsEnum ((s.heap.push o).push { cls := .type "enumerate", data := .fields #[.none, .bool false, .ref s.heap.objs.size, rawInt 0, .none, .none] }) (s.heap.objs.size + 1) s.heap.objs.size 0 .none := by
    have := Heap.get?_push_size (s.heap.push o) (o := { cls := .type "enumerate", data := .fields #[.none, .bool false, .ref s.heap.objs.size, rawInt 0, .none, .none] }) rfl
    rw [hz] at this; exact this
  exact ⟨⟨_, he, rfl⟩, h _ he (Heap.get?_push_of_some _ (Heap.get?_push_size _ B.free)) fun b o x => Heap.get?_push_of_some _ (Heap.get?_push_of_some _ x)⟩
end
theorem pi_enumS {X : Cx} {e : Expr} {ta : TA} {p pos tpos : Pos} {elts : List Expr} {kk : Nat} (hg : Gl X "enumerate") (hm : X.mg "enumerate" = none) (ha : PA X [e] ta) (hs : starEach [e] X.env = [(false, eval e X.env)] := by rfl) :
    PI X (.Tuple elts kk tpos) (.Call (.Name "enumerate" p) [e] [] pos) (iEnumS X.K 0 ta) := by
  refine ⟨fun pins s σ H R I h => ?_⟩
  refine Call_ (ld_blt I hg hm boot_enumerate (PyProof.Rows.callWith_type1 (thn (ha.run pos pins s σ H _ I h) fun us s1 ⟨vs, H1, I1, r1, q1⟩ => ?_) hs rfl))
  obtain ⟨S, xs, ex, hq, q⟩ := q1
  subst ex
  cases r1 with
  | cons r rr =>
    cases rr
    cases r
    obtain ⟨its, rv, p'⟩ := Src.inv I1 hq
    exact enum_begins0 (S.begins its.toArray) p' fun h' he h1 hk => wpAny_pyIter_enum he (enum_end I1 p' q he h1 hk)
theorem walk_enumS {K : PySem.W.Frag} {S : Src} {xs : List V} {k0 : Int} : Walk (ItE K S k0) xs.length (fun H => S.Sq K H xs) (YPair (fun i => some (.int (k0 + (i : Nat)))) (fun i => xs[i]?)) :=
  ⟨fun i _ hi q => ⟨xs, xs[i], q, by simp [hi]⟩, fun _ q => ⟨xs, q, rfl⟩, fun i H x H' _ q y => by
    obtain ⟨T, a, h1, h2, h3, h4⟩ := y
    exact ⟨T, _, a, h1, h2, h3, rfl, h4 xs q⟩⟩
section
variable {X : Cx} {G G' : Gx} {e a b c o : Expr} {ρ ρ' ρ0 ρ1 ρ2 ρ3 : DL.Env} {r s z s1 s2 : Slot} {d x y w : D} {ds es : List D} {K : PySem.W.Frag} {F F1 F' H H' : Hp} {σ : L2.St} {v u : V} {pos p p2 apos cpos tpos : Pos} {k k1 k2 k3 : Bool} {n : Str} {xs : List Expr} {m i j kk : Nat} {P : Out → Prop} {elts : List Expr}
theorem wk_enum {x1 : D} (hg : Gl X "enumerate") (hm : X.mg "enumerate" = none) (ha : ED X G a ρ ρ1 (.v k x1)) (h1 : SeqS (.v k x1) ds) {dx : D} (hs : starEach [a] X.env = [(false, eval a X.env)] := by rfl) :
    WD X G (.Tuple elts kk tpos) (.Call (.Name "enumerate" p) [a] [] pos) ρ ρ1 ds.length (fun t => .two true (.int (t : Int)) k (ds.getD t dx)) :=
  pi_mono (pi_enumS hg hm (ea_one ha hs) hs) fun σ H R ⟨F, E, q⟩ => ⟨F, E, fun F1 H1 v e1 E1 r1 => by
    obtain ⟨k1', S1, vs, q1, rfl, hr1, hq1⟩ := seq_src h1 E1 r1
    have z1 : k1' = k := by injection q1 with q1 _; exact q1.symm
    subst z1
    refine ⟨S1, vs, rfl, hq1 _ E1.sub E1.keep, q F1 H1 _ e1 E1 ⟨_, _, by rw [← hr1.length]; exact walk_enumS (xs := vs), fun H e2 e3 => hq1 H e2 e3, fun t H x H' ht e2 e3 y => ?_⟩⟩
    obtain ⟨T, a, b, g1, g2, g3, g4, g5⟩ := y
    obtain ⟨d1, m1, m2⟩ := hr1.get g5
    refine ⟨T, a, b, g1, g2, g3, ?_, ?_⟩
    · injection g4 with g4
      rw [← g4, rep_int]
      show V.int ((0 : Int) + (t : Int)) = _
      rw [Int.zero_add]
    · have : ds.getD t dx = d1 := by rw [List.getD_eq_getElem?_getD, m1]; rfl
      rw [this]; exact m2⟩
end
end DL
/-! DL13: sorted, count, sum of a tuple. -/
namespace DL
open PySem L2 PyProof.Rows PySem.W
mutual
def pyD : D → PyData
  | .bl b => .bool b
  | .int i => .int i
  | .str s => .str s
  | .lst ds => .list (pyDs ds)
  | .tup ds => .tuple (pyDs ds)
  | _ => .none
def pyDs : List D → List PyData
  | [] => []
  | d :: ds => pyD d :: pyDs ds
end
mutual
def dataD : D → Bool
  | .non => true | .bl _ => true | .int _ => true | .str _ => true
  | .lst ds => dataDs ds
  | .tup ds => dataDs ds
  | _ => false
def dataDs : List D → Bool
  | [] => true
  | d :: ds => dataD d && dataDs ds
end
theorem pyDs_map : ∀ ds : List D, pyDs ds = ds.map pyD
  | [] => by simp [pyDs]
  | d :: ds => by rw [pyDs, pyDs_map ds]; rfl
theorem dataDs_all : ∀ ds : List D, dataDs ds = ds.all dataD
  | [] => by simp [dataDs]
  | d :: ds => by rw [dataDs, dataDs_all ds]; rfl
mutual
theorem dp_of {K : PySem.W.Frag} {F H : Hp} (e : Ext F H) : ∀ (d : D) (v : V), dataD d = true → Rep K F d v → Dp K H v (pyD d)
  | .non, v, _, r => by rw [rep_non] at r; subst r; exact .non
  | .bl b, v, _, r => by rw [rep_bl] at r; subst r; exact .bl b
  | .int i, v, _, r => by rw [rep_int] at r; subst r; exact .int i
  | .str s, v, _, r => by rw [rep_str] at r; subst r; exact .str s
  | .ty _, v, h, _ => by simp [dataD] at h
  | .dk _ _, v, h, _ => by simp [dataD] at h
  | .ins _ _ _, v, h, _ => by simp [dataD] at h
  | .lst ds, v, h, r => by
    obtain ⟨a, vs, rfl, h2, h3⟩ := Rep.lstH e r
    simp only [dataD] at h
    simp only [pyD]
    exact .lst (sql_rd h2) (dps_of e ds vs h h3)
  | .tup ds, v, h, r => by
    obtain ⟨a, vs, rfl, h2, h3⟩ := Rep.tupH e r
    simp only [dataD] at h
    simp only [pyD]
    exact .tup h2 (dps_of e ds vs h h3)
theorem dps_of {K : PySem.W.Frag} {F H : Hp} (e : Ext F H) : ∀ (ds : List D) (vs : List V), dataDs ds = true → Reps K F ds vs → DpAll K H vs (pyDs ds)
  | [], vs, _, r => by rw [r.nil_of]; exact .nil
  | d :: ds, vs, h, r => by
    obtain ⟨v, ws, rfl, h2, h3⟩ := r.cons_of
    simp only [dataDs, Bool.and_eq_true] at h
    simp only [pyDs]
    exact .cons (dp_of e d v h.1 h2) (dps_of e ds ws h.2 h3)
end
def rSortedE (K : PySem.W.Frag) : List V → Hp → VK → Prop := fun vs H Q => ∃ (a : Addr) (bs : List (V × D)), vs = [V.ref a] ∧ SqL K H a (bs.map (·.1)) ∧ (∀ b ∈ bs, Dp K H b.1 (pyD b.2)) ∧ AllAlike (bs.map fun b => pyD b.2) ∧ Sortable (bs.map fun b => pyD b.2) ∧ (∀ b ∈ bs, (pyD b.2).depth ≤ 60) ∧
  ∀ p, H p = none → Q (.ref p) (upd H p (.lst ((bs.mergeSort (dataLe false fun b => pyD b.2)).map (·.1))))
theorem each_fst {us : List Value} {bs : List (V × D)} (h : Vals (bs.map (·.1)) us) : EachIs (fun u (b : V × D) => RelV b.1 u) us bs := by
  induction bs generalizing us with
  | nil => cases h; exact .nil
  | cons b bs ih =>
    cases h with
    | cons r t => exact .cons r (ih t)
theorem vals_each {us : List Value} {bs : List (V × D)} (h : EachIs (fun u (b : V × D) => RelV b.1 u) us bs) : Vals (bs.map (·.1)) us := by
  induction h with
  | nil => exact .nil
  | cons r t ih => exact .cons r ih
section
variable {X : Cx}
theorem cr_sortedE (hu : X.A.units + 64 < cLine) : CallR X (.builtin "sorted") (rSortedE X.K) := by
  intro pins s σ H vs us Q I r h
  obtain ⟨a, bs, rfl, hs, hd, hal, hk, hdep, q⟩ := h
  obtain ⟨its, rv, hl, hz⟩ := I.list hs
  rw [Vals.ref1 r]
  have e := each_fst rv
  have er : EachIs (fun v (b : V × D) => ∃ as, Reads s.heap v (pyD b.2) as) its bs := by
    have : ∀ {us : List Value} {bs : List (V × D)}, EachIs (fun u (b : V × D) => RelV b.1 u) us bs → (∀ b ∈ bs, Dp X.K H b.1 (pyD b.2)) → EachIs (fun v (b : V × D) => ∃ as, Reads s.heap v (pyD b.2) as) us bs := by
      intro us bs h
      induction h with
      | nil => intro _; exact .nil
      | cons r t ih => intro hd; exact .cons (Dp.reads I _ _ _ (hd _ (List.mem_cons_self ..)) r) (ih fun b hb => hd b (List.mem_cons_of_mem _ hb))
    exact this e hd
  rw [List.length_map] at hz
  refine sorted_data hl.isList e er hal hk hz (fun b hb => ?_) fun out ho eo => ?_
  · have := hdep b hb
    omega
  · obtain ⟨ep, he'⟩ := PyProof.Rows.sortedAll_at s.heap its out.toArray
    have hv := vals_each eo
    have hlen : ((bs.mergeSort (dataLe false fun b => pyD b.2)).map (·.1)).length ≤ sizeLine := by
      rw [List.length_map, List.length_mergeSort]; exact hz
    exact ⟨.ref _, upd H (s.heap.objs.size + 1) (.lst _), I.laid (t' := s.toks) (fun _ _ => PyProof.Rows.sortedAll_old) (Nat.le_succ _) ⟨hlen, out, ep, hv, he'⟩, rfl, q _ (I.hok.fresh (Nat.le_succ _))⟩
end
def leD : D → D → Bool := dataLe false pyD
theorem reps_zip {K : PySem.W.Frag} {F : Hp} : ∀ {ds : List D} {vs : List V}, Reps K F ds vs → (vs.zip ds).map (·.1) = vs ∧ (vs.zip ds).map (·.2) = ds ∧ ∀ b ∈ vs.zip ds, Rep K F b.2 b.1
  | [], vs, r => by rw [r.nil_of]; exact ⟨rfl, rfl, fun b hb => by cases hb⟩
  | d :: ds, vs, r => by
    obtain ⟨v, ws, rfl, h2, h3⟩ := r.cons_of
    obtain ⟨i1, i2, i3⟩ := reps_zip h3
    refine ⟨by simp only [List.zip_cons_cons, List.map_cons, i1], by simp only [List.zip_cons_cons, List.map_cons, i2], fun b hb => ?_⟩
    rcases List.mem_cons.mp hb with rfl | hb
    · exact h2
    · exact i3 b hb
theorem reps_unzip {K : PySem.W.Frag} {F : Hp} : ∀ {bs : List (V × D)}, (∀ b ∈ bs, Rep K F b.2 b.1) → Reps K F (bs.map (·.2)) (bs.map (·.1))
  | [], _ => .nil
  | b :: bs, h => .cons (h b (List.mem_cons_self ..)) (reps_unzip fun c hc => h c (List.mem_cons_of_mem _ hc))
section
variable {X : Cx} {G G' : Gx} {e a b c o : Expr} {ρ ρ' ρ0 ρ1 ρ2 ρ3 : DL.Env} {r s z s1 s2 : Slot} {d x y w : D} {ds es : List D} {K : PySem.W.Frag} {F F1 F' H H' : Hp} {σ : L2.St} {v u : V} {pos p p2 apos cpos tpos : Pos} {k k1 k2 k3 : Bool} {n : Str} {xs : List Expr} {m i j kk : Nat} {P : Out → Prop}
/-- sorted(x), data -/
theorem ed_sorted (hu : X.A.units + 64 < cLine) (hg : Gl X "sorted") (hm : X.mg "sorted" = none) (ha : ED X G a ρ ρ1 s) (hs : LstS s ds) (hk : ∀ k d, s = .v k d → k = true ∨ ds.all isSc = true) (hd : ds.all dataD = true) (hal : AllAlike (ds.map pyD)) (ho : Sortable (ds.map pyD)) (hdep : ∀ d ∈ ds, (pyD d).depth ≤ 60)
    (he : starEach [a] X.env = (false, eval a X.env) :: starEach [] X.env := by rfl) (hpl : (backTo pos (starEach [] X.env)).any (·.1) = false := by rfl) : ED X G (.Call (.Name "sorted" p) [a] [] pos) ρ ρ1 (.own (ds.mergeSort leD)) :=
  ed_call1B (cr_sortedE hu) hg hm boot_sorted ha (fun σ F H v Q E r1 q => by
    obtain ⟨k, a, vs, rfl, h2, h3⟩ := lst_rd hs E r1
    have h5 : Reps X.K F ds vs := by
      cases hs with
      | @v k' _ =>
        obtain ⟨a', vs', z1, z2, z3⟩ := Rep.lstH E.atH r1
        cases z1
        cases rd_inj h2 z2
        exact reps_val z3 (hk k' _ rfl)
      | own =>
        obtain ⟨a', vs', z1, z2, z3, z4, z5, _⟩ := r1
        cases z1
        cases rd_inj h2 (.inl z2)
        exact z5
    obtain ⟨i1, i2, i3⟩ := reps_zip h5
    have em : (vs.zip ds).map (fun b => pyD b.2) = ds.map pyD := by
      rw [← i2, List.map_map, i2]; rfl
    refine ⟨a, vs.zip ds, rfl, by rw [i1]; exact sql_rd h2, fun b hb => dp_of E.sub _ _ ?_ (i3 b hb), by rw [em]; exact hal, by rw [em]; exact ho, fun b hb => hdep _ ?_, fun p hp => ?_⟩
    · have : b.2 ∈ ds := by rw [← i2]; exact List.mem_map_of_mem hb
      exact List.all_eq_true.mp hd _ this
    · rw [← i2]; exact List.mem_map_of_mem hb
    · have es : ((vs.zip ds).mergeSort (dataLe false fun b => pyD b.2)).map (·.2) = ds.mergeSort leD := by
        have := sort_maps (r := dataLe false fun b : V × D => pyD b.2) (s := leD) (fun b : V × D => b.2) (l := vs.zip ds) fun a _ b _ => rfl
        rw [this, i2]
      refine q F _ _ (Ext.refl _) (E.lay0 hp) (E.newL hp ?_)
      rw [← es]
      exact reps_unzip fun b hb => i3 b ((List.mergeSort_perm _ _).mem_iff.mp hb)) (by decide) (by decide) he hpl
end
end DL
/-! DL14: a set of the items of a list or a tuple (ints and texts in any mix), its length; counting flat items; the sum of a tuple. -/
namespace DL
open PySem L2 PyProof.Rows
/-! ### the items of ks, each once, by their first place -/
instance : LawfulBEq Key where
  eq_of_beq {a b} h := by
    match a, b, h with
    | .inl a, .inl b, h => have : (a == b) = true := h; rw [eq_of_beq this]
    | .inr a, .inr b, h => have : (a == b) = true := h; rw [eq_of_beq this]
    | .inl a, .inr b, h => exact nomatch (show false = true from h)
    | .inr a, .inl b, h => exact nomatch (show false = true from h)
  rfl {a} := by
    match a with
    | .inl a => exact (beq_self_eq_true a : (a == a) = true)
    | .inr a => exact (beq_self_eq_true a : (a == a) = true)
theorem snoc_ind {α : Type} {p : List α → Prop} (h0 : p []) (h1 : ∀ l a, p l → p (l ++ [a])) (l : List α) : p l := by
  have : ∀ m : List α, p m.reverse := fun m => by
    induction m with
    | nil => exact h0
    | cons a m ih => rw [List.reverse_cons]; exact h1 _ _ ih
  have h := this l.reverse
  rwa [List.reverse_reverse] at h
def stepK (σ : List Key) (k : Key) : List Key := if k ∈ σ then σ else σ ++ [k]
def metK (ks : List Key) : List Key := ks.foldl stepK []
theorem metK_snoc (ks : List Key) (k : Key) : metK (ks ++ [k]) = stepK (metK ks) k := by
  unfold metK; rw [List.foldl_append] <;> rfl
theorem stepK_mem (σ : List Key) (v k : Key) : decide (k ∈ stepK σ v) = (decide (k ∈ σ) || decide (k = v)) := by
  unfold stepK
  by_cases h : v ∈ σ
  · rw [if_pos h]
    by_cases e : k = v
    · subst e; simp [h]
    · simp [e]
  · rw [if_neg h]
    simp [List.mem_append]
theorem stepK_len (σ : List Key) (v : Key) : (stepK σ v).length = if decide (v ∈ σ) = true then σ.length else σ.length + 1 := by
  unfold stepK
  by_cases h : v ∈ σ
  · simp [h]
  · simp [h]
theorem metK_le (ks : List Key) : (metK ks).length ≤ ks.length := by
  induction ks using snoc_ind with
  | h0 => exact Nat.le_refl _
  | h1 ks k ih =>
    rw [metK_snoc, stepK_len, List.length_append]
    split <;> simp only [List.length_cons, List.length_nil] <;> omega
theorem metK_mem (ks : List Key) (k : Key) : k ∈ metK ks ↔ k ∈ ks := by
  induction ks using snoc_ind with
  | h0 => exact Iff.rfl
  | h1 ks v ih =>
    rw [metK_snoc, List.mem_append, List.mem_singleton, ← ih]
    have := stepK_mem (metK ks) v k
    by_cases h1 : k ∈ stepK (metK ks) v <;> by_cases h2 : k ∈ metK ks <;> by_cases h3 : k = v <;> simp_all
theorem metK_nodup (ks : List Key) : (metK ks).length = ks.length ↔ ks.Nodup := by
  induction ks using snoc_ind with
  | h0 => simp [metK]
  | h1 ks v ih =>
    rw [metK_snoc, stepK_len, List.length_append, List.nodup_append]
    have hl := metK_le ks
    by_cases h : v ∈ metK ks
    · have h' := (metK_mem ks v).mp h
      simp only [h, decide_true, if_true, List.length_cons, List.length_nil]
      constructor
      · intro e; omega
      · rintro ⟨_, _, h3⟩
        exact absurd rfl (h3 v h' v (List.mem_singleton.mpr rfl))
    · have h' : v ∉ ks := fun q => h ((metK_mem ks v).mpr q)
      simp only [h, decide_false, Bool.false_eq_true, if_false, List.length_cons, List.length_nil]
      constructor
      · intro e
        refine ⟨ih.mp (by omega), by simp, fun a ha b hb q => h' ?_⟩
        rw [List.mem_singleton] at hb
        rw [← hb, ← q]; exact ha
      · rintro ⟨h1, _, _⟩
        rw [ih.mpr h1]
/-! ### set(xs) -/
section
variable {P : Program} {w : World} {A : Around} {R : Result → Shared → Prop} {I : Addr} {fp wr : List Addr} {g : Array GenState → Array GenState → Prop} {n : Nat} {Pv : Nat → Value → Prop} {St : Nat → Shared → Prop} {E : Value → Shared → Prop} {s : Shared}
theorem set_loopK (W : WalksS P w A.in1 I fp wr g n Pv St) (S : Addr) (hSf : S ∉ fp) (ks : List Key) (hn : ks.length = n) (hb : n + 1 < scanBound) (hval : ∀ i v, Pv i v → ∃ k, ks[i]? = some k ∧ (mixKind P w).is k v = true ∧ v.scannable = true) :
    ∀ (j i : Nat) (s : Shared), n - i = j → i ≤ n → St i s → s.heap.SetOf (mixKind P w) S (fun k => decide (k ∈ metK (ks.take i))) (metK (ks.take i)).length →
      (∀ s', Moved (S :: wr) g s s' → s'.heap.SetOf (mixKind P w) S (fun k => decide (k ∈ metK ks)) (metK ks).length → R (.ok (.ret .none)) s') →
      codeAny (model P w) A (.builtin "set.update.loop" ⟨[.ref S, .ref I], []⟩) R s := by
  have hSw : S ∉ wr := fun h => hSf (W.sub _ h)
  have hsub : ∀ b ∈ wr, b ∈ S :: wr := fun b hb => List.mem_cons_of_mem _ hb
  have keep : ∀ {s s' : Shared} {f : Key → Bool} {m : Nat}, Moved wr g s s' → s.heap.SetOf (mixKind P w) S f m → s'.heap.SetOf (mixKind P w) S f m := fun hm h =>
    let ⟨o, es, ep, t, ho, rest⟩ := h
    ⟨o, es, ep, t, hm.heap S _ hSw ho, rest⟩
  intro j
  induction j with
  | zero =>
    intro i s hj hi hst hS hR
    obtain rfl : i = n := by omega
    refine codeAny_builtin PyProof.Rows.F.entry_set_update_loop ?_
    rw [Around.under_plainId PyProof.Rows.F.plain_set_update_loop _]
    show wpAny _ A.in1 (pyNext (.ref I) >>= _) _ _ s
    refine wpAny_bind (W.done s _ _ hst fun s' hm => ?_)
    show wpAny _ A.in1 (ret Value.none) _ _ s'
    rw [List.take_of_length_le (by omega)] at hS
    exact wpAny_pure (hR s' (hm.mono hsub) (keep hm hS))
  | succ j ih =>
    intro i s hj hi hst hS hR
    have hlt : i < n := by omega
    refine codeAny_builtin PyProof.Rows.F.entry_set_update_loop ?_
    rw [Around.under_plainId PyProof.Rows.F.plain_set_update_loop _]
    show wpAny _ A.in1 (pyNext (.ref I) >>= _) _ _ s
    refine wpAny_bind (W.item i s _ _ hlt hst fun v s' hP hst' hm => ?_)
    obtain ⟨k, hk, his, hsc⟩ := hval i v hP
    have hS' := keep hm hS
    show wpAny _ A.in1 (holding [v] (setAdd S v) >>= _) _ _ s'
    refine wpAny_bind (wpAny_holding ?_)
    unfold setAdd
    refine wpAny_holding ?_
    refine wpAny_bind ((mixKind P w).pyHash his ?_)
    have hle := metK_le (ks.take i)
    rw [List.length_take] at hle
    refine wpAny_setAddHashed_of (knd := mixKind P w) (s := { s' with toks := s'.toks + 1 }) his hsc hS' (by omega) fun h' hsb hS2 => ?_
    have et : ks.take (i + 1) = ks.take i ++ [k] := by rw [List.take_add_one, hk] <;> rfl
    have hSi : h'.SetOf (mixKind P w) S (fun k' => decide (k' ∈ metK (ks.take (i + 1)))) (metK (ks.take (i + 1))).length :=
      PyProof.Rows.SetOf_congr hS2 (fun k' => by rw [et, metK_snoc, stepK_mem]) (by rw [et, metK_snoc, stepK_len])
    refine wpAny_pure ⟨plainId_quiet PyProof.Rows.F.plain_set_update_loop _, ih (i + 1) _ (by omega) hlt (W.frame _ s' _ _ hst' (Nat.le_succ _) fun b hb o e => ?_) hSi fun s'' hm'' hS'' => ?_⟩
    · rw [hsb.2 b (fun h : b = S => hSf (by rw [← h]; exact hb))]; exact e
    · refine hR s'' (Moved.trans W.gtrans ((hm.mono hsub).then_heap (Nat.le_succ _) fun b o hb e => ?_) hm'') hS''
      rw [hsb.2 b (fun h : b = S => hb (by rw [h]; exact List.mem_cons_self))]; exact e
theorem Src.walks (hh : A.handled = none) (S : Src) (it : Addr) (hne : S.ad ≠ it) (items : Array Value) : Walks P w A it [it, S.ad] [it] items.size (fun i v => items[i]? = some v) (fun i h => S.It h it i ∧ S.Has h items) := by
  cases S with
  | l a => exact Walks.list hh it a hne items
  | t a => exact Walks.tuple hh it a hne items
theorem Src.startIt (S : Src) (h : Heap) : S.It (h.push S.ob) h.objs.size 0 := by
  cases S with
  | l a => exact ⟨_, Heap.get?_push_size _ rfl, rfl, rfl⟩
  | t a => exact ⟨_, Heap.get?_push_size _ rfl, rfl, rfl⟩
theorem Src.shape {S : Src} {h : Heap} {items : Array Value} (q : S.Has h items) : ∃ T dd n sl, h.get? S.ad = some { cls := .type T, dict := dd, data := .seq items n, slots := sl } ∧ (T = "list" ∨ T = "tuple") := by
  cases S with
  | l a => obtain ⟨⟨_, dd, _, sl⟩, ho, rfl, n, rfl⟩ := q; exact ⟨"list", dd, n, sl, ho, .inl rfl⟩
  | t a => obtain ⟨⟨_, dd, _, sl⟩, ho, rfl, n, rfl⟩ := q; exact ⟨"tuple", dd, n, sl, ho, .inr rfl⟩
theorem Src.kind {S : Src} {h : Heap} {items : Array Value} (q : S.Has h items) : ∃ o, h.get? S.ad = some o ∧ (o.cls = .type "list" ∨ o.cls = .type "tuple") := by
  cases S with
  | l a => obtain ⟨o, ho, hc, _⟩ := q; exact ⟨o, ho, .inl hc⟩
  | t a => obtain ⟨o, ho, hc, _⟩ := q; exact ⟨o, ho, .inr hc⟩
open PySem.F in
theorem call_set_src {S : Src} {items : Array Value} {ks : List Key} {Q : Value → Shared → Prop} (hh : A.handled = none) (hl : S.Has s.heap items) (hi : Vals (ks.map kV) items.toList) (hb : items.size + 1 < scanBound)
    (h : ∀ (h' : Heap) (tk : Nat), h'.SetOf (mixKind P w) s.heap.objs.size (fun k => decide (k ∈ metK ks)) (metK ks).length →
      (∀ b o, b < s.heap.objs.size → s.heap.get? b = some o → h'.get? b = some o) → Q (.ref s.heap.objs.size) { s with heap := h', toks := tk }) :
    wpAny (model P w) A (call (.type "set") [.ref S.ad]) Q E s := by
  obtain ⟨c, tl, hmro⟩ := called_set.mro
  have hmade := called_set.made
  have hsub := called_set.sub
  refine wpAny_call (codeAny_of_tree ?_)
  show wpAny _ _ (callAny (.type "set") _) _ _ _
  refine wpAny_pure ⟨Code.quiet_builtin _ (by decide +kernel), codeAny_builtin PySem.F.entry_type_call ?_⟩
  rw [Around.under_plain (weight_type_call_type "set" [.ref S.ad] []) rfl]
  have h1 := called_set.notType
  have h2 := called_set.canCreate
  have hct := typeCall_set_1 (.ref S.ad)
  repeat (any_goals (first | assumption | wp_step))
  let fresh : Bool → Obj := fun led => { cls := .type "set", dict := none, data := .set #[] 0 (.fresh 0 0 led) }
  refine codeAny_mono (code_set_new_1 (.ref S.ad) (E := E) (Q₁ := fun obj s₁ => ∃ led : Bool, obj = .ref s.heap.objs.size ∧ s₁ = { s with heap := s.heap.push (fresh led) }) fun led => ⟨led, rfl, rfl⟩) fun r s₁ hr => ?_
  match r, hr with
  | .error e, hr => exact hr
  | .ok (.ret obj), hr =>
    obtain ⟨led, rfl, rfl⟩ := hr
    have hS : (s.heap.push (fresh led)).get? s.heap.objs.size = some (fresh led) := Heap.get?_push_size _ rfl
    have hT : Shared.TypeIs { s with heap := s.heap.push (fresh led) } (.ref s.heap.objs.size) "set" := ⟨_, hS, rfl⟩
    have hli := called_set.init.lookup
    have hbi := called_set.init.bind (.ref s.heap.objs.size)
    repeat (any_goals (first | assumption | wp_step))
    refine codeAny_mono (codeAny_call_builtin (R := wants (fun r s₂ => r = .none ∧ ∃ h' tk, s₂ = { s with heap := h', toks := tk } ∧
        h'.SetOf (mixKind P w) s.heap.objs.size (fun k => decide (k ∈ metK ks)) (metK ks).length ∧ (∀ b o, b < s.heap.objs.size → s.heap.get? b = some o → h'.get? b = some o)) E) called_set.init.plain entry_set_init (check_set_init_1 hT ?_)) fun r₂ s₂ hr₂ => ?_
    · have hhas : S.Has (s.heap.push (fresh led)) items := (S.begins items).keeps _ _ hl fun b o e => Heap.get?_push_of_some _ e
      have hlt : S.ad < s.heap.objs.size := Src.lt hl
      have hh3 : A.in1.in1.in1.handled = none := by simp [hh]
      have hne : S.ad ≠ (s.heap.push (fresh led)).objs.size := by rw [Heap.size_push]; exact Nat.ne_of_lt (Nat.lt_succ_of_lt hlt)
      have hSf : s.heap.objs.size ∉ [(s.heap.push (fresh led)).objs.size, S.ad] := by
        rw [Heap.size_push]; simp only [List.mem_cons, List.mem_singleton, List.not_mem_nil, or_false, not_or]
        exact ⟨Nat.ne_of_lt (Nat.lt_succ_self _), Nat.ne_of_gt hlt⟩
      have hsz : ks.length = items.size := by have := hi.length; simpa using this
      have fin : codeAny (model P w) A.in1.in1 (.builtin "set.update.loop" ⟨[.ref s.heap.objs.size, .ref (s.heap.push (fresh led)).objs.size], []⟩) (fun r s₂ => r = .ok (.ret .none) ∧ ∃ h' tk, s₂ = { s with heap := h', toks := tk } ∧
        h'.SetOf (mixKind P w) s.heap.objs.size (fun k => decide (k ∈ metK ks)) (metK ks).length ∧ (∀ b o, b < s.heap.objs.size → s.heap.get? b = some o → h'.get? b = some o)) { s with heap := (s.heap.push (fresh led)).push S.ob } := by
        refine set_loopK ((S.walks hh3 _ hne items).toS) s.heap.objs.size hSf ks hsz hb (fun i v hv => ?_) (items.size - 0) 0 _ (by omega) (Nat.zero_le _) ⟨S.startIt _, (S.begins items).keeps _ _ hhas fun b o e => Heap.get?_push_of_some _ e⟩ ?_ fun s' hm hS' => ?_
        · have hlt : i < ks.length := by rw [hsz]; exact (Array.getElem?_eq_some_iff.mp hv).1
          obtain ⟨u, hu, ru⟩ := hi.get (i := i) (x := kV ks[i]) (by simp [hlt])
          rw [Array.getElem?_toList, hv] at hu
          cases hu
          exact ⟨ks[i], List.getElem?_eq_getElem hlt, kV_is ru, key_scan ru⟩
        · have hget : ((s.heap.push (fresh led)).push S.ob).get? s.heap.objs.size = some (fresh led) := Heap.get?_push_of_some _ hS
          exact PyProof.Rows.SetOf_congr ((PyProof.Rows.setObjOf_fresh (knd := mixKind P w) led).setOf hget (by unfold scanBound; omega)) (fun _ => rfl) rfl
        · obtain ⟨h', g', d', tk', os'⟩ := s'
          have eg : g' = s.gens := hm.gens
          have ed : d' = s.drawn := hm.drawn
          have eo : os' = s.os := hm.os
          subst eg; subst ed; subst eo
          refine ⟨rfl, h', tk', rfl, hS', fun b o hb e => ?_⟩
          have hb1 : b ≠ s.heap.objs.size := Nat.ne_of_lt hb
          have hb2 : b ≠ (s.heap.push (fresh led)).objs.size := by
            rw [Heap.size_push]; exact Nat.ne_of_lt (Nat.lt_succ_of_lt hb)
          exact hm.heap b o (by simp only [List.mem_cons, List.mem_singleton, List.not_mem_nil, or_false, not_or]; exact ⟨hb1, hb2⟩) (Heap.get?_push_of_some _ (Heap.get?_push_of_some _ e))
      obtain ⟨T, dd, n0, sl, hob, hTT⟩ := Src.shape hhas
      rcases hTT with rfl | rfl
      · have hsls := PySem.F.sub_list_set
        have hslf := PySem.F.sub_list_frozenset
        have hneT : (Value.type "list" == Value.type "dict") = false := by decide
        unfold Builtin.«set.__init__» noKeywords Builtin.Frozenset.updateFrom
        generalize hPI : pyIter = PI
        wp_walk
        subst hPI
        refine (S.begins items).iter P w _ _ _ _ hhas ?_
        refine wpAny_bind (wpAny_runValue ?_)
        refine codeAny_mono fin fun r s₂ hr => ?_
        obtain ⟨rfl, h', tk, rfl, hx, hk⟩ := hr
        show wpAny _ _ _ _ _ _
        refine wpAny_pure ?_
        show wpAny _ _ (ret Value.none) _ _ _
        exact wpAny_pure ⟨rfl, h', tk, rfl, hx, hk⟩
      · have hsls := PySem.F.sub_tuple_set
        have hslf := PySem.F.sub_tuple_frozenset
        have hneT : (Value.type "tuple" == Value.type "dict") = false := by decide
        unfold Builtin.«set.__init__» noKeywords Builtin.Frozenset.updateFrom
        generalize hPI : pyIter = PI
        wp_walk
        subst hPI
        refine (S.begins items).iter P w _ _ _ _ hhas ?_
        refine wpAny_bind (wpAny_runValue ?_)
        refine codeAny_mono fin fun r s₂ hr => ?_
        obtain ⟨rfl, h', tk, rfl, hx, hk⟩ := hr
        show wpAny _ _ _ _ _ _
        refine wpAny_pure ?_
        show wpAny _ _ (ret Value.none) _ _ _
        exact wpAny_pure ⟨rfl, h', tk, rfl, hx, hk⟩
    · match r₂, hr₂ with
      | .error e, hr₂ => exact hr₂
      | .ok (.ret r), hr₂ =>
        obtain ⟨rfl, h', tk, rfl, hS', hk'⟩ := hr₂
        repeat (any_goals (first | assumption | wp_step))
        exact h _ _ hS' hk'
end
end DL
/-! DL15: len(set(x)), sum(x), x.count(y) for lists and tuples. -/
namespace DL
open PySem L2 PyProof.Rows
def keyD : Key → D
  | .inl i => .int i
  | .inr z => .str z
section
variable {X : Cx} {G G' : Gx} {e a b c o : Expr} {ρ ρ' ρ0 ρ1 ρ2 ρ3 : DL.Env} {r s z s1 s2 : Slot} {d x y w : D} {ds es : List D} {K : PySem.W.Frag} {F F1 F' H H' : Hp} {σ : L2.St} {v u : V} {pos p p2 q2 apos cpos tpos : Pos} {k k1 k2 k3 : Bool} {n : Str} {xs : List Expr} {m i j kk : Nat} {P : Out → Prop} {elts : List Expr}
theorem Reps.keys : ∀ {ks : List Key} {vs : List V}, Reps K F (ks.map keyD) vs → vs = ks.map kV
  | [], vs, h => h.nil_of
  | k :: ks, vs, h => by
    obtain ⟨w, r, rfl, h2, h3⟩ := h.cons_of
    rw [h3.keys]
    cases k with
    | inl i => have e : w = V.int i := rep_int.mp h2; rw [e]; rfl
    | inr z => have e : w = V.str z := rep_str.mp h2; rw [e]; rfl
theorem ints_int : ∀ {us : List Value} {ns : List Int}, IntsAre us ns → ∀ (i : Nat) (v : Value), us[i]? = some v → ∃ t, v = .int (ns.getD i 0) t
  | us, ns, h, i, v, e => PyProof.Rows.IntsAre.int_at h i v e
theorem preSum_take (ns : List Int) : ∀ i, preSum (fun i => ns.getD i 0) i = (ns.take i).sum
  | 0 => by simp [preSum]
  | i + 1 => by
    rw [preSum, preSum_take ns i, List.take_add_one, List.sum_append, List.getD_eq_getElem?_getD]
    cases ns[i]? <;> simp
theorem sum_src {Pg : Program} {w : World} {A : Around} {E : Value → Shared → Prop} {s : Shared} {S : Src} {items : Array Value} {ns : List Int} {Q : Value → Shared → Prop} (hh : A.handled = none) (hl : S.Has s.heap items) (hi : IntsAre items.toList ns)
    (h : ∀ h' tk t', (∀ b o, s.heap.get? b = some o → h'.get? b = some o) → Q (.int ns.sum t') { s with heap := h', toks := tk }) : wpAny (model Pg w) A (call (.builtin "sum") [.ref S.ad]) Q E s := by
  refine call_sum_walkG ((S.begins items).iter Pg w _ E s _ hl ?_)
  have hlt : S.ad < s.heap.objs.size := Src.lt hl
  have hsz : ns.length = items.size := by rw [← IntsAre.length hi, Array.length_toList]
  have hhas : S.Has (s.heap.push S.ob) items := (S.begins items).keeps _ _ hl fun b o e => Heap.get?_push_of_some _ e
  refine ⟨_, _, _, _, _, _, fun i => ns.getD i 0, rfl, S.walks (A := A.in1) hh _ (Nat.ne_of_lt hlt) items, ⟨S.startIt _, hhas⟩, fun b hb => ?_, fun i v hv => ints_int hi i v (by rw [Array.getElem?_toList]; exact hv), fun h' tk t' hk => ?_⟩
  · show b < (s.heap.push S.ob).objs.size
    rw [Heap.size_push]
    rcases List.mem_cons.mp hb with e | hb
    · rw [e]; exact Nat.lt_succ_self _
    · rw [List.mem_singleton.mp hb]; exact Nat.lt_succ_of_lt hlt
  · have := h h' tk t' fun b o e => hk b o (fun hm => by rw [List.mem_singleton.mp hm] at e; exact Nat.lt_irrefl _ (Heap.lt_size e)) (Heap.get?_push_of_some _ e)
    rw [preSum_take, ← hsz, List.take_of_length_le (Nat.le_refl _)]
    exact this
def rSumE (K : PySem.W.Frag) : List V → Hp → VK → Prop := fun vs H Q => ∃ (S : Src) (ns : List Int), vs = [V.ref S.ad] ∧ S.Sq K H (ns.map V.int) ∧ Q (.int ns.sum) H
theorem cr_sumE (hc : X.calm = true) : CallR X (.builtin "sum") (rSumE X.K) := by
  intro pins s σ H vs us Q I r h
  obtain ⟨S, ns, rfl, hs, q⟩ := h
  obtain ⟨its, rv, hl⟩ := Src.inv I hs
  rw [Vals.ref1 r]
  exact sum_src (I.ok.hd hc) hl rv.ints fun h' tk t' hk => ⟨.int _, H, I.kept hk, ⟨_, rfl⟩, q⟩
/-- sum of a list or a tuple of ints -/
theorem ed_sumE {ns : List Int} (hc : X.calm = true) (hg : Gl X "sum") (hm : X.mg "sum" = none) (ha : ED X G a ρ ρ1 s) (hs : SeqS s ds) (hd : ds = ns.map D.int) (he : starEach [a] X.env = (false, eval a X.env) :: starEach [] X.env := by rfl) (hpl : (backTo pos (starEach [] X.env)).any (·.1) = false := by rfl) : ED X G (.Call (.Name "sum" p) [a] [] pos) ρ ρ1 (.val (.int ns.sum)) :=
  ed_call1B (cr_sumE hc) hg hm boot_sum ha (fun σ F H v Q E r1 q => by
    obtain ⟨k, S, vs, _, rfl, h3, h4⟩ := seq_src hs E r1
    rw [hd] at h3
    have h5 := h4 H E.sub E.keep
    rw [h3.ints] at h5
    exact ⟨S, ns, rfl, h5, q F H _ (Ext.refl _) E sr_int⟩) (by decide) (by decide) he hpl
/-! ### len(set(x)) -/
def tLenSetK (K : PySem.W.Frag) (ta : TE) : TE := fun σ H Q => ta σ H fun x H1 => ∃ (S : Src) (ks : List Key), x = .ref S.ad ∧ S.Sq K H1 (ks.map kV) ∧ ks.length + 1 < scanBound ∧ Q (.int (metK ks).length) H1
theorem pe_lenSetK {ta : TE} (hc : X.calm = true) (hg : Gl X "len") (hm : X.mg "len" = none) (hg2 : Gl X "set") (hm2 : X.mg "set" = none) (ha : PE X a ta)
    (na : starEach [a] X.env = (false, eval a X.env) :: starEach [] X.env := by rfl) : PE X (.Call (.Name "len" p) [.Call (.Name "set" p2) [a] [] q2] [] pos) (tLenSetK X.K ta) := by
  refine ⟨fun pins s σ H Q I h => ?_⟩
  refine Call_ (ld_blt I hg hm boot_len ?_)
  refine PyProof.Rows.callWith_builtin1 (PyProof.Rows.args_cons ?_ rfl) rfl rfl
  refine Call_ (ld_blt I hg2 hm2 boot_set ?_)
  refine PyProof.Rows.callWith_type1 (PyProof.Rows.args_cons (thn (ha.run pins s σ H _ I h) fun v s1 ⟨x, H1, I1, r1, q1⟩ => PyProof.Rows.args_nil ?_) na) na rfl
  obtain ⟨S, ks, rfl, hq, h1, q1⟩ := q1
  cases r1
  obtain ⟨its, rv, hl⟩ := Src.inv I1 hq
  have hsz : its.toArray.size = ks.length := by rw [List.size_toArray, ← rv.length, List.length_map]
  refine call_set_src (I1.ok.hd hc) hl rv (by omega) fun h' tk hS hk => PyProof.Rows.args_nil ?_
  obtain ⟨o, es, ep, t, ho, hex, hd, _, _, hb, hf, hn⟩ := hS
  have I2 : Inv X pins σ H1 { s1 with heap := h', toks := tk } := I1.kept fun b o e => hk b o (Heap.lt_size e) e
  have hle := metK_le ks
  have hsb : scanBound = 4096 := rfl
  exact call_len_set ho hex hd hf (by rw [hn]; omega) ⟨.int (metK ks).length, H1, I2.tok _, ⟨_, by rw [hn]⟩, q1⟩
theorem ed_lenSet {ks : List Key} (hc : X.calm = true) (hg : Gl X "len") (hm : X.mg "len" = none) (hg2 : Gl X "set") (hm2 : X.mg "set" = none) (ha : ED X G a ρ ρ1 s) (hs : SeqS s ds) (hd : ds = ks.map keyD) (hz : ks.length + 1 < scanBound)
    (na : starEach [a] X.env = (false, eval a X.env) :: starEach [] X.env := by rfl) : ED X G (.Call (.Name "len" p) [.Call (.Name "set" p2) [a] [] q2] [] pos) ρ ρ1 (.val (.int ((metK ks).length : Nat))) :=
  pe_mono (pe_lenSetK hc hg hm hg2 hm2 ha na) fun σ H Q ⟨F, E, q⟩ => ⟨F, E, fun F1 H1 v e1 E1 r1 => by
    obtain ⟨k, S, vs, _, rfl, h3, h4⟩ := seq_src hs E1 r1
    rw [hd] at h3
    have h5 := h4 H1 E1.sub E1.keep
    rw [h3.keys] at h5
    exact ⟨S, ks, rfl, h5, hz, q F1 H1 _ e1 E1 sr_int⟩⟩
end
/-! ### x.count(y) -/
section
variable {X : Cx} {G G' : Gx} {e a b c o : Expr} {ρ ρ' ρ0 ρ1 ρ2 ρ3 : DL.Env} {r s z s1 s2 : Slot} {d x y w : D} {ds es : List D} {K : PySem.W.Frag} {F F1 F' H H' : Hp} {σ : L2.St} {v u : V} {pos p p2 q2 apos cpos tpos : Pos} {k k1 k2 k3 : Bool} {n : Str} {xs : List Expr} {m i j kk : Nat} {P : Out → Prop} {elts : List Expr}
def rCntE (K : PySem.W.Frag) : V → List V → Hp → VK → Prop := fun x xs H Q => ∃ (S : Src) (ys : List V) (z : V), x = .ref S.ad ∧ xs = [z] ∧ S.Sq K H ys ∧ flatV z = true ∧ ys.all flatV = true ∧ Q (.int (ys.countP (fun y => eqV y z) : Nat)) H
theorem count_eqU {x : V} : ∀ {xs : List V} {us : List Value}, Vals xs us → xs.all flatV = true → us.countP (eqU x) = xs.countP fun y => eqV y x
  | _, _, .nil, _ => rfl
  | y :: xs, u :: us, .cons r t, f => by
    rw [List.all_cons, Bool.and_eq_true] at f
    rw [List.countP_cons, List.countP_cons, eqU_of r f.1, count_eqU t f.2]
theorem mt_lcountE : MtR X "list.count" (fun x xs H Q => (∃ a ys z, x = V.ref a ∧ xs = [z] ∧ SqL X.K H a ys ∧ flatV z = true ∧ ys.all flatV = true ∧ Q (.int (ys.countP (fun y => eqV y z) : Nat)) H)) := by
  intro pins s σ H x xs v us Q I rx rxs h
  obtain ⟨a, ys, z, rfl, rfl, hs, fz, fy, q⟩ := h
  cases rx
  obtain ⟨u, rfl, ru⟩ := rxs.one
  obtain ⟨its, rv, ⟨⟨cls, dd, data, sl⟩, n, ho, hc, hdn, hd⟩, hlen⟩ := I.list hs
  simp only at hc hd
  subst hc hd
  refine call_meets PySem.F.slot_list_count ⟨_, ho, rfl⟩ PySem.F.entry_list_count (PySem.F.args_list_count_2 _ _)
    (SeqAt.list_countAt a its.toArray n dd sl u (eqU z)) ⟨ho, fun w hw => mem_eqAt ru fz rv fy w (by simpa using hw), ?_⟩
  refine ⟨.int (ys.countP (fun y => eqV y z) : Nat), H, I.tok _, ⟨s.toks, ?_⟩, q⟩
  show Value.int ((its.toArray.toList.countP (eqU z) : Nat) : Int) s.toks = _
  rw [show its.toArray.toList = its by simp, count_eqU rv fy]
theorem mt_tcountE : MtR X "tuple.count" (fun x xs H Q => (∃ a ys z, x = V.ref a ∧ xs = [z] ∧ SqT X.K H a ys ∧ flatV z = true ∧ ys.all flatV = true ∧ Q (.int (ys.countP (fun y => eqV y z) : Nat)) H)) := by
  intro pins s σ H x xs v us Q I rx rxs h
  obtain ⟨a, ys, z, rfl, rfl, hs, fz, fy, q⟩ := h
  cases rx
  obtain ⟨u, rfl, ru⟩ := rxs.one
  obtain ⟨its, rv, ⟨⟨cls, dd, data, sl⟩, ho, hc, n, hd⟩, hlen⟩ := I.tuple hs
  simp only at hc hd
  subst hc hd
  refine call_meets PySem.F.slot_tuple_count ⟨_, ho, rfl⟩ PySem.F.entry_tuple_count (PySem.F.args_tuple_count_2 _ _)
    (SeqAt.tuple_countAt a its.toArray n dd sl u (eqU z)) ⟨ho, fun w hw => mem_eqAt ru fz rv fy w (by simpa using hw), ?_⟩
  refine ⟨.int (ys.countP (fun y => eqV y z) : Nat), H, I.tok _, ⟨s.toks, ?_⟩, q⟩
  show Value.int ((its.toArray.toList.countP (eqU z) : Nat) : Int) s.toks = _
  rw [show its.toArray.toList = its by simp, count_eqU rv fy]
/-- a method of a tuple of one's own -/
def tBMT (K : PySem.W.Frag) (r : V → List V → Hp → VK → Prop) (to : TE) (t : TA) : TE := fun σ H Q => to σ H fun x H1 => (∃ a xs, x = .ref a ∧ SqX K H1 a xs) ∧ t σ H1 fun xs H2 => r x xs H2 Q
theorem pe_bmT {name : Str} {id : String} {to : TE} {t : TA} {es : List Expr} {r : V → List V → Hp → VK → Prop} (slot : PySem.Slot "tuple" name id) (hty : typeOf (.builtin id) = pure (.type "method_descriptor")) (hm : MtR X id r) (ho : PE X o to) (ha : PA X (e :: es) t)
    (hbase : attributeBase o name X.env (eval o X.env) = eval o X.env := by rfl)
    (hfew : ((backTo cpos (starEach (e :: es) X.env)).all (fun x => !x.1) && (backToKw cpos (keywordEach [] X.env)).all (fun x => x.1.isSome)
      && decide ((e :: es).length + ([] : List Keyword).length + (if ([] : List Keyword).isEmpty then 0 else 1) < 30)) = true := by rfl)
    (hline : (apos.endLine == cpos.line) = true := by rfl) (hs : starEach (e :: es) X.env = (false, eval e X.env) :: starEach es X.env := by rfl) (hplain : (backTo cpos (starEach es X.env)).any (·.1) = false := by rfl) :
    PE X (.Call (.Attribute o name apos) (e :: es) [] cpos) (tBMT X.K r to t) := by
  refine ⟨fun pins s σ H Q I h => ?_⟩
  refine wpAny_Call_method_late hbase hfew hline rfl (thn (ho.run pins s σ H _ I h) fun v s1 ⟨x, H1, I1, r1, ty, q1⟩ => ?_)
  obtain ⟨a, xs, rfl, hq, hd⟩ := ty
  cases r1
  obtain ⟨its, rv, ⟨o1, ho1, hc1, n, hd1⟩, hlen⟩ := I1.tuple hq
  have hnd : ∀ b, Value.ref a = .ref b → ∃ ob, s1.heap.get? b = some ob ∧ ob.dict = none := fun b hb => by
    cases hb
    rcases hd with ⟨o2, u, g, d2⟩ | ⟨o2, g, d2⟩
    · exact ⟨o2, (I1.hok a _ g).1, d2⟩
    · exact ⟨o2, I1.kIn a o2 g, d2⟩
  refine ⟨"tuple", id, PySem.F.plainAttrs_tuple, slot, hty, ⟨o1, ho1, hc1⟩, hnd, ?_⟩
  have hA := ha.run cpos pins s1 σ H1 _ I1 q1
  rw [hs] at hA ⊢
  refine Calls.callWith_builtin (by show (false || (backTo cpos (starEach es X.env)).any (·.1)) = false; rw [hplain] <;> rfl) (Calls.evalArgs_plain ?_)
  exact thn hA fun us s2 ⟨vs, H2, I2, r2, q2⟩ => hm pins s2 σ H2 (.ref a) vs (.ref a) us Q I2 rfl r2 q2
theorem cntV_of (hx : flatD x = true) (t : Rep K F' x u) : ∀ {ds : List D} {vs : List V}, ds.all flatD = true → Reps K F ds vs → vs.all flatV = true ∧ vs.countP (fun y => eqV y u) = ds.countP (fun y => eqF y x)
  | [], vs, h, r => by rw [r.nil_of]; exact ⟨rfl, rfl⟩
  | d :: ds, vs, h, r => by
    obtain ⟨v, ws, rfl, h2, h3⟩ := r.cons_of
    simp only [List.all_cons, Bool.and_eq_true] at h
    obtain ⟨i1, i2⟩ := cntV_of hx t h.2 h3
    refine ⟨by simp only [List.all_cons, Bool.and_eq_true]; exact ⟨flat_of h.1 h2, i1⟩, ?_⟩
    rw [List.countP_cons, List.countP_cons, eqF_of h.1 hx h2 t, i2]
theorem ed_countL {l : List D} (ho : ED X G o ρ ρ1 (.v k (.lst l))) (he : ED X G e ρ1 ρ2 (.v k2 x)) (hx : flatD x = true) (hd : l.all flatD = true)
    (hbase : attributeBase o "count" X.env (eval o X.env) = eval o X.env := by rfl)
    (hst : starEach [e] X.env = (false, eval e X.env) :: starEach [] X.env := by rfl) (hpl : (backTo cpos (starEach [] X.env)).any (·.1) = false := by rfl) (hline : (apos.endLine == cpos.line) = true := by rfl)
    (hfew : ((backTo cpos (starEach [e] X.env)).all (fun x => !x.1) && (backToKw cpos (keywordEach [] X.env)).all (fun x => x.1.isSome) && decide ([e].length + ([] : List Keyword).length + (if ([] : List Keyword).isEmpty then 0 else 1) < 30)) = true := by rfl) :
    ED X G (.Call (.Attribute o "count" apos) [e] [] cpos) ρ ρ2 (.val (.int (l.countP (fun y => eqF y x) : Nat))) :=
  pe_mono (pe_bm PySem.F.plainAttrs_list PySem.F.slot_list_count PySem.F.type_list_count mt_lcountE ho (ea_one he hst) hbase hfew hline hst hpl) fun σ H Q ⟨F, E, q⟩ => ⟨F, E, fun F1 H1 v e1 E1 r1 => by
    obtain ⟨a, vs, rfl, h2, h3⟩ := Rep.lstH E1.atH r1
    refine ⟨.inl ⟨rfl, vs, sql_rd h2⟩, F1, E1, fun F2 H2 w e2 E2 r2 => ?_⟩
    obtain ⟨a', vs', h1', h2', h3'⟩ := Rep.lstH E2.atH (Rep.mono (at_ext e2) _ _ r1)
    cases h1'
    obtain ⟨i1, i2⟩ := cntV_of hx r2 hd h3'
    exact ⟨a, vs', w, rfl, rfl, sql_rd h2', flat_of hx r2, i1, by rw [i2]; exact q F2 H2 _ (e1.trans e2) E2 sr_int⟩⟩
theorem ed_countT {l : List D} (ho : ED X G o ρ ρ1 (.v k (.tup l))) (he : ED X G e ρ1 ρ2 (.v k2 x)) (hx : flatD x = true) (hd : l.all flatD = true)
    (hbase : attributeBase o "count" X.env (eval o X.env) = eval o X.env := by rfl)
    (hst : starEach [e] X.env = (false, eval e X.env) :: starEach [] X.env := by rfl) (hpl : (backTo cpos (starEach [] X.env)).any (·.1) = false := by rfl) (hline : (apos.endLine == cpos.line) = true := by rfl)
    (hfew : ((backTo cpos (starEach [e] X.env)).all (fun x => !x.1) && (backToKw cpos (keywordEach [] X.env)).all (fun x => x.1.isSome) && decide ([e].length + ([] : List Keyword).length + (if ([] : List Keyword).isEmpty then 0 else 1) < 30)) = true := by rfl) :
    ED X G (.Call (.Attribute o "count" apos) [e] [] cpos) ρ ρ2 (.val (.int (l.countP (fun y => eqF y x) : Nat))) :=
  pe_mono (pe_bmT PySem.F.slot_tuple_count PySem.F.type_tuple_count mt_tcountE ho (ea_one he hst) hbase hfew hline hst hpl) fun σ H Q ⟨F, E, q⟩ => ⟨F, E, fun F1 H1 v e1 E1 r1 => by
    obtain ⟨a, vs, rfl, h2, h3⟩ : ∃ a vs, v = V.ref a ∧ SqX X.K (G.at F1 k) a vs ∧ Reps X.K (G.at F1 k) l vs := rep_tup.mp r1
    refine ⟨⟨a, vs, rfl, Ext.sqX E1.atH h2⟩, F1, E1, fun F2 H2 w e2 E2 r2 => ?_⟩
    obtain ⟨i1, i2⟩ := cntV_of hx r2 hd h3
    exact ⟨a, vs, w, rfl, rfl, (Ext.sqX E2.atH (Ext.sqX (at_ext e2) h2)).1, flat_of hx r2, i1, by rw [i2]; exact q F2 H2 _ (e1.trans e2) E2 sr_int⟩⟩
end
end DL
/-! DL16: star displays; comprehensions of two clauses whose turns leave the frame as it is. -/
namespace DL
open PySem L2 PyProof.Rows
section
variable {X : Cx} {G G' : Gx} {e a b c o : Expr} {ρ ρ' ρ0 ρ1 ρ2 ρ3 : DL.Env} {r s z s1 s2 : Slot} {d x y w : D} {ds es : List D} {K : PySem.W.Frag} {F F1 F' H H' Hb H0 : Hp} {σ : L2.St} {v u : V} {pos p p2 q2 apos cpos tpos : Pos} {k k1 k2 k3 : Bool} {n : Str} {xs : List Expr} {m i j kk : Nat} {P : Out → Prop} {elts : List Expr}
/-- *a, ... -/
theorem ea_star {l l2 : List D} (ha : ED X G a ρ ρ1 (.v k d)) (hs : SeqS (.v k d) l) (hk : k = true ∨ l.all isSc = true) (hr : EA X G xs ρ1 ρ2 l2) (hst : starEach (.Starred a p :: xs) X.env = (true, eval a X.env) :: starEach xs X.env := by rfl) : EA X G (.Starred a p :: xs) ρ ρ2 (l ++ l2) :=
  pa_mono (StX.pa_star ha hr hst) fun σ H Q ⟨F, E, q⟩ => ⟨F, E, fun F1 H1 v e1 E1 r1 => by
    obtain ⟨k', S, vs, _, rfl, h3, h4⟩ := seq_src hs E1 r1
    have h5 := h4 H1 E1.sub E1.keep
    have h6 : Reps X.K F1 l vs := by
      cases hs with
      | lst => cases S <;> (rename_i e; cases e <;> exact reps_val h3 hk)
      | tup => cases S <;> (rename_i e; cases e <;> exact reps_val h3 hk)
    refine ⟨S.ad, vs, rfl, ?_, F1, E1, fun F2 H2 ys e2 E2 r2 => q F2 H2 _ (e1.trans e2) E2 ((Reps.mono e2 _ _ h6).append r2)⟩
    cases S with
    | l a => exact .inr h5
    | t a => exact .inl h5⟩
/-! ### frames that own nothing -/
def pG (F H : Hp) : Gx := ⟨F, H, [], []⟩
theorem pG_hv : (pG F H).Hv = H := by
  funext b
  unfold Gx.Hv
  rw [if_neg]
  · rfl
  · rintro ⟨i, h, _⟩; cases h
theorem pG_ms : (pG F H).ms[i]? ≠ some true := fun h => by cases h
def noOwn (ρ : DL.Env) : DL.Env := ρ.map fun o => match o with | some (.own _) => none | o => o
theorem noOwn_v (h : (noOwn ρ)[i]? = some (some (.v k d))) : ρ[i]? = some (some (.v k d)) := by
  unfold noOwn at h
  rw [List.getElem?_map] at h
  cases q : ρ[i]? with
  | none => rw [q] at h; cases h
  | some o =>
    rw [q] at h
    match o, h with
    | some (.v _ _), h => exact h
    | none, h => exact h
theorem noOwn_own {l : List D} : (noOwn ρ)[i]? ≠ some (some (.own l)) := fun h => by
  unfold noOwn at h
  rw [List.getElem?_map] at h
  cases q : ρ[i]? with
  | none => rw [q] at h; cases h
  | some o =>
    rw [q] at h
    match o, h with
    | some (.v _ _), h => cases h
    | none, h => cases h
theorem noOwn_len : (noOwn ρ).length = ρ.length := List.length_map ..
def hold (F Hb : Hp) : Bool → Hp
  | true => F
  | false => Hb
structure SlOk (K : PySem.W.Frag) (F Hb : Hp) (σ : L2.St) (ρ : DL.Env) : Prop where
  val : ∀ (i : Nat) k d, ρ[i]? = some (some (.v k d)) → ∃ v, σ[i]? = some (some v) ∧ Rep K (hold F Hb k) d v
  own : ∀ (i : Nat) l, ρ[i]? ≠ some (some (.own l))
  len : σ.length = ρ.length
theorem ER.slots (E : ER K G F H σ ρ) : SlOk K F G.Hv σ (noOwn ρ) where
  val := fun i k d h => by
    obtain ⟨v, h1, h2⟩ := E.val i k d (noOwn_v h)
    exact ⟨v, h1, by cases k <;> exact h2⟩
  own := fun i l => noOwn_own
  len := by rw [noOwn_len]; exact E.len
theorem SlOk.mono (S : SlOk K F Hb σ ρ) (e : Ext F F') : SlOk K F' Hb σ ρ where
  val := fun i k d h => by
    obtain ⟨v, h1, h2⟩ := S.val i k d h
    refine ⟨v, h1, ?_⟩
    cases k
    · exact h2
    · exact Rep.mono e _ _ h2
  own := S.own
  len := S.len
theorem SlOk.er (S : SlOk K F Hb σ ρ) (e1 : Ext F H) (e2 : Ext Hb H0) (e3 : Ext H0 H) : ER K (pG F H0) F H σ ρ where
  ext := Ext.refl _
  sub := e1
  new := fun b o h => .inl h
  keep := by rw [pG_hv]; exact e3
  there := fun b o h => ⟨o, e3 b o h⟩
  arg := fun i h => absurd h pG_ms
  val := fun i k d h => by
    obtain ⟨v, h1, h2⟩ := S.val i k d h
    refine ⟨v, h1, ?_⟩
    cases k
    · show Rep K (pG F H0).Hv d v
      rw [pG_hv]; exact Rep.mono e2 _ _ h2
    · exact h2
  own := fun i l h => absurd h (S.own i l)
  inj := fun i j a ds es _ h => absurd h (S.own i ds)
  len := S.len
/-- back to a frame, but for one list D that nobody holds -/
theorem ER.still {D : Addr} (E : ER K G F H σ ρ) (h0 : G.H0 D = none) (ho : ∀ (i : Nat) (es : List DL.D), ρ[i]? = some (some (Slot.own es)) → σ[i]? ≠ some (some (V.ref D))) (e : Ext F F') (sub : Ext F' H') (hD : F' D = none)
    (keep : ∀ b o, b ≠ D → H b = some o → H' b = some o) (new : ∀ b o, F' b = some o → F b = some o ∨ H b = none) (hT : ∃ u, H' D = some u) : ER K G F' H' σ ρ where
  ext := E.ext.trans e
  sub := sub
  new := fun b o h => by
    rcases new b o h with h | h
    · exact E.new b o h
    · exact .inr (E.h0 h)
  keep := fun b o h => keep b o (fun q => by subst q; rw [Gx.hv_h0 h] at h0; cases h0) (E.keep b o h)
  there := fun b o h => by
    by_cases q : b = D
    · subst q; exact hT
    · obtain ⟨u, hu⟩ := E.there b o h
      exact ⟨u, keep b u q hu⟩
  arg := E.arg
  val := fun i k d h => by
    obtain ⟨v, h1, h2⟩ := E.val i k d h
    exact ⟨v, h1, Rep.mono (at_ext e) _ _ h2⟩
  own := fun i es h => by
    obtain ⟨a, vs, h1, h2, h3, h4, h5⟩ := E.own i es h
    have na : a ≠ D := fun q => ho i es h (by rw [h1, q])
    refine ⟨a, vs, h1, keep a _ na h2, ?_, h4, Reps.mono e _ _ h5⟩
    cases q : F' a with
    | none => rfl
    | some o =>
      rcases new a o q with q | q
      · rw [h3] at q; cases q
      · rw [h2] at q; cases q
  inj := E.inj
  len := E.len
/-! ### walks that lean on nothing but what is fixed -/
def WkF (K : PySem.W.Frag) (F : Hp) (J : It) (m : Nat) (it : Nat → Yld) : Prop :=
  ∃ Gd Y, Walk J m Gd Y ∧ (∀ H, Ext F H → Gd H) ∧ ∀ t H x H', t < m → Ext F H → Y t H x H' → YRep K (pG F (fun _ => none)) F (it t) x H H'
def tWF (K : PySem.W.Frag) (G : Gx) (ρ ρ1 : DL.Env) (m : Nat) (it : Nat → Yld) : TI := fun σ H R => ∃ F, ER K G F H σ ρ ∧ ∀ F' H' J, Ext F F' → ER K G F' H' σ ρ1 → WkF K F' J m it → R J H'
abbrev WF (X : Cx) (G : Gx) (tg iter : Expr) (ρ ρ1 : DL.Env) (m : Nat) (it : Nat → Yld) : Prop := PI X tg iter (tWF X.K G ρ ρ1 m it)
theorem wf_list {tg : Expr} (h : ED X G e ρ ρ1 (.val (.lst ds))) {dx : D} : WF X G tg e ρ ρ1 ds.length (fun t => .one (.val (ds.getD t dx))) :=
  pi_mono (pi_list h) fun σ H R ⟨F, E, q⟩ => ⟨F, E, fun F1 H1 v e1 E1 r1 => by
    obtain ⟨a, vs, rfl, hl, hr⟩ : ∃ a vs, v = V.ref a ∧ Rd F1 a (.lst vs) ∧ Reps X.K F1 ds vs := rep_lst.mp r1
    refine ⟨a, rfl, ⟨vs, sql_rd (E1.sub.rd hl)⟩, q F1 H1 _ e1 E1 ⟨_, _, by rw [← hr.length]; exact walk_list (K := X.K) (a := a) (xs := vs), fun H e2 => sql_rd (e2.rd hl), fun t H x H' ht _ y => ?_⟩⟩
    obtain ⟨d, h1, h2⟩ := hr.get y.2
    have : ds.getD t dx = d := by rw [List.getD_eq_getElem?_getD, h1]; rfl
    show YRep X.K _ F1 (.one (.val (ds.getD t dx))) x H H'
    rw [this]
    exact ⟨y.1, h2⟩⟩
theorem wf_tup {tg : Expr} (h : ED X G e ρ ρ1 (.val (.tup ds))) {dx : D} : WF X G tg e ρ ρ1 ds.length (fun t => .one (.val (ds.getD t dx))) :=
  pi_mono (pi_tup h) fun σ H R ⟨F, E, q⟩ => ⟨F, E, fun F1 H1 v e1 E1 r1 => by
    obtain ⟨a, vs, rfl, ⟨hl, _⟩, hr⟩ : ∃ a vs, v = V.ref a ∧ SqX X.K F1 a vs ∧ Reps X.K F1 ds vs := rep_tup.mp r1
    refine ⟨a, rfl, ⟨vs, E1.sub.sqT hl⟩, q F1 H1 _ e1 E1 ⟨_, _, by rw [← hr.length]; exact walk_tup (K := X.K) (a := a) (xs := vs), fun H e2 => Ext.sqT e2 hl, fun t H x H' ht _ y => ?_⟩⟩
    obtain ⟨d, h1, h2⟩ := hr.get y.2
    have : ds.getD t dx = d := by rw [List.getD_eq_getElem?_getD, h1]; rfl
    show YRep X.K _ F1 (.one (.val (ds.getD t dx))) x H H'
    rw [this]
    exact ⟨y.1, h2⟩⟩
theorem wf_range {tg : Expr} {h : Int} {p3 p4 : Pos} (hg : Gl X "range") (hm : X.mg "range" = none) (ha : ED X G a ρ ρ1 (.v k (.int h))) (hz : -(2 ^ 62) ≤ h ∧ h < 2 ^ 62) (hs : starEach [a] X.env = [(false, eval a X.env)] := by rfl) :
    WF X G tg (.Call (.Name "range" p3) [a] [] p4) ρ ρ1 h.toNat (fun t => .one (.val (.int (t : Int)))) :=
  pi_mono (pi_range1 hg hm (ea_one ha hs) hs) fun σ H R ⟨F, E, q⟩ => ⟨F, E, fun F1 H1 v e1 E1 r1 => by
    have := of_int r1
    subst this
    refine ⟨h, rfl, hz.1, hz.2, q F1 H1 _ e1 E1 ⟨_, _, walk_range, fun _ _ => trivial, fun t H x H' ht _ y => ⟨y.1, ?_⟩⟩⟩
    rw [rep_int, y.2]
    show V.int ((0 : Int) + (t : Int)) = _
    rw [Int.zero_add]⟩
theorem wf_str {tg : Expr} {z : Str} (h : ED X G e ρ ρ1 (.v k (.str z))) : WF X G tg e ρ ρ1 z.cps.size (fun t => .one (.val (.str ⟨#[z.cps.getD t 0]⟩))) :=
  pi_mono (pi_str h) fun σ H R ⟨F, E, q⟩ => ⟨F, E, fun F1 H1 v e1 E1 r1 => by
    have := of_str r1
    subst this
    refine ⟨z, rfl, q F1 H1 _ e1 E1 ⟨_, _, walk_str, fun _ _ => trivial, fun t H x H' ht _ y => ?_⟩⟩
    obtain ⟨y1, c, y2, y3⟩ := y
    refine ⟨y1, ?_⟩
    rw [rep_str, y3]
    have : z.cps.getD t 0 = c := by rw [Array.getD_eq_getD_getElem?, y2]; rfl
    rw [this]⟩
/-- a walk's turns, by an invariant -/
theorem walk_it {J : It} {n : Nat} {Gd : Hp → Prop} {Y : Nat → Hp → V → Hp → Prop} (w : Walk J n Gd Y) {step : (Hp → Prop) → V → Hp → Prop} {Fin : Hp → Prop} {H0 : Hp} (Pv : Nat → Hp → Prop) (h0 : Pv 0 H0) (hG : ∀ i H, i ≤ n → Pv i H → Gd H)
    (hs : ∀ i x H H', i < n → Pv i H → Y i H x H' → step (Pv (i + 1)) x H') (hd : ∀ H, Pv n H → Fin H) :
    ∃ W : Nat → Nat → Hp → Prop, (∃ m, W 0 m H0) ∧ ∀ i m H, W i m H → (J.stop i H ∧ Fin H) ∨ (J.go i H ∧ ∃ Nx : Hp → Prop, (∀ H', Nx H' → ∃ m', m' < m ∧ W (i + 1) m' H') ∧ ∀ x H', J.yld i H x H' → step Nx x H') := by
  refine ⟨fun i m H => m = n - i ∧ i ≤ n ∧ Pv i H, ⟨n, by simp, Nat.zero_le _, h0⟩, ?_⟩
  rintro i m H ⟨rfl, hi, p⟩
  have q := hG i H hi p
  by_cases hlt : i < n
  · exact .inr ⟨w.goes i H hlt q, Pv (i + 1), fun H' p' => ⟨n - (i + 1), by omega, rfl, hlt, p'⟩, fun x H' y => hs i x H H' hlt p (w.yields i H x H' hlt q y)⟩
  · have e : i = n := by omega
    subst e
    exact .inl ⟨w.stops H q, hd H p⟩
end
end DL
/-! DL17: the rule for list comprehensions of two clauses. -/
namespace DL
open PySem L2 PyProof.Rows
section
variable {X : Cx} {G G' : Gx} {e a b c o : Expr} {ρ ρ' ρ0 ρ1 ρ2 ρ3 : DL.Env} {r s z s1 s2 : Slot} {d x y w : D} {ds es : List D} {K : PySem.W.Frag} {F F1 F' H H' Hb H0 : Hp} {σ : L2.St} {v u : V} {pos p p2 q2 apos cpos tpos : Pos} {k k1 k2 k3 : Bool} {n : Str} {xs : List Expr} {m i j kk : Nat} {P : Out → Prop} {elts : List Expr}
/-- a turn's tests: none, or one; the frame stays -/
def IfP (X : Cx) (scope : Scope) : List Expr → DL.Env → Bool → Prop
  | [], _, b => b = true
  | [c], ρi, b => ∀ (s : Shared) (H : Hp) (C : Addr) (cl : List (Str × Addr)) (fp : List Addr) (F1 H1 : Hp), ET (X.blk s H scope (compEnvC scope cl C X.env) fp) (pG F1 H1) c ρi ρi b
  | _, _, _ => False
abbrev ElP (X : Cx) (scope : Scope) (elt : Expr) (ρi : DL.Env) (x : D) : Prop := ∀ (s : Shared) (H : Hp) (C : Addr) (cl : List (Str × Addr)) (fp : List Addr) (F1 H1 : Hp), ED (X.blk s H scope (compEnvC scope cl C X.env) fp) (pG F1 H1) elt ρi ρi (.val x)
abbrev WFP (X : Cx) (scope : Scope) (tg iter : Expr) (ρi : DL.Env) (m : Nat) (it : Nat → Yld) : Prop := ∀ (s : Shared) (H : Hp) (C : Addr) (cl : List (Str × Addr)) (fp : List Addr) (F1 H1 : Hp), WF (X.blk s H scope (compEnvC scope cl C X.env) fp) (pG F1 H1) tg iter ρi ρi m it
structure Tp where
  F1 : Hp
  H1 : Hp
  ρi : DL.Env
  b : Bool
structure Te where
  F1 : Hp
  H1 : Hp
  ρi : DL.Env
  x : D
structure Tw where
  F1 : Hp
  H1 : Hp
  ρi : DL.Env
  m : Nat
  it : Nat → Yld
def tIfP (K : PySem.W.Frag) (p : DL.Env → Bool → Prop) : TT := fun σ H Q => ∃ q : Tp, p q.ρi q.b ∧ tDT K (pG q.F1 q.H1) q.ρi q.ρi q.b σ H Q
def tElP (K : PySem.W.Frag) (p : DL.Env → D → Prop) : TE := fun σ H Q => ∃ q : Te, p q.ρi q.x ∧ tD K (pG q.F1 q.H1) q.ρi q.ρi (.val q.x) σ H Q
def tWP (K : PySem.W.Frag) (p : DL.Env → Nat → (Nat → Yld) → Prop) : TI := fun σ H R => ∃ q : Tw, p q.ρi q.m q.it ∧ tWF K (pG q.F1 q.H1) q.ρi q.ρi q.m q.it σ H R
theorem pi_any {tg iter : Expr} {ι : Type} {p : ι → Prop} {t : ι → TI} (h : ∀ i, p i → PI X tg iter (t i)) : PI X tg iter (fun σ H R => ∃ i, p i ∧ t i σ H R) :=
  ⟨fun pins s σ H R I ⟨i, hp, q⟩ => (h i hp).run pins s σ H R I q⟩
theorem pts_mono {ifs : List Expr} {t t' : TT} (h : PTs X ifs t) (i : ∀ σ H Q, t' σ H Q → t σ H Q) : PTs X ifs t' := ⟨fun pins s σ H Q I q => h.run pins s σ H Q I (i σ H Q q)⟩
theorem pts_if (scope : Scope) : ∀ (ifs : List Expr) (s : Shared) (H : Hp) (C : Addr) (cl : List (Str × Addr)) (fp : List Addr), PTs (X.blk s H scope (compEnvC scope cl C X.env) fp) ifs (tIfP X.K (IfP X scope ifs))
  | [], s, H, C, cl, fp => pts_mono pts_nil fun σ H Q ⟨q, hp, F, E, k⟩ => by
    have hb : q.b = true := hp
    have := k F H (Ext.refl _) E
    rw [hb] at this; exact this
  | [c], s, H, C, cl, fp => pts_one (pt_any (p := fun q : Tp => IfP X scope [c] q.ρi q.b) fun q hq => hq s H C cl fp q.F1 q.H1)
  | c :: d :: r, s, H, C, cl, fp => ⟨fun pins s σ H Q I ⟨q, hp, _⟩ => hp.elim⟩
/-! ### what comes out -/
def preL (f : Nat → List D) (t : Nat) : List D := (List.range t).flatMap f
def inL (x : Nat → D) (b : Nat → Bool) (j : Nat) : List D := ((List.range j).filter b).map x
theorem preL_succ {f : Nat → List D} {t : Nat} : preL f (t + 1) = preL f t ++ f t := by
  unfold preL; rw [List.range_succ, List.flatMap_append]; simp
theorem inL_succ {x : Nat → D} {b : Nat → Bool} {j : Nat} : inL x b (j + 1) = if b j = true then inL x b j ++ [x j] else inL x b j := by
  unfold inL
  rw [List.range_succ, List.filter_append, List.map_append]
  by_cases h : b j = true
  · simp [h]
  · simp [h]
theorem preL_le {f : Nat → List D} {t : Nat} : ∀ k, (preL f t).length ≤ (preL f (t + k)).length
  | 0 => Nat.le_refl _
  | k + 1 => by
    rw [← Nat.add_assoc, preL_succ, List.length_append]
    have := preL_le (f := f) (t := t) k
    omega
theorem inL_le {x : Nat → D} {b : Nat → Bool} {j : Nat} : ∀ k, (inL x b j).length ≤ (inL x b (j + k)).length
  | 0 => Nat.le_refl _
  | k + 1 => by
    rw [← Nat.add_assoc, inL_succ]
    have := inL_le (x := x) (b := b) (j := j) k
    split
    · rw [List.length_append]; omega
    · exact this
/-- [elt for tg in iter if .. for tg1 in iter1 if ..], no turn changes the frame -/
theorem cd_lc2 {elt tg iter tg1 iter1 : Expr} {ifs ifs1 : List Expr} {scope : Scope} {own : List (Str × Nat)} {g g1 : TG} {ix ix1 vs vs1 : List Nat} {it : Nat → Yld} {ft : Nat → DL.Env → DL.Env} {m1 : Nat → Nat} {it1 : Nat → Nat → Yld} {ft1 : Nat → Nat → DL.Env → DL.Env} {ρt : Nat → DL.Env} {bt : Nat → Bool} {b1 : Nat → Nat → Bool} {xe : Nat → Nat → D} {acc : List D}
    (ok : BlkOk X.N X.env.scope scope own) (hvs : own.map (·.2) = vs) (hv1 : ∀ i ∈ vs1, i ∈ vs) (hc : X.calm = true) (hN : X.N.Nodup)
    (hw : WD X G tg iter ρ ρ1 m it) (hg : ∀ (s : Shared) (H : Hp) (C : Addr) (cl : List (Str × Addr)) (fp : List Addr), PG (X.blk s H scope (compEnvC scope cl C X.env) fp) tg g) (hy : ∀ t, t < m → TgR X.K G g ix (it t) (ft t)) (hix : ∀ i ∈ ix, i ∈ vs) (hm : ∀ i ∈ vs, G.ms[i]? ≠ some true)
    (hρt : ∀ t, t < m → noOwn (ft t (wipeE ρ1 vs)) = ρt t) (hbt : ∀ t, t < m → IfP X scope ifs (ρt t) (bt t))
    (hi1 : ∀ t, t < m → bt t = true → WFP X scope tg1 iter1 (ρt t) (m1 t) (it1 t)) (hg1 : ∀ (s : Shared) (H : Hp) (C : Addr) (cl : List (Str × Addr)) (fp : List Addr), PG (X.blk s H scope (compEnvC scope cl C X.env) fp) tg1 g1)
    (hy1 : ∀ t j F1 H1, t < m → j < m1 t → TgR X.K (pG F1 H1) g1 ix1 (it1 t j) (ft1 t j)) (hix1 : ∀ i ∈ ix1, i ∈ vs1)
    (hb1 : ∀ t j, t < m → bt t = true → j < m1 t → IfP X scope ifs1 (ft1 t j (wipeE (ρt t) vs1)) (b1 t j))
    (hel : ∀ t j, t < m → bt t = true → j < m1 t → b1 t j = true → ElP X scope elt (ft1 t j (wipeE (ρt t) vs1)) (xe t j))
    (hacc : preL (fun t => if bt t = true then inL (xe t) (b1 t) (m1 t) else []) m = acc) (hz : acc.length ≤ sizeLine)
    (hs : ∀ x, foldedSetIterable iter X.env x = pure x := by intro _; rfl) (hs1 : ∀ env x, foldedSetIterable iter1 env x = pure x := by intro _ _; rfl) : CD X G (.ListComp elt [⟨tg, iter, ifs, 0⟩, ⟨tg1, iter1, ifs1, 0⟩] scope pos) ρ ρ1 acc := by
  subst hvs
  subst hacc
  have he : ∀ (s : Shared) (H : Hp) (C : Addr) (cl : List (Str × Addr)) (fp : List Addr), PE (X.blk s H scope (compEnvC scope cl C X.env) fp) elt (tElP X.K (ElP X scope elt)) := fun s H C cl fp => pe_any (p := fun q : Te => ElP X scope elt q.ρi q.x) fun q hq => hq s H C cl fp q.F1 q.H1
  have hpi : ∀ (s : Shared) (H : Hp) (C : Addr) (cl : List (Str × Addr)) (fp : List Addr), PI (X.blk s H scope (compEnvC scope cl C X.env) fp) tg1 iter1 (tWP X.K (WFP X scope tg1 iter1)) := fun s H C cl fp => pi_any (p := fun q : Tw => WFP X scope tg1 iter1 q.ρi q.m q.it) fun q hq => hq s H C cl fp q.F1 q.H1
  refine CD.by (pe_lc2 (vs1 := vs1) hc hN hw ok hv1 hg (pts_if scope ifs) hpi hg1 (pts_if scope ifs1) he hs hs1) (fun a b c => ps_setLc2 (vs1 := vs1) hc hN a b c hw ok hv1 hg (pts_if scope ifs) hpi hg1 (pts_if scope ifs1) he hs hs1) fun σ H Q ⟨F, E, q⟩ => ⟨F, E, fun F1 H1 Jt e1 E1 wk => ?_⟩
  obtain ⟨Gd, Y, W, hG, hY⟩ := wk
  intro Dl hD
  let out : Nat → List DL.D := fun t => if bt t = true then inL (xe t) (b1 t) (m1 t) else []
  refine walk_it W (fun t H' => ∃ F' avs, Ext F1 F' ∧ ER X.K G F' H' σ ρ1 ∧ H' Dl = some (.lst avs) ∧ Reps X.K F' (preL out t) avs ∧ F' Dl = none ∧ G.H0 Dl = none ∧ ∀ (i : Nat) (es : List DL.D), ρ1[i]? = some (some (Slot.own es)) → σ[i]? ≠ some (some (V.ref Dl)))
    ⟨F1, [], Ext.refl _, E1.lay0 hD, upd_same, .nil, E1.sub.free hD, E1.h0 hD, fun i es hi hs => ?_⟩ ?_ ?_ ?_
  · obtain ⟨a, ws, g1, g2, _⟩ := E1.own i es hi
    rw [g1] at hs; cases hs
    rw [g2] at hD; cases hD
  · rintro t H' _ ⟨F', avs, e2, E2, _⟩
    exact hG H' (e2.trans E2.sub) E2.keep
  · rintro t x H' H2 ht ⟨F', avs, e2, E2, l1, l2, l3, l4, l5⟩ y
    have yr := hY t H' x H2 ht (e2.trans E2.sub) E2.keep y
    have e5 : Ext H' H2 := by
      revert yr
      cases it t with
      | one s =>
        cases s with
        | v k d => rintro ⟨rfl, _⟩; exact Ext.refl _
        | own _ => intro h; exact h.elim
      | two => rintro ⟨T, x1, x2, _, hT, rfl, _⟩; exact Ext.lay hT
    refine hy t ht F1 F' H' H2 _ (wipeE ρ1 (own.map (·.2))) x _ e2 (E2.wiped hm) yr fun H3 ws e3 E3 => ⟨wipe_setAll hix, ?_⟩
    have S3 : SlOk X.K F' G.Hv (setAll (wipe σ (own.map (·.2))) ix ws) (ρt t) := by have := E3.slots; rwa [hρt t ht] at this
    have e35 : Ext H' H3 := e5.trans e3
    have l13 : H3 Dl = some (.lst avs) := e35 _ _ l1
    -- the end of a turn
    have fin : ∀ F6 H6 avs6, Ext F' F6 → Ext F6 H6 → (∀ b o, b ≠ Dl → H3 b = some o → H6 b = some o) → (∀ b o, F6 b = some o → F' b = some o ∨ H3 b = none) → F6 Dl = none → H6 Dl = some (.lst avs6) → Reps X.K F6 (preL out (t + 1)) avs6 →
        ∃ F' avs, Ext F1 F' ∧ ER X.K G F' H6 σ ρ1 ∧ H6 Dl = some (.lst avs) ∧ Reps X.K F' (preL out (t + 1)) avs ∧ F' Dl = none ∧ G.H0 Dl = none ∧ ∀ (i : Nat) (es : List DL.D), ρ1[i]? = some (some (Slot.own es)) → σ[i]? ≠ some (some (V.ref Dl)) := fun F6 H6 avs6 e6 s6 k6 n6 d6 v6 r6 =>
      ⟨F6, avs6, e2.trans e6, E2.still l4 l5 e6 s6 d6 (fun b o hb h => k6 b o hb (e35 b o h)) (fun b o h => (n6 b o h).imp id fun h => by
        cases q : H' b with
        | none => rfl
        | some o' => rw [e35 b o' q] at h; cases h) ⟨_, v6⟩, v6, r6, d6, l4, l5⟩
    have step : (setAll (wipe σ (own.map (·.2))) ix ws) = (setAll (wipe σ (own.map (·.2))) ix ws) := rfl
    refine ⟨⟨F', H3, ρt t, bt t⟩, hbt t ht, F', S3.er E3.sub E3.keep (Ext.refl _), fun F4 H4 e4 E4 => ?_⟩
    have k4 : Ext H3 H4 := by have := E4.keep; rwa [pG_hv] at this
    have n4 : ∀ b o, F4 b = some o → F' b = some o ∨ H3 b = none := E4.new
    have d4 : F4 Dl = none := by
      cases q : F4 Dl with
      | none => rfl
      | some o =>
        rcases n4 _ _ q with q | q
        · rw [l3] at q; cases q
        · rw [l13] at q; cases q
    by_cases hb : bt t = true
    · simp only [hb, if_true]
      refine ⟨⟨F4, H4, ρt t, m1 t, it1 t⟩, hi1 t ht hb, F4, (S3.mono e4).er E4.sub (E3.keep.trans k4) (Ext.refl _), fun F5 H5 J1 e5' E5 wk1 => ?_⟩
      have k5 : Ext H4 H5 := by have := E5.keep; rwa [pG_hv] at this
      have n5 : ∀ b o, F5 b = some o → F' b = some o ∨ H3 b = none := fun b o h => by
        rcases E5.new b o h with h | h
        · exact n4 b o h
        · exact .inr (k4.free h)
      have l15 : H5 Dl = some (.lst avs) := k5 _ _ (k4 _ _ l13)
      have d5 : F5 Dl = none := by
        cases q : F5 Dl with
        | none => rfl
        | some o =>
          rcases n5 _ _ q with q | q
          · rw [l3] at q; cases q
          · rw [l13] at q; cases q
      obtain ⟨Gd1, Y1, W1, hG1, hY1⟩ := wk1
      have S5 := S3.mono (e4.trans e5')
      have lt : (preL out t).length + (inL (xe t) (b1 t) (m1 t)).length ≤ sizeLine := by
        have := preL_le (f := out) (t := t + 1) (m - (t + 1))
        rw [show t + 1 + (m - (t + 1)) = m by omega, preL_succ, List.length_append] at this
        have e : out t = inL (xe t) (b1 t) (m1 t) := by show (if bt t = true then _ else _) = _; rw [if_pos hb]
        rw [e] at this
        exact Nat.le_trans this hz
      refine walk_it W1 (fun j H => ∃ F6 avs6, Ext F5 F6 ∧ Ext F6 H ∧ (∀ b o, b ≠ Dl → H3 b = some o → H b = some o) ∧ (∀ b o, F6 b = some o → F' b = some o ∨ H3 b = none) ∧ F6 Dl = none ∧ H Dl = some (.lst avs6) ∧ Reps X.K F6 (preL out t ++ inL (xe t) (b1 t) j) avs6)
        ⟨F5, avs, Ext.refl _, E5.sub, fun b o _ h => k5 _ _ (k4 _ _ h), n5, d5, l15, by rw [show inL (xe t) (b1 t) 0 = [] from rfl, List.append_nil]; exact Reps.mono (e4.trans e5') _ _ l2⟩ ?_ ?_ ?_
      · rintro j H6 _ ⟨F6, avs6, e6, s6, _⟩
        exact hG1 H6 (e6.trans s6)
      · rintro j x1 H6 H7 hj ⟨F6, avs6, e6, s6, k6, n6, d6, v6, r6⟩ y1
        have yr1 : YRep X.K (pG F5 (fun _ => none)) F5 (it1 t j) x1 H6 H7 := hY1 j H6 x1 H7 hj (e6.trans s6) y1
        have hj : j < m1 t := hj
        have k36 : Ext G.Hv H6 := fun b o h => k6 b o (fun q => by subst q; rw [Gx.hv_h0 h] at l4; cases l4) (E3.keep b o h)
        have e7 : Ext H6 H7 := by
          revert yr1
          cases it1 t j with
          | one s =>
            cases s with
            | v k d => rintro ⟨rfl, _⟩; exact Ext.refl _
            | own _ => intro h; exact h.elim
          | two => rintro ⟨T, x1, x2, _, hT, rfl, _⟩; exact Ext.lay hT
        have yr2 : YRep X.K (pG F6 H6) F5 (it1 t j) x1 H6 H7 := by
          have emp : ∀ (k : Bool), Ext ((pG F5 (fun _ => none)).at F5 k) ((pG F6 H6).at F5 k) := fun k b o h => by
            cases k
            · have h : (pG F5 (fun _ => none)).Hv b = some o := h
              rw [pG_hv] at h; cases h
            · exact h
          revert yr1
          cases it1 t j with
          | one s =>
            cases s with
            | v k d => rintro ⟨rfl, h⟩; exact ⟨rfl, Rep.mono (emp k) _ _ h⟩
            | own _ => intro h; exact h.elim
          | two ka da kb db => rintro ⟨T, y1, y2, h1, hT, h2, h3, h4⟩; exact ⟨T, y1, y2, h1, hT, h2, Rep.mono (emp ka) _ _ h3, Rep.mono (emp kb) _ _ h4⟩
        have E6 : ER X.K (pG F6 H6) F6 H6 (setAll (wipe σ (own.map (·.2))) ix ws) (ρt t) := (S5.mono e6).er s6 k36 (Ext.refl _)
        refine hy1 t j F6 H6 ht hj F5 F6 H6 H7 _ (wipeE (ρt t) vs1) x1 _ e6 (E6.wiped fun i _ => pG_ms) yr2 fun H8 ws1 e8 E8 => ⟨wipe_setAll hix1, ?_⟩
        refine ⟨⟨F6, H6, ft1 t j (wipeE (ρt t) vs1), b1 t j⟩, hb1 t j ht hb hj, F6, E8, fun F9 H9 e9 E9 => ?_⟩
        have mk : ∀ F10 H10 avs10, Ext F6 F10 → Ext F10 H10 → (∀ b o, b ≠ Dl → H6 b = some o → H10 b = some o) → (∀ b o, F10 b = some o → F6 b = some o ∨ H6 b = none) → F10 Dl = none → H10 Dl = some (.lst avs10) → Reps X.K F10 (preL out t ++ inL (xe t) (b1 t) (j + 1)) avs10 →
            ∃ F6 avs6, Ext F5 F6 ∧ Ext F6 H10 ∧ (∀ b o, b ≠ Dl → H3 b = some o → H10 b = some o) ∧ (∀ b o, F6 b = some o → F' b = some o ∨ H3 b = none) ∧ F6 Dl = none ∧ H10 Dl = some (.lst avs6) ∧ Reps X.K F6 (preL out t ++ inL (xe t) (b1 t) (j + 1)) avs6 := fun F10 H10 avs10 ea sa ka na da va ra => by
          have nn : ∀ b o, F10 b = some o → F' b = some o ∨ H3 b = none := fun b o h => by
            rcases na b o h with h1 | h1
            · exact n6 b o h1
            · by_cases hbD : b = Dl
              · subst hbD; rw [da] at h; cases h
              · refine .inr ?_
                cases q : H3 b with
                | none => rfl
                | some o' => rw [k6 b o' hbD q] at h1; cases h1
          exact ⟨F10, avs10, e6.trans ea, sa, fun b o hb h => ka b o hb (k6 b o hb h), nn, da, va, ra⟩
        have dn : ∀ {F10 : Hp}, (∀ b o, F10 b = some o → F6 b = some o ∨ H6 b = none) → F10 Dl = none := fun {F10} h => by
          cases q : F10 Dl with
          | none => rfl
          | some o =>
            rcases h _ _ q with q | q
            · rw [d6] at q; cases q
            · rw [v6] at q; cases q
        have k9 : Ext H6 H9 := by have := E9.keep; rwa [pG_hv] at this
        by_cases hbj : b1 t j = true
        · simp only [hbj, if_true]
          refine ⟨⟨F6, H6, ft1 t j (wipeE (ρt t) vs1), xe t j⟩, hel t j ht hb hj hbj, F9, E9, fun F10 H10 yv e10 E10 r10 => ?_⟩
          have k10 : Ext H6 H10 := by have := E10.keep; rwa [pG_hv] at this
          have n10 : ∀ b o, F10 b = some o → F6 b = some o ∨ H6 b = none := E10.new
          have d10 := dn n10
          have lj : (inL (xe t) (b1 t) j).length + 1 ≤ (inL (xe t) (b1 t) (m1 t)).length := by
            have := inL_le (x := xe t) (b := b1 t) (j := j + 1) (m1 t - (j + 1))
            rw [show j + 1 + (m1 t - (j + 1)) = m1 t by omega, inL_succ, if_pos hbj, List.length_append] at this
            exact this
          refine ⟨avs6, k10 _ _ v6, ?_, mk F10 _ (avs6 ++ [yv]) (e9.trans e10) (E10.sub.updR d10) (fun b o hb h => by rw [upd_ne hb]; exact k10 b o h) n10 d10 upd_same ?_⟩
          · rw [r6.length, List.length_append]; omega
          · rw [inL_succ, if_pos hbj, ← List.append_assoc]
            exact (Reps.mono (e9.trans e10) _ _ r6).append (.one r10)
        · simp only [hbj, if_false]
          refine mk F9 H9 avs6 e9 E9.sub (fun b o _ h => k9 b o h) E9.new (dn E9.new) (k9 _ _ v6) ?_
          rw [inL_succ, if_neg hbj]
          exact Reps.mono e9 _ _ r6
      · rintro H6 ⟨F6, avs6, e6, s6, k6, n6, d6, v6, r6⟩
        refine fin F6 H6 avs6 ((e4.trans e5').trans e6) s6 k6 n6 d6 v6 ?_
        rw [preL_succ]
        show Reps X.K F6 (preL out t ++ if bt t = true then _ else []) avs6
        rw [if_pos hb]; exact r6
    · simp only [hb, if_false]
      refine fin F4 H4 avs e4 E4.sub (fun b o _ h => k4 b o h) n4 d4 (k4 _ _ l13) ?_
      rw [preL_succ]
      show Reps X.K F4 (preL out t ++ if bt t = true then _ else []) avs
      rw [if_neg hb, List.append_nil]
      exact Reps.mono e4 _ _ l2
  · rintro H' ⟨F', avs, e2, E2, l1, l2, l3, l4, l5⟩
    exact q F' H' _ (e1.trans e2) E2 ⟨Dl, avs, rfl, l1, l3, l4, l2, l5⟩
end
end DL
/-! DL18: defs with their names; calls of them, with keywords too. -/
namespace DL
open PySem L2 PyProof.Rows
/-- how a def's arguments bind that all come by keywords, in the parameters' order -/
structure KB0 (K : PySem.W.Frag) (fd : FuncData) (ps : List Str) : Prop where
  to : ∀ (s : Shared) (ws : List Value), K.In s.heap → ws.length = ps.length → BindsTo s fd ⟨[], ps.zip ws⟩ (ps.zip ws)
/-- a def of the module as it stands behind the top -/
structure DefAt (K : PySem.W.Frag) (mg : Str → Option Value) (x : Str) (st : Stmt) (ps : List Str) : Prop where
  ex : ∃ (f : Addr) (fd : FuncData), Fun K x x st f fd ∧ mg x = some (.ref f) ∧ PySem.W.keepIn K (.ref f) = true ∧ Binds K fd ps [] ∧ KB0 K fd ps
/-- a def that may be called by its name -/
structure CalD (P : Program) (w : World) (K : PySem.W.Frag) (mg : Str → Option Value) (base : Heap) (k : Nat) (x : Str) (ps : List Str) (sp : Sp) : Prop where
  ex : ∃ (f : Addr) (fd : FuncData), FnOk P w K mg base CX0 k f fd ps sp ∧ mg x = some (.ref f) ∧ PySem.W.keepIn K (.ref f) = true ∧ Binds K fd ps [] ∧ KB0 K fd ps
section
variable {P : Program} {w : World} {K : PySem.W.Frag} {mg : Str → Option Value} {base : Heap} {x : Str} {st : Stmt} {ps : List Str}
theorem calD {N : List Str} {k : Nat} {args outs : List Slot} {r : Slot} (T : DefAt K mg x st ps) (S : FnScope N ps (defScope st)) (hl : args.length = ps.length) (ho : OwnTo outs args)
    (hbody : ∀ (f : Addr) (cdv : Value) (A : Around) (outer : List PySem.Env) (s : Shared) (H F0 : Hp) (vs : List V) (E : XK), Room k (A.deeper (envOfC x (defScope st) s.heap.objs.size f cdv)) →
      BD (cxOf CX0 P w K mg base N x (defScope st) f cdv A outer s H E).nox (callG F0 H vs args) (defBody st) (startE N args) (EndP args r outs)) : CalD P w K mg base (k + 1) x ps (spD K args r outs) := by
  obtain ⟨f, fd, F, h1, h2, h3, h4⟩ := T.ex
  exact ⟨f, fd, fnD F S hl ho (hbody f), h1, h2, h3, h4⟩
end
section
variable {X : Cx} {G G' : Gx} {e a b c o : Expr} {ρ ρ' ρ0 ρ1 ρ2 ρ3 : DL.Env} {r s z s1 s2 : Slot} {d x y w : D} {ds es : List D} {K : PySem.W.Frag} {F F1 F' H H' Hb H0 : Hp} {σ : L2.St} {v u : V} {pos p p2 q2 apos cpos tpos kpos : Pos} {k k1 k2 k3 : Bool} {n : Str} {xs : List Expr} {m i j kk : Nat} {P : Out → Prop} {elts : List Expr} {as : List ArgS} {args outs : List Slot} {ps : List Str} {kws : List Keyword}
theorem ed_cal (C : CalD X.prog X.w X.K X.mg X.base kk n ps (spD X.K args r outs)) (hr : Room j X.A) (hk : kk ≤ j) (hg : Gl X n) (ha : EAs X G (a :: xs) ρ ρ1 as) (ht : ArgsTo ρ1 as args) (nd : (varsOf as).Nodup) (ho : OwnTo outs args) (hres : ResOk r) (hdb : (n == ("__debug__" : Str)) = false := by decide)
    (he : starEach (a :: xs) X.env = (false, eval a X.env) :: starEach xs X.env := by rfl) (hpl : (backTo pos (starEach xs X.env)).any (·.1) = false := by rfl) : ED X G (.Call (.Name n p) (a :: xs) [] pos) ρ (backE ρ1 as outs) r := by
  obtain ⟨f, fd, Fo, h1, h2, h3, _⟩ := C.ex
  exact ed_call Fo (hr.mono hk) hg h1 h2 h3 ha ht nd ho hres hdb he hpl
/-- keywords in the parameters' order -/
theorem pe_callK0 {sp : Sp} {t : TA} {f : Addr} {fd : FuncData} {CX : CXT} {E : XK} (F : FnOk X.prog X.w X.K X.mg X.base CX kk f fd ps sp) (hr : Room kk X.A) (hg : Gl X n) (hm : X.mg n = some (.ref f)) (hk : PySem.W.keepIn X.K (.ref f) = true) (hb : KB0 X.K fd ps) (hx : Passes CX X E)
    (hkw : PK X kws t) (hall : (backToKw pos (keywordEach kws X.env)).all (·.1.isSome) = true := by rfl) (hks : (backToKw pos (keywordEach kws X.env)).filterMap (·.1) = ps := by rfl)
    (hdb : (n == ("__debug__" : Str)) = false := by decide) (hpl : ((backTo pos (starEach [] X.env)).any (·.1) || (backToKw pos (keywordEach kws X.env)).any (·.1.isNone)) = false := by rfl) :
    PE X (.Call (.Name n p) [] kws pos) (fun σ H Q => t σ H fun zs H1 => sp zs H1 Q E) := by
  refine ⟨fun pins s σ H Q I h => ?_⟩
  refine wpAny_Call_Name_kw (ld_glob I hg hm ?_ hdb)
  refine PySem.W.callWith_KW0 (h₀ := X.base) I.ok.mod.kin hk hall (thn (hkw.run pos pins s σ H _ I h) fun ws s2 ⟨zs, H2, I2, rz, q2⟩ => ⟨I2.kIn, ?_⟩) hpl
  rw [hks]
  have hl : ws.length = ps.length := by rw [← rz.length]; exact F.len _ _ _ _ q2
  refine wpAny_call (codeAny_mono (F.run X.A X.stack s2 H2 ⟨[], ps.zip ws⟩ ws zs Q E hr I2.env0 (hb.to s2 ws I2.kIn hl) rz q2) fun r s' hq => ?_)
  match r, hq with
  | .error er, hq => exact hx pins σ H2 s2 er s' I2 hq
  | .ok (.ret u), hq => exact I2.after hq
  | .ok .next, hq => exact hq.elim
  | .ok .brk, hq => exact hq.elim
  | .ok .cont, hq => exact hq.elim
abbrev EKs (X : Cx) (G : Gx) (kws : List Keyword) (ρ ρ' : DL.Env) (as : List ArgS) : Prop := PK X kws (tAs X.K G ρ ρ' as)
theorem pk_mono {t t' : TA} (h : PK X kws t) (i : ∀ σ H Q, t' σ H Q → t σ H Q) : PK X kws t' := ⟨fun p pins s σ H Q I q => h.run p pins s σ H Q I (i σ H Q q)⟩
theorem ks_nil : EKs X G [] ρ ρ [] := pk_mono pk_nil fun σ H Q ⟨F, E, q⟩ => q F H [] (Ext.refl _) E rfl
theorem ks_ex {nm : Option Str} (ha : ED X G a ρ ρ1 (.v k d)) (hr : EKs X G kws ρ1 ρ2 as) : EKs X G (⟨nm, a, kpos⟩ :: kws) ρ ρ2 (.ex k d :: as) :=
  pk_mono (pk_cons ha hr) fun σ H Q ⟨F, E, q⟩ => ⟨F, E, fun F1 H1 v e1 E1 r1 => ⟨F1, E1, fun F2 H2 vs e2 E2 r2 => q F2 H2 (v :: vs) (e1.trans e2) E2 ⟨v, vs, rfl, Rep.mono (at_ext e2) _ _ r1, r2⟩⟩⟩
theorem ks_own {nm : Option Str} (hN : X.N[i]? = some n) (hv : Vis X.env.scope n) (h0 : ρ[i]? = some (some (.own ds))) (hr : EKs X G kws ρ ρ2 as) (hd : (n == ("__debug__" : Str)) = false := by decide) (hcd : (n == ("__classdict__" : Str)) = false := by decide) : EKs X G (⟨nm, .Name n p, kpos⟩ :: kws) ρ ρ2 (.var i :: as) :=
  pk_mono (pk_cons (pe_var hN hv hd hcd) hr) fun σ H Q ⟨F, E, q⟩ => by
    obtain ⟨a, vs, h1, _⟩ := E.own i ds h0
    exact ⟨_, h1, F, E, fun F2 H2 ws e2 E2 r2 => q F2 H2 (V.ref a :: ws) e2 E2 ⟨_, ws, rfl, h1, r2⟩⟩
/-- f(x = e, ..), all parameters by keywords, in their order -/
theorem ed_calK (C : CalD X.prog X.w X.K X.mg X.base kk n ps (spD X.K args r outs)) (hr : Room j X.A) (hk : kk ≤ j) (hg : Gl X n) (ha : EKs X G kws ρ ρ1 as) (ht : ArgsTo ρ1 as args) (nd : (varsOf as).Nodup) (ho : OwnTo outs args) (hres : ResOk r)
    (hall : (backToKw pos (keywordEach kws X.env)).all (·.1.isSome) = true := by rfl) (hks : (backToKw pos (keywordEach kws X.env)).filterMap (·.1) = ps := by rfl)
    (hdb : (n == ("__debug__" : Str)) = false := by decide) (hpl : ((backTo pos (starEach [] X.env)).any (·.1) || (backToKw pos (keywordEach kws X.env)).any (·.1.isNone)) = false := by rfl) : ED X G (.Call (.Name n p) [] kws pos) ρ (backE ρ1 as outs) r := by
  obtain ⟨f, fd, Fo, h1, h2, _, h4⟩ := C.ex
  exact pe_mono (pe_callK0 (E := fun _ _ _ => False) Fo (hr.mono hk) hg h1 h2 h4 (fun _ _ _ _ _ _ _ h => h.elim) ha hall hks hdb hpl) fun σ H Q ⟨F, E, q⟩ => ⟨F, E, fun F1 H1 vs e1 E1 r1 => call_sp E1 e1 r1 ht nd ho hres q⟩
end
end DL
/-! DL19: comprehensions of one clause whose turns leave the frame as it is. -/
namespace DL
open PySem L2 PyProof.Rows
section
variable {X : Cx} {G G' : Gx} {e a b c o : Expr} {ρ ρ' ρ0 ρ1 ρ2 ρ3 : DL.Env} {r s z s1 s2 : Slot} {d x y w : D} {ds es : List D} {pos p p2 q2 apos cpos tpos kpos : Pos} {k k1 k2 k3 : Bool} {n : Str} {xs : List Expr} {m i j kk : Nat}
theorem cd_lcP {elt tg iter : Expr} {scope : Scope} {own : List (Str × Nat)} {g : TG} {ix vs : List Nat} {it : Nat → Yld} {ft : Nat → DL.Env → DL.Env} {acc : List D} {f : Nat → D} (ok : BlkOk X.N X.env.scope scope own) (hvs : own.map (·.2) = vs) (hc : X.calm = true) (hN : X.N.Nodup)
    (hw : WD X G tg iter ρ ρ1 m it) (hg : ∀ (s : Shared) (H : Hp) (C : Addr) (cl : List (Str × Addr)) (fp : List Addr), PG (X.blk s H scope (compEnvC scope cl C X.env) fp) tg g) (hy : ∀ t, t < m → TgR X.K G g ix (it t) (ft t) ∧ FtOk ix (ft t)) (hix : ∀ i ∈ ix, i ∈ vs) (hm : ∀ i ∈ vs, G.ms[i]? ≠ some true) (hz : m ≤ sizeLine)
    (hel : ∀ t, t < m → ElD X scope elt (ft t (wipeE ρ1 vs)) (ft t (wipeE ρ1 vs)) (f t)) (hmg : ∀ t, t < m → mergeE 0 ρ1 (ft t (wipeE ρ1 vs)) vs = ρ1) (hacc : (List.range m).map f = acc)
    (hs : ∀ x, foldedSetIterable iter X.env x = pure x := by intro _; rfl) : CD X G (.ListComp elt [⟨tg, iter, [], 0⟩] scope pos) ρ ρ1 acc := by
  refine cd_lc (fun t ρ' acc => ρ' = ρ1 ∧ acc = (List.range t).map f) ok hvs hc hN hw hg hy hix hm hz ⟨rfl, rfl⟩ ?_ ?_ ?_ hs
  · rintro t ρ' acc ⟨_, rfl⟩; simp
  · rintro t ρ' acc ht ⟨rfl, rfl⟩
    exact ⟨_, f t, hel t ht, hmg t ht, by rw [List.range_succ, List.map_append]; rfl⟩
  · rintro ρ' acc' ⟨rfl, rfl⟩
    exact ⟨rfl, hacc⟩
theorem cd_lcIP {c : Expr} {elt tg iter : Expr} {scope : Scope} {own : List (Str × Nat)} {g : TG} {ix vs : List Nat} {it : Nat → Yld} {ft : Nat → DL.Env → DL.Env} {acc : List D} {f : Nat → D} {b : Nat → Bool} (ok : BlkOk X.N X.env.scope scope own) (hvs : own.map (·.2) = vs) (hc : X.calm = true) (hN : X.N.Nodup)
    (hw : WD X G tg iter ρ ρ1 m it) (hg : ∀ (s : Shared) (H : Hp) (C : Addr) (cl : List (Str × Addr)) (fp : List Addr), PG (X.blk s H scope (compEnvC scope cl C X.env) fp) tg g) (hy : ∀ t, t < m → TgR X.K G g ix (it t) (ft t) ∧ FtOk ix (ft t)) (hix : ∀ i ∈ ix, i ∈ vs) (hm : ∀ i ∈ vs, G.ms[i]? ≠ some true) (hz : m ≤ sizeLine)
    (hb : ∀ t, t < m → TsD X scope c (ft t (wipeE ρ1 vs)) (ft t (wipeE ρ1 vs)) (b t)) (hel : ∀ t, t < m → b t = true → ElD X scope elt (ft t (wipeE ρ1 vs)) (ft t (wipeE ρ1 vs)) (f t)) (hmg : ∀ t, t < m → mergeE 0 ρ1 (ft t (wipeE ρ1 vs)) vs = ρ1) (hacc : inL f b m = acc)
    (hs : ∀ x, foldedSetIterable iter X.env x = pure x := by intro _; rfl) : CD X G (.ListComp elt [⟨tg, iter, [c], 0⟩] scope pos) ρ ρ1 acc := by
  refine cd_lcI (fun t ρ' acc => ρ' = ρ1 ∧ acc = inL f b t) ok hvs hc hN hw hg hy hix hm hz ⟨rfl, rfl⟩ ?_ ?_ ?_ hs
  · rintro t ρ' acc ⟨_, rfl⟩
    have := inL_le (x := f) (b := b) (j := 0) t
    unfold inL
    rw [List.length_map]
    exact Nat.le_trans (List.length_filter_le _ _) (by simp)
  · rintro t ρ' acc ht ⟨rfl, rfl⟩
    exact ⟨b t, hb t ht, fun hbt => ⟨_, f t, hel t ht hbt, hmg t ht, by rw [inL_succ, if_pos hbt]⟩, fun hbt => ⟨hmg t ht, by rw [inL_succ, if_neg (by rw [hbt]; exact Bool.false_ne_true)]⟩⟩
  · rintro ρ' acc' ⟨rfl, rfl⟩
    exact ⟨rfl, hacc⟩
/-- a name's own list is given away -/
theorem ed_varM {i : Nat} (hN : X.N[i]? = some n) (hv : Vis X.env.scope n) (h : ρ[i]? = some (some (.own ds))) (hm : G.ms[i]? ≠ some true) (hd : (n == ("__debug__" : Str)) = false := by decide) (hcd : (n == ("__classdict__" : Str)) = false := by decide) : ED X G (.Name n pos) ρ (ρ.set i none) (.own ds) :=
  pe_mono (pe_var hN hv hd hcd) fun σ H Q ⟨F, E, q⟩ => by
    obtain ⟨a, vs, h1, h2, h3, h4, h5⟩ := E.own i ds h
    refine ⟨V.ref a, h1, q F H _ (Ext.refl _) (E.drop i) ⟨a, vs, rfl, h2, h3, ?_, h5, fun j es hj hs => ?_⟩⟩
    · rcases h4 with h4 | h4
      · exact h4
      · exact absurd h4 hm
    · by_cases hij : i = j
      · subst hij
        have := getset_eq hj
        cases this
      · rw [getset_ne hij] at hj
        exact E.inj i j a ds es hij h hj h1 hs
/-- a look at a comprehension's scope -/
def blkC (N : List Str) (sc scope : Scope) (own : List (Str × Nat)) : Bool :=
  decide (scope.kind = .function) && scope.names.all (fun y => decide (scope.names.lookup y.1 = some y.2)) && own.all (fun p => decide (N[p.2]? = some p.1)) &&
  scope.names.all (fun y => !decide (y.2 = .free) || (decide (sc.names.lookup y.1 = some .cell) || decide (sc.names.lookup y.1 = some .free))) &&
  scope.names.all (fun y => !(decide (y.2 = .local) || decide (y.2 = .cell)) || (decide (y.1 ∈ own.map (·.1)) || !decide (y.1 ∈ N)))
theorem blk_by {N : List Str} {sc scope : Scope} {own : List (Str × Nat)} (h : blkC N sc scope own = true) : BlkOk N sc scope own := by
  unfold blkC at h
  simp only [Bool.and_eq_true, Bool.or_eq_true, Bool.not_eq_true', decide_eq_true_eq, decide_eq_false_iff_not, List.all_eq_true] at h
  obtain ⟨⟨⟨⟨h1, h2⟩, h3⟩, h4⟩, h5⟩ := h
  refine ⟨h1, h2, h3, fun y hy e => ?_, fun y hy e => ?_⟩
  · rcases h4 y hy with q | q
    · exact absurd e q
    · exact q
  · rcases h5 y hy with q | q
    · rcases e with e | e <;> simp [e] at q
    · exact q
/-- over a list: what comes out -/
theorem range_getD {α β : Type} (ds : List α) (dx : α) (f : α → β) : (List.range ds.length).map (fun t => f (ds.getD t dx)) = ds.map f := by
  apply List.ext_getElem
  · simp
  · intro i h1 h2
    simp only [List.getElem_map, List.getElem_range]
    rw [List.getD_eq_getElem?_getD, List.getElem?_eq_getElem (by simpa using h2)]
    rfl
theorem inL_getD {α : Type} (ds : List α) (dx : α) (f : α → D) (b : α → Bool) : inL (fun t => f (ds.getD t dx)) (fun t => b (ds.getD t dx)) ds.length = (ds.filter b).map f := by
  unfold inL
  have h : ∀ n, n ≤ ds.length → (List.filter (fun t => b (ds.getD t dx)) (List.range n)).map (fun t => f (ds.getD t dx)) = ((ds.take n).filter b).map f := by
    intro n
    induction n with
    | zero => intro _; rfl
    | succ n ih =>
      intro hn
      have hlt : n < ds.length := hn
      rw [List.range_succ, List.filter_append, List.map_append, ih (Nat.le_of_lt hlt), List.take_add_one, List.getElem?_eq_getElem hlt, List.filter_append, List.map_append]
      congr 1
      have e : ds.getD n dx = ds[n] := by rw [List.getD_eq_getElem?_getD, List.getElem?_eq_getElem hlt]; rfl
      cases hb : b ds[n] with
      | true =>
        have h1 : List.filter (fun t => b (ds.getD t dx)) [n] = [n] := by rw [List.filter_cons_of_pos (by rw [e]; exact hb)]; rfl
        have h2 : List.filter b (some ds[n]).toList = [ds[n]] := by show List.filter b [ds[n]] = _; rw [List.filter_cons_of_pos hb]; rfl
        rw [h1, h2, List.map_cons, List.map_cons, e]; rfl
      | false =>
        have h1 : List.filter (fun t => b (ds.getD t dx)) [n] = [] := by rw [List.filter_cons_of_neg (by rw [e, hb]; exact Bool.false_ne_true)]; rfl
        have h2 : List.filter b (some ds[n]).toList = [] := by show List.filter b [ds[n]] = _; rw [List.filter_cons_of_neg (by rw [hb]; exact Bool.false_ne_true)]; rfl
        rw [h1, h2]; rfl
  rw [h ds.length (Nat.le_refl _), List.take_of_length_le (Nat.le_refl _)]
end
end DL
/-! RL0: the text of a def, put into few forms (CE, CS), and what it does to plain data (evE, evB). -/
namespace RL
open PySem L2 DL PyProof.Rows PySem.W
inductive Bf where
  | len | int | str | list | tuple | sum | all | any | sorted | lenSet
  deriving DecidableEq, Repr
inductive Tgt where
  | nm (i : Nat)
  | tp (ix : List Nat)
def Tgt.ix : Tgt → List Nat
  | .nm i => [i]
  | .tp ix => ix
inductive CE where
  | nil
  | cons (a r : CE)
  | star (a r : CE)
  | var (i : Nat)
  | cst (d : D)
  | bin (op : Operator) (a b : CE)
  | neg (a : CE)
  | no (a : CE)
  | one (a : CE)
  | conj (a r : CE)
  | disj (a r : CE)
  | bool (a : CE)
  | cmp (op : CmpOp) (a b : CE)
  | chain (o1 o2 : CmpOp) (a b c : CE)
  | ite (c a b : CE)
  | idx (a b : CE)
  | sl (a lo hi : CE)
  | lst (es : CE)
  | tup (es : CE)
  | fn (f : Bf) (a : CE)
  | isi (a : CE) (Ts : List String)
  | call (f : Nat) (es : CE)
  | app (i : Nat) (a : CE)
  | ext (i : Nat) (a : CE)
  | pop (i : Nat) (a : CE)
  | rev (i : Nat)
  | count (a b : CE)
  | join (a b : CE)
  | comp (e w : CE) (tg : Tgt) (vs : List Nat)
  | compI (e c w : CE) (tg : Tgt) (vs : List Nat)
  | wrange (a : CE)
  | wzip (a b : CE)
  | wenum (a : CE)
  | dk0
  | comp2 (e w w1 : CE) (tg tg1 : Tgt) (vs vs1 : List Nat)
/-! ### what the operators do -/
abbrev CC := Nat → List Slot → Option (Slot × List Slot)
def toV : Slot → Option D
  | .v k d => if k = true ∨ isSc d = true then some d else none
  | .own ds => some (.lst ds)
def fixS : Slot → Slot
  | .own ds => .val (.lst ds)
  | s => s
def intS : Slot → Option Int
  | .v _ (.int i) => some i
  | _ => none
def blS : Slot → Option Bool
  | .v _ (.bl i) => some i
  | _ => none
def strS : Slot → Option Str
  | .v _ (.str i) => some i
  | _ => none
open Classical in
noncomputable def chk {α : Type} (p : Prop) (x : Option α) : Option α := if p then x else none
theorem chk_pos {α : Type} {p : Prop} {x : Option α} (h : p) : chk p x = x := if_pos h
theorem chk_some {α : Type} {p : Prop} {x : Option α} {y : α} (h : chk p x = some y) : p ∧ x = some y := by
  unfold chk at h
  split at h
  · rename_i hp; exact ⟨hp, h⟩
  · cases h
noncomputable def addS : Slot → Slot → Option Slot
  | .v _ (.int i), .v _ (.int j) => some (.val (.int (i + j)))
  | .v _ (.str i), .v _ (.str j) => chk (i.length + j.length ≤ sizeLine) (some (.val (.str (i ++ j))))
  | .v true (.lst i), .v true (.lst j) => chk (i.length + j.length ≤ sizeLine) (some (.own (i ++ j)))
  | _, _ => none
noncomputable def binS : Operator → Slot → Slot → Option Slot
  | .Add, a, b => addS (fixS a) (fixS b)
  | .Sub, a, b => (intS a).bind fun i => (intS b).bind fun j => some (.val (.int (i - j)))
  | .Mult, a, b => (intS a).bind fun i => (intS b).bind fun j => chk (CMul i j) (some (.val (.int (i * j))))
  | .FloorDiv, a, b => (intS a).bind fun i => (intS b).bind fun j => chk (CDiv i j) (some (.val (.int (i / j))))
  | .Mod, a, b => (intS a).bind fun i => (intS b).bind fun j => chk (0 < j) (some (.val (.int (i % j))))
  | .Pow, a, b => (intS a).bind fun i => (intS b).bind fun j => chk (CPow i j) (some (.val (.int (i ^ j.toNat))))
  | _, _, _ => none
def eqS : D → D → Option Bool
  | .int i, .int j => some (decide (i = j))
  | .str i, .str j => some (decide (i = j))
  | .bl i, .bl j => some (decide (i = j))
  | _, _ => none
def cmpI : CmpOp → Int → Int → Option Bool
  | .Lt, i, j => some (decide (i < j))
  | .LtE, i, j => some (decide (i ≤ j))
  | .Gt, i, j => some (decide (j < i))
  | .GtE, i, j => some (decide (j ≤ i))
  | _, _, _ => none
/-- c in t, for a text; x in a list or a tuple -/
noncomputable def inS : Slot → Slot → Option Bool
  | .v _ (.str x), .v _ (.str t) => chk (x.cps.size = 1) (some (decide (x.cps.getD 0 0 ∈ t.cps.toList)))
  | .v _ x, .v _ (.lst ds) => chk (flatD x = true ∧ ds.all flatD = true) (some (inD x ds))
  | .v _ x, .v _ (.tup ds) => chk (flatD x = true ∧ ds.all flatD = true) (some (inD x ds))
  | _, _ => none
def datS : Slot → D
  | .v _ d => d
  | .own ds => .lst ds
/-- a comparison of plain data -/
def cmpD (op : CmpOp) (x y : D) : Option Bool :=
  match op with
  | .Eq => eqS x y
  | .NotEq => (eqS x y).map (!·)
  | op => match x, y with
    | .int i, .int j => cmpI op i j
    | _, _ => none
/-- lists of two lengths are not equal, whatever stands in them -/
noncomputable def eqL (x y : D) : Option Bool := match x, y with
  | .lst ds, .lst es => chk (ds.length ≠ es.length) (some false)
  | _, _ => none
noncomputable def eqX (x y : D) : Option Bool :=
  Option.or (eqS x y) (Option.or (eqL x y) (chk (dataD x = true ∧ dataD y = true ∧ SeqAt.shaped (pyD x) = true ∧ SeqAt.shaped (pyD y) = true) (some (PyData.eqv (pyD x) (pyD y)))))
noncomputable def cmpS (op : CmpOp) (a b : Slot) : Option Bool :=
  match op with
  | .In => inS (fixS a) (fixS b)
  | .NotIn => (inS (fixS a) (fixS b)).map (!·)
  | .Is => match datS b with
    | .non => some (isNon (datS a))
    | _ => none
  | .IsNot => match datS b with
    | .non => some (!isNon (datS a))
    | _ => none
  | .Eq => eqX (datS a) (datS b)
  | .NotEq => (eqX (datS a) (datS b)).map (!·)
  | op => cmpD op (datS a) (datS b)
noncomputable def idxS : Slot → Int → Option Slot
  | .v k (.lst ds), j => (atI ds j).map (.v k)
  | .v k (.tup ds), j => (atI ds j).map (.v k)
  | .v _ (.str s), j => (atI s.cps.toList j).bind fun c => chk (s.length ≤ sizeLine) (some (.val (.str ⟨#[c]⟩)))
  | _, _ => none
noncomputable def lenS : Slot → Option Nat
  | .v _ (.lst ds) => some ds.length
  | .v _ (.tup ds) => some ds.length
  | .own ds => some ds.length
  | .v _ (.str s) => chk (s.length ≤ sizeLine) (some s.length)
  | _ => none
/-- the items of a list, or of a tuple, that may be kept -/
noncomputable def itemsS : Slot → Option (List D)
  | .own ds => some ds
  | .v k (.lst ds) => chk (k = true ∨ ds.all isSc = true) (some ds)
  | .v k (.tup ds) => chk (k = true ∨ ds.all isSc = true) (some ds)
  | _ => none
def seqS : Slot → Option (Bool × List D)
  | .own ds => some (true, ds)
  | .v k (.lst ds) => some (k, ds)
  | .v k (.tup ds) => some (k, ds)
  | _ => none
def lstS : Slot → Option (List D)
  | .own ds => some ds
  | .v _ (.lst ds) => some ds
  | _ => none
noncomputable def lstK : Slot → Option (List D)
  | .own ds => some ds
  | .v k (.lst ds) => chk (k = true ∨ ds.all isSc = true) (some ds)
  | _ => none
noncomputable def slS (s : Slot) (l h : Option Int) : Option Slot :=
  match s with
  | .v _ (.str t) => chk (t.length ≤ sizeLine) (some (.val (.str (cutS t l h))))
  | s => (lstK s).bind fun ds => some (.own (cutD ds l h))
def intsOf : List D → Option (List Int)
  | [] => some []
  | .int i :: r => (intsOf r).map (i :: ·)
  | _ => none
def blsOf : List D → Option (List Bool)
  | [] => some []
  | .bl i :: r => (blsOf r).map (i :: ·)
  | _ => none
def strsOf : List D → Option (List Str)
  | [] => some []
  | .str i :: r => (strsOf r).map (i :: ·)
  | _ => none
def keysOf : List D → Option (List Key)
  | [] => some []
  | .str i :: r => (keysOf r).map (.inr i :: ·)
  | .int i :: r => (keysOf r).map (.inl i :: ·)
  | _ => none
theorem intsOf_eq : ∀ {ds : List D} {ns : List Int}, intsOf ds = some ns → ds = ns.map D.int
  | [], ns, h => by cases h; rfl
  | d :: ds, ns, h => by
    cases d <;> first | (cases h; done) | skip
    simp only [intsOf, Option.map_eq_some_iff] at h
    obtain ⟨r, h1, rfl⟩ := h
    rw [intsOf_eq h1]; rfl
theorem blsOf_eq : ∀ {ds : List D} {ns : List Bool}, blsOf ds = some ns → ds = ns.map D.bl
  | [], ns, h => by cases h; rfl
  | d :: ds, ns, h => by
    cases d <;> first | (cases h; done) | skip
    simp only [blsOf, Option.map_eq_some_iff] at h
    obtain ⟨r, h1, rfl⟩ := h
    rw [blsOf_eq h1]; rfl
theorem strsOf_eq : ∀ {ds : List D} {ns : List Str}, strsOf ds = some ns → ds = ns.map D.str
  | [], ns, h => by cases h; rfl
  | d :: ds, ns, h => by
    cases d <;> first | (cases h; done) | skip
    simp only [strsOf, Option.map_eq_some_iff] at h
    obtain ⟨r, h1, rfl⟩ := h
    rw [strsOf_eq h1]; rfl
theorem keysOf_eq : ∀ {ds : List D} {ns : List Key}, keysOf ds = some ns → ds = ns.map keyD
  | [], ns, h => by cases h; rfl
  | d :: ds, ns, h => by
    cases d <;> first | (cases h; done) | skip
    · simp only [keysOf, Option.map_eq_some_iff] at h
      obtain ⟨r, h1, rfl⟩ := h
      rw [keysOf_eq h1]; rfl
    · simp only [keysOf, Option.map_eq_some_iff] at h
      obtain ⟨r, h1, rfl⟩ := h
      rw [keysOf_eq h1]; rfl
theorem intsOf_map (ns : List Int) : intsOf (ns.map D.int) = some ns := by
  induction ns with
  | nil => rfl
  | cons n ns ih => simp [intsOf, ih]
theorem blsOf_map (ns : List Bool) : blsOf (ns.map D.bl) = some ns := by
  induction ns with
  | nil => rfl
  | cons n ns ih => simp [blsOf, ih]
theorem strsOf_map (ns : List Str) : strsOf (ns.map D.str) = some ns := by
  induction ns with
  | nil => rfl
  | cons n ns ih => simp [strsOf, ih]
theorem keysOf_map (ns : List Str) : keysOf (ns.map D.str) = some (ns.map Sum.inr) := by
  induction ns with
  | nil => rfl
  | cons n ns ih => simp [keysOf, ih]
noncomputable def tupF : Slot → Option Slot
  | .v k (.tup ds) => some (.v k (.tup ds))
  | s => (lstK s).bind fun ds => some (.val (.tup ds))
noncomputable def fnS : Bf → Slot → Option Slot
  | .len, s => (lenS s).bind fun n => some (.val (.int (n : Nat)))
  | .int, s => (intS s).bind fun i => some (.val (.int i))
  | .str, s => (intS s).bind fun i => chk (i.natAbs.log2 < 1920) (some (.val (.str (Str.ofString (toString i)))))
  | .list, s => (itemsS s).bind fun ds => some (.own ds)
  | .tuple, s => tupF s
  | .sum, s => (seqS s).bind fun q => (intsOf q.2).bind fun ns => some (.val (.int ns.sum))
  | .all, s => (lstS s).bind fun ds => (blsOf ds).bind fun bs => some (.val (.bl (bs.all id)))
  | .any, s => (lstS s).bind fun ds => (blsOf ds).bind fun bs => some (.val (.bl (bs.any id)))
  | .sorted, s => (lstK s).bind fun ds => chk (ds.all dataD = true ∧ AllAlike (ds.map pyD) ∧ Sortable (ds.map pyD) ∧ ∀ d ∈ ds, (pyD d).depth ≤ 60) (some (.own (ds.mergeSort leD)))
  | .lenSet, s => (seqS s).bind fun q => (keysOf q.2).bind fun ks => chk (ks.length + 1 < scanBound) (some (.val (.int ((metK ks).length : Nat))))
def isiL (d : D) : List String → Bool
  | [] => false
  | [T] => isiD d T
  | T :: r => isiD d T || isiL d r
/-! ### walks -/
structure Wk where
  m : Nat
  it : Nat → Yld
def wkS : Slot → Option Wk
  | .own ds => some ⟨ds.length, fun t => .one (.v true (ds.getD t .non))⟩
  | .v k (.lst ds) => some ⟨ds.length, fun t => .one (.v k (ds.getD t .non))⟩
  | .v k (.tup ds) => some ⟨ds.length, fun t => .one (.v k (ds.getD t .non))⟩
  | .v _ (.str z) => some ⟨z.cps.size, fun t => .one (.val (.str ⟨#[z.cps.getD t 0]⟩))⟩
  | _ => none
noncomputable def bindY : Tgt → Yld → Option (DL.Env → DL.Env)
  | .nm i, .one (.v k d) => some fun ρ => ρ.set i (some (.v k d))
  | .tp ix, .one (.v k (.tup ds)) => chk (ix.length = ds.length) (some fun ρ => setE ρ ix k ds)
  | .tp [i, j], .two k1 d1 k2 d2 => some fun ρ => (ρ.set i (some (.v k1 d1))).set j (some (.v k2 d2))
  | _, _ => none
def compL (f : Nat → DL.Env → Option (Option D × DL.Env)) : Nat → Nat → DL.Env → List D → Option (List D × DL.Env)
  | _, 0, ρ, acc => some (acc, ρ)
  | t, k + 1, ρ, acc => (f t ρ).bind fun q => compL f (t + 1) k q.2 (match q.1 with | some x => acc ++ [x] | none => acc)
/-- one list behind the other -/
def pairL (f : Nat → Option (List D)) : Nat → Option (List D)
  | 0 => some []
  | t + 1 => (pairL f t).bind fun l => (f t).bind fun k => some (l ++ k)
def wkF : Slot → Option Wk
  | .v true (.lst ds) => some ⟨ds.length, fun t => .one (.v true (ds.getD t .non))⟩
  | .v true (.tup ds) => some ⟨ds.length, fun t => .one (.v true (ds.getD t .non))⟩
  | .v _ (.str z) => some ⟨z.cps.size, fun t => .one (.val (.str ⟨#[z.cps.getD t 0]⟩))⟩
  | _ => none
/-! ### calls -/
def ownVar : CE → DL.Env → Option Nat
  | .var i, ρ => match ρ[i]? with
    | some (some (.own _)) => some i
    | _ => none
  | _, _ => none
def argOf : Slot → ArgS
  | .v k d => .ex k d
  | .own ds => .ex true (.lst ds)
def argTo (ρ : DL.Env) : Bool → ArgS → Option Slot
  | false, .ex k d => some (.v (k || isSc d) d)
  | true, .var i => match ρ[i]? with
    | some (some (.own ds)) => some (.own ds)
    | _ => none
  | false, .var i => match ρ[i]? with
    | some (some (.own ds)) => some (.v false (.lst ds))
    | _ => none
  | _, _ => none
def argsTo (ρ : DL.Env) : List Bool → List ArgS → Option (List Slot)
  | [], [] => some []
  | m :: ms, a :: as => (argTo ρ m a).bind fun s => (argsTo ρ ms as).bind fun r => some (s :: r)
  | _, _ => none
structure Cs where
  C : CC
  M : Nat → List Bool
noncomputable def callS (c : Cs) (f : Nat) (q : List ArgS × DL.Env) : Option (Slot × DL.Env) :=
  (argsTo q.2 (c.M f) q.1).bind fun args => chk ((varsOf q.1).Nodup) ((c.C f args).bind fun w => some (w.1, backE q.2 q.1 w.2))
def frB (ms : List Bool) (i : Nat) : Bool := !(ms.getD i false)
def getO (ρ : DL.Env) (i : Nat) : Option (List D) := match ρ[i]? with
  | some (some (.own ds)) => some ds
  | _ => none
mutual
noncomputable def evE (c : Cs) (ms : List Bool) : CE → DL.Env → Option (Slot × DL.Env)
  | .var i, ρ => match ρ[i]? with
    | some (some (.v k d)) => some (.v k d, ρ)
    | some (some (.own ds)) => chk (frB ms i = true) (some (.val (.lst ds), ρ.set i (some (.val (.lst ds)))))
    | _ => none
  | .cst d, ρ => some (.val d, ρ)
  | .bin op a b, ρ => (evE c ms a ρ).bind fun p => (evE c ms b p.2).bind fun q => (binS op p.1 q.1).bind fun z => some (z, q.2)
  | .neg a, ρ => (evE c ms a ρ).bind fun p => (intS p.1).bind fun i => some (.val (.int (-i)), p.2)
  | .no a, ρ => (evE c ms a ρ).bind fun p => (blS p.1).bind fun k => some (.val (.bl (!k)), p.2)
  | .one a, ρ => (evE c ms a ρ)
  | .conj a r, ρ => (evE c ms a ρ).bind fun p => (blS p.1).bind fun k => if k then evE c ms r p.2 else some (.val (.bl false), p.2)
  | .disj a r, ρ => (evE c ms a ρ).bind fun p => (blS p.1).bind fun k => if k then some (.val (.bl true), p.2) else evE c ms r p.2
  | .cmp op a b, ρ => (evE c ms a ρ).bind fun p => (evE c ms b p.2).bind fun q => (cmpS op p.1 q.1).bind fun z => some (.val (.bl z), q.2)
  | .ite t a b, ρ => (evT c ms t ρ).bind fun p => if p.1 then evE c ms a p.2 else evE c ms b p.2
  | .idx a b, ρ => match ownVar a ρ with
    | some i => (evE c ms b ρ).bind fun q => (intS q.1).bind fun j => (getO q.2 i).bind fun ds => (atI ds j).bind fun d => some (.val d, q.2)
    | none => (evE c ms a ρ).bind fun p => (evE c ms b p.2).bind fun q => (intS q.1).bind fun j => (idxS (fixS p.1) j).bind fun z => some (z, q.2)
  | .sl a lo hi, ρ => (evE c ms a ρ).bind fun p => (evO c ms lo p.2).bind fun l => (evO c ms hi l.2).bind fun h =>
      (slS p.1 l.1 h.1).bind fun z => some (z, h.2)
  | .lst es, ρ => (evA c ms es ρ).bind fun p => chk (p.1.length ≤ sizeLine) (some (.own p.1, p.2))
  | .tup es, ρ => (evA c ms es ρ).bind fun p => chk (p.1.length ≤ sizeLine) (some (.val (.tup p.1), p.2))
  | .fn f a, ρ => match f, ownVar a ρ with
    | .len, some i => (getO ρ i).bind fun ds => some (.val (.int (ds.length : Nat)), ρ)
    | f, _ => (evE c ms a ρ).bind fun p => (fnS f p.1).bind fun z => some (z, p.2)
  | .isi a Ts, ρ => (evE c ms a ρ).bind fun p => chk (plainD (datS p.1) = true) (some (.val (.bl (isiL (datS p.1) Ts)), p.2))
  | .call f es, ρ => (evS c ms es ρ).bind fun q => callS c f q
  | .app i a, ρ => (getO ρ i).bind fun _ => (evE c ms a ρ).bind fun p => (toV p.1).bind fun d => (getO p.2 i).bind fun ds => chk (ds.length < sizeLine) (some (.val .non, p.2.set i (some (.own (ds ++ [d])))))
  | .ext i a, ρ => (getO ρ i).bind fun _ => (evE c ms a ρ).bind fun p => (toV p.1).bind fun d => (getO p.2 i).bind fun ds => match d with
    | .lst es => chk (ds.length + es.length ≤ sizeLine) (some (.val .non, p.2.set i (some (.own (ds ++ es)))))
    | _ => none
  | .pop i a, ρ => (getO ρ i).bind fun _ => (evE c ms a ρ).bind fun p => (intS p.1).bind fun j => (getO p.2 i).bind fun ds => chk (0 ≤ j ∧ j < 2 ^ 63) ((ds[j.toNat]?).bind fun d => some (.val d, p.2.set i (some (.own (ds.eraseIdx j.toNat)))))
  | .rev i, ρ => (getO ρ i).bind fun ds => some (.val .non, ρ.set i (some (.own ds.reverse)))
  | .count a b, ρ => (evE c ms a ρ).bind fun p => (evE c ms b p.2).bind fun q => (seqS p.1).bind fun w => chk (flatD (datS q.1) = true ∧ w.2.all flatD = true) (some (.val (.int (w.2.countP (fun y => eqF y (datS q.1)) : Nat)), q.2))
  | .join a b, ρ => (evE c ms a ρ).bind fun p => (evE c ms b p.2).bind fun q => (strS p.1).bind fun t => (lstS q.1).bind fun ds => (strsOf ds).bind fun ss => chk ((ss.map (·.length)).sum + ss.length * t.length ≤ 16777216) (some (.val (.str (Txt.join t ss)), q.2))
  | .comp e w tg vs, ρ => (evW c ms w ρ).bind fun p => chk (p.1.m ≤ sizeLine ∧ vs.all (frB ms) = true) ((compL (fun t ρ' => (bindY tg (p.1.it t)).bind fun g => (evE c (maskE (g (wipeE ρ' vs))) e (g (wipeE ρ' vs))).bind fun q => (toV q.1).bind fun x => some (some x, mergeE 0 ρ' q.2 vs)) 0 p.1.m p.2 []).bind fun z => some (.own z.1, z.2))
  | .compI e t w tg vs, ρ => (evW c ms w ρ).bind fun p => chk (p.1.m ≤ sizeLine ∧ vs.all (frB ms) = true) ((compL (fun i ρ' => (bindY tg (p.1.it i)).bind fun g => (evT c (maskE (g (wipeE ρ' vs))) t (g (wipeE ρ' vs))).bind fun b => chk (b.2 = g (wipeE ρ' vs)) (
      if b.1 then (evE c (maskE (g (wipeE ρ' vs))) e (g (wipeE ρ' vs))).bind fun q => (toV q.1).bind fun x => some (some x, mergeE 0 ρ' q.2 vs) else some (none, mergeE 0 ρ' (g (wipeE ρ' vs)) vs))) 0 p.1.m p.2 []).bind fun z => some (.own z.1, z.2))
  | .dk0, ρ => some (.val (.dk [] []), ρ)
  | .comp2 e w w1 tg tg1 vs vs1, ρ => (evW c ms w ρ).bind fun p => chk (vs.all (frB ms) = true ∧ vs1.all (fun i => decide (i ∈ vs)) = true) ((pairL (fun t => (bindY tg (p.1.it t)).bind fun g => (evWF c w1 (noOwn (g (wipeE p.2 vs)))).bind fun q =>
      pairL (fun j => (bindY tg1 (q.it j)).bind fun g1 => (evE c [] e (g1 (wipeE (noOwn (g (wipeE p.2 vs))) vs1))).bind fun u => chk (u.2 = g1 (wipeE (noOwn (g (wipeE p.2 vs))) vs1)) ((toV u.1).bind fun d => some [d])) q.m) p.1.m).bind fun acc => chk (acc.length ≤ sizeLine) (some (.own acc, p.2)))
  | _, _ => none
noncomputable def evT (c : Cs) (ms : List Bool) : CE → DL.Env → Option (Bool × DL.Env)
  | .no a, ρ => (evT c ms a ρ).bind fun p => some (!p.1, p.2)
  | .one a, ρ => evT c ms a ρ
  | .bool a, ρ => evT c ms a ρ
  | .conj a r, ρ => (evT c ms a ρ).bind fun p => if p.1 then evT c ms r p.2 else some (false, p.2)
  | .disj a r, ρ => (evT c ms a ρ).bind fun p => if p.1 then some (true, p.2) else evT c ms r p.2
  | .cmp op a b, ρ => (evE c ms a ρ).bind fun p => (evE c ms b p.2).bind fun q => (cmpS op p.1 q.1).bind fun z => some (z, q.2)
  | .chain o1 o2 a b d, ρ => (evE c ms a ρ).bind fun p => (evE c ms b p.2).bind fun q => (cmpD o1 (datS p.1) (datS q.1)).bind fun z => if z then (evE c ms d q.2).bind fun w => chk (w.2 = q.2) ((cmpD o2 (datS q.1) (datS w.1)).bind fun y => some (y, q.2)) else some (false, q.2)
  | .var i, ρ => match ρ[i]? with
    | some (some (.v _ (.bl b))) => some (b, ρ)
    | _ => none
  | .fn f a, ρ => (evE c ms a ρ).bind fun p => (fnS f p.1).bind fun z => (blS z).bind fun b => some (b, p.2)
  | .isi a Ts, ρ => (evE c ms a ρ).bind fun p => chk (plainD (datS p.1) = true) (some (isiL (datS p.1) Ts, p.2))
  | .call f es, ρ => (evS c ms es ρ).bind fun q => (callS c f q).bind fun p => (blS p.1).bind fun b => some (b, p.2)
  | _, _ => none
noncomputable def evO (c : Cs) (ms : List Bool) : CE → DL.Env → Option (Option Int × DL.Env)
  | .nil, ρ => some (none, ρ)
  | .one a, ρ => (evE c ms a ρ).bind fun p => (intS p.1).bind fun i => some (some i, p.2)
  | _, _ => none
noncomputable def evA (c : Cs) (ms : List Bool) : CE → DL.Env → Option (List D × DL.Env)
  | .nil, ρ => some ([], ρ)
  | .cons a r, ρ => (evE c ms a ρ).bind fun p => (toV p.1).bind fun d => (evA c ms r p.2).bind fun q => some (d :: q.1, q.2)
  | .star a r, ρ => (evE c ms a ρ).bind fun p => (itemsS p.1).bind fun ds => (evA c ms r p.2).bind fun q => some (ds ++ q.1, q.2)
  | _, _ => none
noncomputable def evS (c : Cs) (ms : List Bool) : CE → DL.Env → Option (List ArgS × DL.Env)
  | .nil, ρ => some ([], ρ)
  | .cons a r, ρ => match ownVar a ρ with
    | some i => (evS c ms r ρ).bind fun q => some (.var i :: q.1, q.2)
    | none => (evE c ms a ρ).bind fun p => (evS c ms r p.2).bind fun q => some (argOf p.1 :: q.1, q.2)
  | _, _ => none
noncomputable def evW (c : Cs) (ms : List Bool) : CE → DL.Env → Option (Wk × DL.Env)
  | .wrange a, ρ => (evE c ms a ρ).bind fun p => (intS p.1).bind fun h => chk (-(2 ^ 62) ≤ h ∧ h < 2 ^ 62) (some (⟨h.toNat, fun t => .one (.val (.int (t : Int)))⟩, p.2))
  | .wzip a b, ρ => (evE c ms a ρ).bind fun p => (evE c ms b p.2).bind fun q => (seqS p.1).bind fun x => (seqS q.1).bind fun y => some (⟨min x.2.length y.2.length, fun t => .two x.1 (x.2.getD t .non) y.1 (y.2.getD t .non)⟩, q.2)
  | .wenum a, ρ => (evE c ms a ρ).bind fun p => (seqS p.1).bind fun x => some (⟨x.2.length, fun t => .two true (.int (t : Int)) x.1 (x.2.getD t .non)⟩, p.2)
  | .one a, ρ => (evE c ms a ρ).bind fun p => (wkS p.1).bind fun w => some (w, p.2)
  | _, _ => none
noncomputable def evWF (c : Cs) : CE → DL.Env → Option Wk
  | .wrange a, ρ => (evE c [] a ρ).bind fun p => chk (p.2 = ρ) ((intS p.1).bind fun h => chk (-(2 ^ 62) ≤ h ∧ h < 2 ^ 62) (some ⟨h.toNat, fun t => .one (.val (.int (t : Int)))⟩))
  | .one a, ρ => (evE c [] a ρ).bind fun p => chk (p.2 = ρ) (wkF p.1)
  | _, _ => none
end
end RL
/-! RL1: how a text is put into these forms. -/
namespace RL
open PySem L2 DL PyProof.Rows PySem.W
structure Ga where
  N : List Str
  sc : Scope
  top : Bool
  cst : Str → Option D
  fns : Str → Option (Nat × List Str)
  cls : Str → Option Nat
def visB (sc : Scope) (n : Str) : Bool := match sc.names.lookup n with
  | some .local => true
  | some .cell => true
  | some .free => true
  | _ => false
def glB (sc : Scope) (n : Str) : Bool := match sc.names.lookup n with
  | some .globalImplicit => true
  | _ => false
def stB (Γ : Ga) (n : Str) : Bool := match Γ.sc.names.lookup n with
  | some .local => true
  | some .cell => Γ.top
  | _ => false
def okN (n : Str) : Bool := !(n == ("__debug__" : Str)) && !(n == ("__classdict__" : Str))
def ixOf (N : List Str) (n : Str) : Option Nat := N.findIdx? (fun y => decide (y = n))
def cVar (Γ : Ga) (n : Str) : Option Nat := if visB Γ.sc n && okN n then ixOf Γ.N n else none
def nsB : Expr → Bool
  | .Starred .. => false
  | _ => true
def plainB : Expr → Bool
  | .Slice .. => false
  | .Tuple .. => false
  | .Starred .. => false
  | _ => true
def cList (f : Expr → Option CE) : List Expr → Option CE
  | [] => some .nil
  | e :: es => if nsB e then (f e).bind fun a => (cList f es).bind fun r => some (.cons a r) else none
def cDisp (f : Expr → Option CE) : List Expr → Option CE
  | [] => some .nil
  | .Starred e _ :: es => (f e).bind fun a => (cDisp f es).bind fun r => some (.star a r)
  | e :: es => (f e).bind fun a => (cDisp f es).bind fun r => some (.cons a r)
def cConj (f : Expr → Option CE) : List Expr → Option CE
  | [] => none
  | [e] => (f e).map .one
  | e :: es => (f e).bind fun a => (cConj f es).bind fun r => some (.conj a r)
def cDisj (f : Expr → Option CE) : List Expr → Option CE
  | [] => none
  | [e] => (f e).map .one
  | e :: es => (f e).bind fun a => (cDisj f es).bind fun r => some (.disj a r)
def cOpt (f : Expr → Option CE) : Option Expr → Option CE
  | none => some .nil
  | some e => (f e).map .one
def tyN (n : Str) : Option String :=
  if n = "int" then some "int" else if n = "str" then some "str" else if n = "bool" then some "bool" else if n = "list" then some "list" else if n = "tuple" then some "tuple" else if n = "dict" then some "dict" else none
def bfN (n : Str) : Option Bf :=
  if n = "len" then some .len else if n = "int" then some .int else if n = "str" then some .str else if n = "list" then some .list else if n = "tuple" then some .tuple else if n = "sum" then some .sum
  else if n = "all" then some .all else if n = "any" then some .any else if n = "sorted" then some .sorted else none
def cOwn (N : List Str) (sc : Scope) : List (Str × Nat) := sc.names.filterMap fun p => if p.2 = .local ∨ p.2 = .cell then (ixOf N p.1).map fun i => (p.1, i) else none
def cTgs (Γ : Ga) : List Expr → Option (List Nat)
  | [] => some []
  | .Name x _ :: es => if stB Γ x then (ixOf Γ.N x).bind fun i => (cTgs Γ es).bind fun r => some (i :: r) else none
  | _ => none
def cTgt (Γ : Ga) : Expr → Option Tgt
  | .Name x _ => if stB Γ x then (ixOf Γ.N x).map .nm else none
  | .Tuple es _ _ => (cTgs Γ es).map .tp
  | _ => none
def isTup : Expr → Bool
  | .Tuple .. => true
  | _ => false
def cWalk (f : Expr → Option CE) (sc : Scope) (tg : Expr) : Expr → Option CE
  | .Call (.Name g p) [a] [] pos =>
    if g = "range" then (if glB sc g && nsB a then (f a).map .wrange else none)
    else if g = "enumerate" then (if glB sc g && nsB a && isTup tg then (f a).map .wenum else none)
    else (f (.Call (.Name g p) [a] [] pos)).map .one
  | .Call (.Name g p) [a, b] [] pos =>
    if g = "zip" then (if glB sc g && nsB a && nsB b && isTup tg then (f a).bind fun a' => (f b).bind fun b' => some (.wzip a' b') else none)
    else if g = "range" then none else (f (.Call (.Name g p) [a, b] [] pos)).map .one
  | .Set .. => none
  | e => (f e).map .one
def kwNames (kws : List Keyword) : List (Option Str) := kws.map fun k => k.arg
def kwVals (kws : List Keyword) : List Expr := kws.map fun k => k.value
def recvB : Expr → Bool
  | .Call .. => false
  | _ => true
def cOwnVar (Γ : Ga) : Expr → Option Nat
  | .Name x _ => cVar Γ x
  | _ => none
/-- o.m(es), of built-in kinds -/
def cMeth (f : Expr → Option CE) (Γ : Ga) (o : Expr) (m : Str) (es : List Expr) : Option CE :=
  match es with
  | [] => if m = "reverse" then (cOwnVar Γ o).map .rev else none
  | [a] => if nsB a then (
      if m = "append" then (cOwnVar Γ o).bind fun i => (f a).map (.app i)
      else if m = "extend" then (cOwnVar Γ o).bind fun i => (f a).map (.ext i)
      else if m = "pop" then (cOwnVar Γ o).bind fun i => (f a).map (.pop i)
      else if m = "count" then (if recvB o then (f o).bind fun o' => (f a).map (.count o') else none)
      else if m = "join" then (if recvB o then (f o).bind fun o' => (f a).map (.join o') else none)
      else none) else none
  | _ => none
def cCall (f : Expr → Option CE) (Γ : Ga) (g : Str) (es : List Expr) (kws : List Keyword) : Option CE :=
  if glB Γ.sc g && okN g then
    match Γ.fns g with
    | some (j, ps) =>
      match es, kws with
      | [], kws => if !kws.isEmpty && decide (kwNames kws = ps.map some) then (cList f (kwVals kws)).map (.call j) else none
      | es, [] => (cList f es).map (.call j)
      | _, _ => none
    | none =>
      match es, kws with
      | [.Call (.Name h p) [b] [] q], [] =>
        if g = "len" ∧ h = "set" then (if glB Γ.sc h && nsB b then (f b).map (.fn .lenSet) else none)
        else (bfN g).bind fun b' => (f (.Call (.Name h p) [b] [] q)).map (.fn b')
      | [a], [] => if nsB a then (bfN g).bind fun b => (f a).map (.fn b) else none
      | [a, .Name n _], [] => if g = "isinstance" then (if nsB a && glB Γ.sc n then (tyN n).bind fun T => (f a).map fun a' => .isi a' [T] else none) else none
      | [a, .Tuple [.Name n _, .Name n2 _] _ _], [] => if g = "isinstance" then (if nsB a && glB Γ.sc n && glB Γ.sc n2 then (tyN n).bind fun T => (tyN n2).bind fun T2 => (f a).map fun a' => .isi a' [T, T2] else none) else none
      | _, _ => none
  else none
def compE : Nat → Ga → Expr → Option CE
  | 0, _, _ => none
  | n + 1, Γ, e => match e with
    | .Constant (.int i) _ _ => some (.cst (.int i))
    | .Constant (.str i) _ _ => some (.cst (.str i))
    | .Constant (.bool i) _ _ => some (.cst (.bl i))
    | .Constant .none _ _ => some (.cst .non)
    | .Name x _ => if visB Γ.sc x then (cVar Γ x).map .var else if glB Γ.sc x && okN x then (Γ.cst x).map .cst else none
    | .BinOp a op b _ => (compE n Γ a).bind fun a' => (compE n Γ b).bind fun b' => some (.bin op a' b')
    | .UnaryOp .Not a _ => (compE n Γ a).map .no
    | .UnaryOp .USub a _ => (compE n Γ a).map .neg
    | .BoolOp .And es _ => cConj (compE n Γ) es
    | .BoolOp .Or es _ => cDisj (compE n Γ) es
    | .Compare a [op] [b] _ => if behindInMarks op b then none else (compE n Γ a).bind fun a' => (compE n Γ b).bind fun b' => some (.cmp op a' b')
    | .Compare a [o1, o2] [b, d] _ => if lastMarks [o1, o2] [b, d] then none else (compE n Γ a).bind fun a' => (compE n Γ b).bind fun b' => (compE n Γ d).bind fun d' => some (.chain o1 o2 a' b' d')
    | .IfExp t a b _ => (compE n Γ t).bind fun t' => (compE n Γ a).bind fun a' => (compE n Γ b).bind fun b' => some (.ite t' a' b')
    | .Subscript a (.Slice lo hi none _) _ => (compE n Γ a).bind fun a' => (cOpt (compE n Γ) lo).bind fun l => (cOpt (compE n Γ) hi).bind fun h => some (.sl a' l h)
    | .Subscript a b _ => if plainB b then (compE n Γ a).bind fun a' => (compE n Γ b).bind fun b' => some (.idx a' b') else none
    | .Dict [] [] _ => some .dk0
    | .List es _ => (cDisp (compE n Γ) es).map .lst
    | .Tuple es _ _ => (cDisp (compE n Γ) es).map .tup
    | .ListComp elt [⟨tg, it, ifs, ia⟩] sc _ =>
      if ia = 0 ∧ DL.blkC Γ.N Γ.sc sc (cOwn Γ.N sc) = true then
        (cWalk (compE n Γ) Γ.sc tg it).bind fun w => (cTgt { Γ with sc := relS sc Γ.sc, top := false } tg).bind fun g => (compE n { Γ with sc := relS sc Γ.sc, top := false } elt).bind fun e' =>
        if g.ix.all (fun i => decide (i ∈ (cOwn Γ.N sc).map (·.2))) then
          match ifs with
          | [] => some (.comp e' w g ((cOwn Γ.N sc).map (·.2)))
          | [t] => (compE n { Γ with sc := relS sc Γ.sc, top := false } t).bind fun t' => some (.compI e' t' w g ((cOwn Γ.N sc).map (·.2)))
          | _ => none
        else none
      else none
    | .ListComp elt [⟨tg, it, [], ia⟩, ⟨tg1, it1, [], ib⟩] sc _ =>
      if ia = 0 ∧ ib = 0 ∧ DL.blkC Γ.N Γ.sc sc (cOwn Γ.N sc) = true then
        (cWalk (compE n Γ) Γ.sc tg it).bind fun w => (cTgt { Γ with sc := relS sc Γ.sc, top := false } tg).bind fun g => (cWalk (compE n { Γ with sc := relS sc Γ.sc, top := false }) (relS sc Γ.sc) tg1 it1).bind fun w1 =>
        (cTgt { Γ with sc := relS sc Γ.sc, top := false } tg1).bind fun g1 => (compE n { Γ with sc := relS sc Γ.sc, top := false } elt).bind fun e' =>
        if g.ix.all (fun i => decide (i ∈ (cOwn Γ.N sc).map (·.2))) then some (.comp2 e' w w1 g g1 ((cOwn Γ.N sc).map (·.2)) g1.ix) else none
      else none
    | .Call (.Name g _) es kws _ => cCall (compE n Γ) Γ g es kws
    | .Call (.Attribute o m ap) es [] cp => if ap.endLine == cp.line then cMeth (compE n Γ) Γ o m es else none
    | _ => none
end RL
/-! RL2: what the forms do is what the text does (expressions). -/
namespace RL
open PySem L2 DL PyProof.Rows PySem.W
/-! ### looks -/
theorem visB_ok {sc : Scope} {n : Str} (h : visB sc n = true) : Vis sc n := by
  unfold visB at h
  unfold Vis
  split at h
  · rename_i e; exact .inl e
  · rename_i e; exact .inr (.inl e)
  · rename_i e; exact .inr (.inr e)
  · cases h
theorem glB_ok {sc : Scope} {n : Str} (h : glB sc n = true) : sc.names.lookup n = some .globalImplicit := by
  unfold glB at h
  split at h
  · rename_i e; exact e
  · cases h
theorem okN_ok {n : Str} (h : okN n = true) : (n == ("__debug__" : Str)) = false ∧ (n == ("__classdict__" : Str)) = false := by
  unfold okN at h
  simp only [Bool.and_eq_true, Bool.not_eq_true'] at h
  exact h
theorem ixOf_ok {N : List Str} {n : Str} {i : Nat} (h : ixOf N n = some i) : N[i]? = some n := by
  unfold ixOf at h
  obtain ⟨h1, h2, _⟩ := List.findIdx?_eq_some_iff_getElem.mp h
  rw [List.getElem?_eq_getElem h1, of_decide_eq_true h2]
theorem cVar_ok {Γ : Ga} {n : Str} {i : Nat} (h : cVar Γ n = some i) : Γ.N[i]? = some n ∧ Vis Γ.sc n ∧ (n == ("__debug__" : Str)) = false ∧ (n == ("__classdict__" : Str)) = false := by
  unfold cVar at h
  split at h
  · rename_i hc
    rw [Bool.and_eq_true] at hc
    exact ⟨ixOf_ok h, visB_ok hc.1, okN_ok hc.2⟩
  · cases h
theorem star_ns {a : Expr} {xs : List Expr} {env : PySem.Env} (h : nsB a = true) : starEach (a :: xs) env = (false, eval a env) :: starEach xs env := by
  cases a <;> first | rfl | (cases h; done)
theorem any_ns {pos : Pos} {env : PySem.Env} : ∀ {xs : List Expr}, xs.all nsB = true → (backTo pos (starEach xs env)).any (·.1) = false
  | [], _ => rfl
  | a :: xs, h => by
    rw [List.all_cons, Bool.and_eq_true] at h
    rw [star_ns h.1]
    have := any_ns (pos := pos) (env := env) h.2
    unfold backTo at this ⊢
    rw [List.map_cons, List.any_cons, this]; rfl
theorem any_nil {pos : Pos} {env : PySem.Env} : (backTo pos (starEach [] env)).any (·.1) = false := rfl
theorem plain_ok {b : Expr} (h : plainB b = true) : PlainIx b := by
  intro o i
  cases b <;> first | rfl | (cases h; done)
theorem recv_ok {o : Expr} {m : Str} {env : PySem.Env} (h : recvB o = true) : attributeBase o m env (eval o env) = eval o env := by
  cases o <;> first | rfl | (cases h; done)
theorem few_ok {a : Expr} {cpos : Pos} {env : PySem.Env} (h : nsB a = true) : ((backTo cpos (starEach [a] env)).all (fun x => !x.1) && (backToKw cpos (keywordEach [] env)).all (fun x => x.1.isSome) && decide ([a].length + ([] : List Keyword).length + (if ([] : List Keyword).isEmpty then 0 else 1) < 30)) = true := by
  rw [star_ns h]; rfl
theorem tyN_ok {n : Str} {T : String} (h : tyN n = some T) : bootBuiltins n = some (.type T) ∧ T ∈ ["int", "str", "bool", "list", "tuple", "dict"] ∧ n ≠ "__name__" ∧ (n == ("__debug__" : Str)) = false := by
  unfold tyN at h
  repeat' split at h
  all_goals first
    | (cases h; done)
    | (injection h with h; subst h; rename_i e; subst e; exact ⟨by first | exact boot_int | exact boot_str | exact boot_list | exact boot_tuple | rfl, by decide, by decide, by decide⟩)
/-! ### the program around -/
def bltN : List Str := ["len", "int", "str", "list", "tuple", "sum", "all", "any", "sorted", "set", "isinstance", "range", "zip", "enumerate", "bool", "dict"]
structure Mo where
  P : Program
  w : World
  K : PySem.W.Frag
  mg : Str → Option Value
  base : Heap
structure Mo.Ok (M : Mo) : Prop where
  blt : ∀ n ∈ bltN, M.mg n = none
structure OkX (M : Mo) (tab : Nat → Option (Str × List Str)) (Γ : Ga) (j : Nat) (X : Cx) : Prop where
  m : M.Ok
  prog : X.prog = M.P
  w : X.w = M.w
  K : X.K = M.K
  mg : X.mg = M.mg
  base : X.base = M.base
  N : X.N = Γ.N
  sc : X.env.scope = Γ.sc
  calm : X.calm = true
  nd : Γ.N.Nodup
  room : Room j X.A
  fn : Γ.top = true → ∀ x, X.fn x = true
  fns : ∀ x i ps, Γ.fns x = some (i, ps) → tab i = some (x, ps)
  cst : ∀ x d, Γ.cst x = some d → ∃ v u, M.mg x = some u ∧ RelV v u ∧ ∀ F, Rep M.K F d v
def CalOk (M : Mo) (tab : Nat → Option (Str × List Str)) (j : Nat) (c : Cs) : Prop :=
  ∀ f args r outs, c.C f args = some (r, outs) → ∃ x ps, tab f = some (x, ps) ∧ CalD M.P M.w M.K M.mg M.base j x ps (spD M.K args r outs) ∧ ResOk r ∧ OwnTo outs args
def MsOk (G : Gx) (ms : List Bool) : Prop := ∀ i, frB ms i = true → G.ms[i]? ≠ some true
theorem msOk_mask {F1 H1 : Hp} {ws : List V} {ρ : DL.Env} : MsOk ⟨F1, H1, ws, maskE ρ⟩ (maskE ρ) := fun i h e => by
  unfold frB at h
  have e : (maskE ρ)[i]? = some true := e
  rw [List.getD_eq_getElem?_getD, e] at h
  cases h
section
variable {M : Mo} {tab : Nat → Option (Str × List Str)} {Γ : Ga} {j : Nat} {X : Cx}
theorem OkX.blk (o : OkX M tab Γ j X) (s : Shared) (H : Hp) (scope : Scope) (cl : List (Str × Addr)) (C : Addr) (fp : List Addr) : OkX M tab { Γ with sc := relS scope Γ.sc, top := false } j (X.blk s H scope (compEnvC scope cl C X.env) fp) where
  m := o.m
  prog := o.prog
  w := o.w
  K := o.K
  mg := o.mg
  base := o.base
  N := o.N
  sc := by
    show relS scope X.env.scope = relS scope Γ.sc
    rw [o.sc]
  calm := o.calm
  nd := o.nd
  room := o.room
  fn := fun h => by cases h
  fns := o.fns
  cst := o.cst
theorem OkX.gl (o : OkX M tab Γ j X) {n : Str} (h : glB Γ.sc n = true) : Gl X n := by
  unfold Gl PySem.Env.kindOf
  rw [o.sc]; exact glB_ok h
theorem OkX.blt (o : OkX M tab Γ j X) {n : Str} (h : n ∈ bltN) : X.mg n = none := by rw [o.mg]; exact o.m.blt n h
theorem OkX.var (o : OkX M tab Γ j X) {n : Str} {i : Nat} (h : cVar Γ n = some i) : X.N[i]? = some n ∧ Vis X.env.scope n ∧ (n == ("__debug__" : Str)) = false ∧ (n == ("__classdict__" : Str)) = false := by
  rw [o.N, o.sc]; exact cVar_ok h
end
def SE (M : Mo) (tab : Nat → Option (Str × List Str)) (Γ : Ga) (e : Expr) (a : CE) : Prop :=
  ∀ (X : Cx) (j : Nat) (G : Gx) (c : Cs) (ms : List Bool) (ρ ρ' : DL.Env) (r : Slot), OkX M tab Γ j X → CalOk M tab j c → MsOk G ms → evE c ms a ρ = some (r, ρ') → ED X G e ρ ρ' r
def ST (M : Mo) (tab : Nat → Option (Str × List Str)) (Γ : Ga) (e : Expr) (a : CE) : Prop :=
  ∀ (X : Cx) (j : Nat) (G : Gx) (c : Cs) (ms : List Bool) (ρ ρ' : DL.Env) (r : Bool), OkX M tab Γ j X → CalOk M tab j c → MsOk G ms → evT c ms a ρ = some (r, ρ') → ET X G e ρ ρ' r
section
variable {X : Cx} {G : Gx} {e a b d : Expr} {ρ ρ' ρ1 ρ2 ρ3 : DL.Env} {r s z s1 s2 : Slot} {x y w : D} {ds es : List D} {pos p p2 : Pos} {k l k1 k2 k3 : Bool} {n : Str} {xs rest : List Expr} {i j : Nat}
theorem bind_some' {α β : Type} {o : Option α} {f : α → Option β} {y : β} (h : o.bind f = some y) : ∃ x, o = some x ∧ f x = some y := Option.bind_eq_some_iff.mp h
theorem toV_ok (h : toV s = some x) : ToV s x := by
  unfold toV at h
  split at h
  · split at h
    · injection h with h; subst h
      rename_i k d hc
      rcases hc with rfl | hc
      · exact .val
      · exact .sc hc
    · cases h
  · injection h with h; subst h; exact .own
theorem ed_fixS (h : ED X G e ρ ρ' s) : ED X G e ρ ρ' (fixS s) := by
  cases s with
  | v k d => exact h
  | own ds => exact ed_fix h
theorem ed_dat (h : ED X G e ρ ρ' s) : ∃ k, ED X G e ρ ρ' (.v k (datS s)) := by
  cases s with
  | v k d => exact ⟨k, h⟩
  | own ds => exact ⟨true, ed_fix h⟩
theorem ed_intS {i : Int} (h : ED X G e ρ ρ' s) (q : intS s = some i) : ∃ k, ED X G e ρ ρ' (.v k (.int i)) := by
  unfold intS at q
  split at q
  · injection q with q; subst q; exact ⟨_, h⟩
  · cases q
theorem ed_strS {i : Str} (h : ED X G e ρ ρ' s) (q : strS s = some i) : ∃ k, ED X G e ρ ρ' (.v k (.str i)) := by
  unfold strS at q
  split at q
  · injection q with q; subst q; exact ⟨_, h⟩
  · cases q
theorem ed_blS {i : Bool} (h : ED X G e ρ ρ' s) (q : blS s = some i) : ∃ k, ED X G e ρ ρ' (.v k (.bl i)) := by
  unfold blS at q
  split at q
  · injection q with q; subst q; exact ⟨_, h⟩
  · cases q
theorem eqS_ok {k : Bool} (h : eqS x y = some k) : CmpD .Eq x y k := by
  unfold eqS at h
  split at h <;> first | (cases h; done) | (injection h with h; subst h; constructor)
theorem cmpD_ok {op : CmpOp} {k : Bool} (h : cmpD op x y = some k) : CmpD op x y k := by
  unfold cmpD at h
  split at h
  · exact eqS_ok h
  · obtain ⟨k', h1, rfl⟩ := Option.map_eq_some_iff.mp h
    cases eqS_ok h1 <;> constructor
  · split at h
    · unfold cmpI at h
      split at h <;> first | (cases h; done) | (injection h with h; subst h; constructor)
    · cases h
theorem ed_bin_ok {op : Operator} (ha : ED X G a ρ ρ1 s1) (hb : ED X G b ρ1 ρ2 s2) (h : binS op s1 s2 = some z) : ED X G (.BinOp a op b pos) ρ ρ2 z := by
  unfold binS at h
  split at h
  · rename_i a' b'
    have ha' := ed_fixS ha
    have hb' := ed_fixS hb
    refine ed_add ha' hb' ?_
    revert h
    generalize fixS s1 = t1
    generalize fixS s2 = t2
    intro h
    unfold addS at h
    split at h
    · injection h with h; subst h; exact .int
    · obtain ⟨h1, h2⟩ := chk_some h
      injection h2 with h2; subst h2; exact .str h1
    · obtain ⟨h1, h2⟩ := chk_some h
      injection h2 with h2; subst h2; exact .lst h1
    · cases h
  · obtain ⟨i, hi, h⟩ := bind_some' h
    obtain ⟨j, hj, h⟩ := bind_some' h
    obtain ⟨_, ha'⟩ := ed_intS ha hi
    obtain ⟨_, hb'⟩ := ed_intS hb hj
    injection h with h; subst h; exact ed_sub ha' hb'
  · obtain ⟨i, hi, h⟩ := bind_some' h
    obtain ⟨j, hj, h⟩ := bind_some' h
    obtain ⟨_, ha'⟩ := ed_intS ha hi
    obtain ⟨_, hb'⟩ := ed_intS hb hj
    obtain ⟨h1, h⟩ := chk_some h
    injection h with h; subst h; exact ed_mul ha' hb' h1
  · obtain ⟨i, hi, h⟩ := bind_some' h
    obtain ⟨j, hj, h⟩ := bind_some' h
    obtain ⟨_, ha'⟩ := ed_intS ha hi
    obtain ⟨_, hb'⟩ := ed_intS hb hj
    obtain ⟨h1, h⟩ := chk_some h
    injection h with h; subst h; exact ed_fdiv ha' hb' h1
  · obtain ⟨i, hi, h⟩ := bind_some' h
    obtain ⟨j, hj, h⟩ := bind_some' h
    obtain ⟨_, ha'⟩ := ed_intS ha hi
    obtain ⟨_, hb'⟩ := ed_intS hb hj
    obtain ⟨h1, h⟩ := chk_some h
    injection h with h; subst h; exact ed_mod ha' hb' h1
  · obtain ⟨i, hi, h⟩ := bind_some' h
    obtain ⟨j, hj, h⟩ := bind_some' h
    obtain ⟨_, ha'⟩ := ed_intS ha hi
    obtain ⟨_, hb'⟩ := ed_intS hb hj
    obtain ⟨h1, h⟩ := chk_some h
    injection h with h; subst h; exact ed_pow ha' hb' h1
  · cases h
/-- and, or: the parts behind may change the frame -/
theorem ew_andT (ha : ET X G a ρ ρ1 true) (hb : EW X G (.BoolOp .And (b :: rest) pos) ρ1 ρ2 l) : EW X G (.BoolOp .And (a :: b :: rest) pos) ρ ρ2 l := by
  refine pw_mono (pw_and ha hb) fun σ H Q ⟨F, E, q⟩ => ⟨F, E, fun F1 H1 e1 E1 => ?_⟩
  show tDT X.K G ρ1 ρ2 l σ H1 Q
  exact ⟨F1, E1, fun F2 H2 e2 E2 => q F2 H2 (e1.trans e2) E2⟩
theorem ew_andF (ha : ET X G a ρ ρ1 false) : EW X G (.BoolOp .And (a :: b :: rest) pos) ρ ρ1 false := by
  refine pw_mono (pw_and (tB' := fun _ _ _ => False) ha ⟨fun _ _ _ _ _ _ _ h => h.elim⟩) fun σ H Q ⟨F, E, q⟩ => ⟨F, E, fun F1 H1 e1 E1 => ?_⟩
  show Q false H1
  exact q F1 H1 e1 E1
theorem ew_orF (ha : ET X G a ρ ρ1 false) (hb : EW X G (.BoolOp .Or (b :: rest) pos) ρ1 ρ2 l) : EW X G (.BoolOp .Or (a :: b :: rest) pos) ρ ρ2 l := by
  refine pw_mono (pw_or ha hb) fun σ H Q ⟨F, E, q⟩ => ⟨F, E, fun F1 H1 e1 E1 => ?_⟩
  show tDT X.K G ρ1 ρ2 l σ H1 Q
  exact ⟨F1, E1, fun F2 H2 e2 E2 => q F2 H2 (e1.trans e2) E2⟩
theorem ew_orT (ha : ET X G a ρ ρ1 true) : EW X G (.BoolOp .Or (a :: b :: rest) pos) ρ ρ1 true := by
  refine pw_mono (pw_or (tB' := fun _ _ _ => False) ha ⟨fun _ _ _ _ _ _ _ h => h.elim⟩) fun σ H Q ⟨F, E, q⟩ => ⟨F, E, fun F1 H1 e1 E1 => ?_⟩
  show Q true H1
  exact q F1 H1 e1 E1
end
end RL
/-! RL3: single steps. -/
namespace RL
open PySem L2 DL PyProof.Rows PySem.W
section
variable {M : Mo} {tab : Nat → Option (Str × List Str)} {Γ : Ga} {jr : Nat}
variable {X : Cx} {G : Gx} {e a b d o : Expr} {ρ ρ' ρ1 ρ2 ρ3 : DL.Env} {r s z s1 s2 : Slot} {x y w : D} {ds es : List D} {pos p p2 apos cpos : Pos} {k l k1 k2 k3 : Bool} {n : Str} {xs rest : List Expr} {i j : Nat}
theorem ed_andT (ha : ED X G a ρ ρ1 (.v k1 (.bl true))) (hb : ED X G (.BoolOp .And (b :: rest) pos) ρ1 ρ2 z) : ED X G (.BoolOp .And (a :: b :: rest) pos) ρ ρ2 z := by
  refine pe_mono (pe_and ha hb) fun σ H Q ⟨F, E, q⟩ => ⟨F, E, fun F1 H1 v e1 E1 r1 => ⟨true, of_bl r1, ?_⟩⟩
  show tD X.K G ρ1 ρ2 z σ H1 Q
  exact ⟨F1, E1, fun F2 H2 w e2 E2 r2 => q F2 H2 w (e1.trans e2) E2 r2⟩
theorem ed_andF (ha : ED X G a ρ ρ1 (.v k1 (.bl false))) : ED X G (.BoolOp .And (a :: b :: rest) pos) ρ ρ1 (.val (.bl false)) := by
  refine pe_mono (pe_and ha pe_false) fun σ H Q ⟨F, E, q⟩ => ⟨F, E, fun F1 H1 v e1 E1 r1 => ⟨false, of_bl r1, ?_⟩⟩
  show Q (.bl false) H1
  exact q F1 H1 _ e1 E1 sr_bl
theorem ed_orF (ha : ED X G a ρ ρ1 (.v k1 (.bl false))) (hb : ED X G (.BoolOp .Or (b :: rest) pos) ρ1 ρ2 z) : ED X G (.BoolOp .Or (a :: b :: rest) pos) ρ ρ2 z := by
  refine pe_mono (pe_or ha hb) fun σ H Q ⟨F, E, q⟩ => ⟨F, E, fun F1 H1 v e1 E1 r1 => ⟨false, of_bl r1, ?_⟩⟩
  show tD X.K G ρ1 ρ2 z σ H1 Q
  exact ⟨F1, E1, fun F2 H2 w e2 E2 r2 => q F2 H2 w (e1.trans e2) E2 r2⟩
theorem ed_orT (ha : ED X G a ρ ρ1 (.v k1 (.bl true))) : ED X G (.BoolOp .Or (a :: b :: rest) pos) ρ ρ1 (.val (.bl true)) := by
  refine pe_mono (pe_or ha pe_false) fun σ H Q ⟨F, E, q⟩ => ⟨F, E, fun F1 H1 v e1 E1 r1 => ⟨true, of_bl r1, ?_⟩⟩
  show Q (.bl true) H1
  exact q F1 H1 _ e1 E1 sr_bl
theorem vr_eqD {K : PySem.W.Frag} (h1 : dataD x = true) (h2 : dataD y = true) (h3 : SeqAt.shaped (pyD x) = true) (h4 : SeqAt.shaped (pyD y) = true) : VR K G ρ (rEqD K) k1 x k2 y (.val (.bl (PyData.eqv (pyD x) (pyD y)))) :=
  fun σ F H v u Q E hv hu q => ⟨pyD x, pyD y, dp_of E.atH _ _ h1 hv, dp_of E.atH _ _ h2 hu, h3, h4, q F H _ (Ext.refl _) E sr_bl⟩
theorem vr_neD {K : PySem.W.Frag} (h1 : dataD x = true) (h2 : dataD y = true) (h3 : SeqAt.shaped (pyD x) = true) (h4 : SeqAt.shaped (pyD y) = true) : VR K G ρ (rNeD K) k1 x k2 y (.val (.bl (!PyData.eqv (pyD x) (pyD y)))) :=
  fun σ F H v u Q E hv hu q => ⟨pyD x, pyD y, dp_of E.atH _ _ h1 hv, dp_of E.atH _ _ h2 hu, h3, h4, q F H _ (Ext.refl _) E sr_bl⟩
def rEqLen (K : PySem.W.Frag) (b : Bool) : R2 := fun x y H Q => ∃ p q xs ys, x = .ref p ∧ y = .ref q ∧ SqL K H p xs ∧ SqL K H q ys ∧ xs.length ≠ ys.length ∧ Q (.bl b) H
theorem op_eqLen (hu : X.A.units + 64 < cLine) : OpR X (compareOp .Eq) (rEqLen X.K false) := by
  intro pins s σ H x y v u Q I rx ry h
  obtain ⟨p, q, xs, ys, rfl, rfl, hx, hy, hne, q⟩ := h
  cases rx
  cases ry
  obtain ⟨its, rv, hl, _⟩ := I.list hx
  obtain ⟨its2, rv2, hl2, _⟩ := I.list hy
  refine SeqAt.RcAt.lists_lengths hl.isList hl2.isList ?_ (by omega) X.prog X.w _ _ ⟨.bl false, H, I, rfl, q⟩
  have h1 := rv.length
  have h2 := rv2.length
  simp only [List.size_toArray, bne_iff_ne, ne_eq]
  omega
theorem op_neLen (hu : X.A.units + 64 < cLine) : OpR X (compareOp .NotEq) (rEqLen X.K true) := by
  intro pins s σ H x y v u Q I rx ry h
  obtain ⟨p, q, xs, ys, rfl, rfl, hx, hy, hne, q⟩ := h
  cases rx
  cases ry
  obtain ⟨its, rv, hl, _⟩ := I.list hx
  obtain ⟨its2, rv2, hl2, _⟩ := I.list hy
  refine SeqAt.RcNeAt.lists_lengths hl.isList hl2.isList ?_ (by omega) X.prog X.w _ _ ⟨.bl true, H, I, rfl, q⟩
  have h1 := rv.length
  have h2 := rv2.length
  simp only [List.size_toArray, bne_iff_ne, ne_eq]
  omega
theorem vr_eqLen {K : PySem.W.Frag} {bb : Bool} (h : ds.length ≠ es.length) : VR K G ρ (rEqLen K bb) k1 (.lst ds) k2 (.lst es) (.val (.bl bb)) :=
  fun σ F H v u Q E hv hu q => by
    obtain ⟨p, xs, rfl, hp, rx⟩ := rep_lst.mp hv
    obtain ⟨p2, ys, rfl, hp2, ry⟩ := rep_lst.mp hu
    exact ⟨p, p2, xs, ys, rfl, rfl, sql_rd (E.atH.rd hp), sql_rd (E.atH.rd hp2), by rw [rx.length, ry.length]; exact h, q F H _ (Ext.refl _) E sr_bl⟩
theorem eqL_ok {q : Bool} (h : eqL x y = some q) : ∃ ds es, x = .lst ds ∧ y = .lst es ∧ ds.length ≠ es.length ∧ q = false := by
  unfold eqL at h
  split at h
  · obtain ⟨h1, h⟩ := chk_some h
    injection h with h
    exact ⟨_, _, rfl, rfl, h1, h.symm⟩
  · cases h
/-- tuple(x) of a tuple is x -/
theorem ed_tupleT (hg : Gl X "tuple") (hm : X.mg "tuple" = none) (ha : ED X G a ρ ρ1 (.v k (.tup ds))) (he : starEach [a] X.env = (false, eval a X.env) :: starEach [] X.env := by rfl) (hpl : (backTo pos (starEach [] X.env)).any (·.1) = false := by rfl) : ED X G (.Call (.Name "tuple" p) [a] [] pos) ρ ρ1 (.v k (.tup ds)) :=
  ed_call1T call_tupleT hg hm boot_tuple ha (fun σ F H v Q E r1 q => by
    obtain ⟨a, vs, rfl, h2, h3⟩ := Rep.tupH E.atH r1
    exact ⟨a, vs, rfl, h2, q F H _ (Ext.refl _) E r1⟩) (by decide) (by decide) he hpl
theorem one_char {x : Str} (h : x.cps.size = 1) : x = ⟨#[x.cps.getD 0 0]⟩ := by
  obtain ⟨l⟩ := x
  obtain ⟨l⟩ := l
  match l, h with
  | [c], _ => rfl
theorem cmp_ok {op : CmpOp} (hu : X.A.units + 64 < cLine) (ha : ED X G a ρ ρ1 s1) (hb : ED X G b ρ1 ρ2 s2) (h : cmpS op s1 s2 = some k) (hm : behindInMarks op b = false) :
    ED X G (.Compare a [op] [b] pos) ρ ρ2 (.val (.bl k)) ∧ ET X G (.Compare a [op] [b] pos) ρ ρ2 k := by
  have inOk : ∀ {q : Bool}, inS (fixS s1) (fixS s2) = some q → (∃ c t k1 k2, ED X G a ρ ρ1 (.v k1 (.str ⟨#[c]⟩)) ∧ ED X G b ρ1 ρ2 (.v k2 (.str t)) ∧ q = decide (c ∈ t.cps.toList)) ∨ (∃ x ds k1 s, ED X G a ρ ρ1 (.v k1 x) ∧ ED X G b ρ1 ρ2 s ∧ SeqS s ds ∧ flatD x = true ∧ ds.all flatD = true ∧ q = inD x ds) := by
    intro q hq
    have ha' := ed_fixS ha
    have hb' := ed_fixS hb
    revert hq ha' hb'
    generalize fixS s1 = t1
    generalize fixS s2 = t2
    intro hq ha' hb'
    unfold inS at hq
    split at hq
    · obtain ⟨h1, h2⟩ := chk_some hq
      injection h2 with h2
      rw [one_char h1] at ha'
      exact .inl ⟨_, _, _, _, ha', hb', h2.symm⟩
    · obtain ⟨h1, h2⟩ := chk_some hq
      injection h2 with h2
      exact .inr ⟨_, _, _, _, ha', hb', .lst, h1.1, h1.2, h2.symm⟩
    · obtain ⟨h1, h2⟩ := chk_some hq
      injection h2 with h2
      exact .inr ⟨_, _, _, _, ha', hb', .tup, h1.1, h1.2, h2.symm⟩
    · cases hq
  unfold cmpS at h
  split at h
  · rcases inOk h with ⟨c, t, k1, k2, h1, h2, rfl⟩ | ⟨x, ds, k1, s, h1, h2, h3, h4, h5, rfl⟩
    · exact ⟨cmp_sign h1 h2 hm, et_sign h1 h2 hm⟩
    · exact ⟨cmp_in h1 h2 h3 h4 h5 hm, et_in h1 h2 h3 h4 h5 hm⟩
  · obtain ⟨q, hq, rfl⟩ := Option.map_eq_some_iff.mp h
    rcases inOk hq with ⟨c, t, k1, k2, h1, h2, rfl⟩ | ⟨x, ds, k1, s, h1, h2, h3, h4, h5, rfl⟩
    · exact ⟨cmp_nsign h1 h2 hm, et_nsign h1 h2 hm⟩
    · exact ⟨cmp_nin h1 h2 h3 h4 h5 hm, et_nin h1 h2 h3 h4 h5 hm⟩
  · obtain ⟨_, ha'⟩ := ed_dat ha
    obtain ⟨_, hb'⟩ := ed_dat hb
    split at h
    · rename_i e
      rw [e] at hb'
      injection h with h; subst h
      exact ⟨ed_bin (fun h1 h2 => pe_cmpR op_isN1 h1 h2 hm) ha' hb' (vnon _ _ _ _ _ _), et_bin (fun h1 h2 => pt_cmpR op_isN1 h1 h2 hm) ha' hb' (vnon _ _ _ _ _ _)⟩
    · cases h
  · obtain ⟨_, ha'⟩ := ed_dat ha
    obtain ⟨_, hb'⟩ := ed_dat hb
    split at h
    · rename_i e
      rw [e] at hb'
      injection h with h; subst h
      exact ⟨ed_bin (fun h1 h2 => pe_cmpR op_notN1 h1 h2 hm) ha' hb' (vnotn _ _ _ _ _ _), et_bin (fun h1 h2 => pt_cmpR op_notN1 h1 h2 hm) ha' hb' (vnotn _ _ _ _ _ _)⟩
    · cases h
  · obtain ⟨_, ha'⟩ := ed_dat ha
    obtain ⟨_, hb'⟩ := ed_dat hb
    unfold eqX at h
    rcases Option.or_eq_some_iff.mp h with h | ⟨_, h⟩
    · exact ⟨ed_cmp ha' hb' (eqS_ok h) hm, et_cmp ha' hb' (eqS_ok h) hm⟩
    rcases Option.or_eq_some_iff.mp h with h | ⟨_, h⟩
    · obtain ⟨ds, es, e1, e2, hne, rfl⟩ := eqL_ok h
      rw [e1] at ha'
      rw [e2] at hb'
      exact ⟨ed_bin (fun g1 g2 => pe_cmpR (op_eqLen hu) g1 g2 hm) ha' hb' (vr_eqLen hne), et_bin (fun g1 g2 => pt_cmpR (op_eqLen hu) g1 g2 hm) ha' hb' (vr_eqLen hne)⟩
    · obtain ⟨⟨h1, h2, h3, h4⟩, h⟩ := chk_some h
      injection h with h; subst h
      exact ⟨ed_bin (fun g1 g2 => pe_cmpR (op_eqD hu) g1 g2 hm) ha' hb' (vr_eqD h1 h2 h3 h4), et_bin (fun g1 g2 => pt_cmpR (op_eqD hu) g1 g2 hm) ha' hb' (vr_eqD h1 h2 h3 h4)⟩
  · obtain ⟨_, ha'⟩ := ed_dat ha
    obtain ⟨_, hb'⟩ := ed_dat hb
    obtain ⟨q, h0, rfl⟩ := Option.map_eq_some_iff.mp h
    clear h
    have h := h0
    clear h0
    unfold eqX at h
    rcases Option.or_eq_some_iff.mp h with h | ⟨_, h⟩
    · have h' : cmpD .NotEq (datS s1) (datS s2) = some (!q) := by unfold cmpD; simp only [h, Option.map_some]
      exact ⟨ed_cmp ha' hb' (cmpD_ok h') hm, et_cmp ha' hb' (cmpD_ok h') hm⟩
    rcases Option.or_eq_some_iff.mp h with h | ⟨_, h⟩
    · obtain ⟨ds, es, e1, e2, hne, rfl⟩ := eqL_ok h
      rw [e1] at ha'
      rw [e2] at hb'
      exact ⟨ed_bin (fun g1 g2 => pe_cmpR (op_neLen hu) g1 g2 hm) ha' hb' (vr_eqLen hne), et_bin (fun g1 g2 => pt_cmpR (op_neLen hu) g1 g2 hm) ha' hb' (vr_eqLen hne)⟩
    · obtain ⟨⟨h1, h2, h3, h4⟩, h⟩ := chk_some h
      injection h with h; subst h
      exact ⟨ed_bin (fun g1 g2 => pe_cmpR (op_neD hu) g1 g2 hm) ha' hb' (vr_neD h1 h2 h3 h4), et_bin (fun g1 g2 => pt_cmpR (op_neD hu) g1 g2 hm) ha' hb' (vr_neD h1 h2 h3 h4)⟩
  · obtain ⟨_, ha'⟩ := ed_dat ha
    obtain ⟨_, hb'⟩ := ed_dat hb
    exact ⟨ed_cmp ha' hb' (cmpD_ok h) hm, et_cmp ha' hb' (cmpD_ok h) hm⟩
theorem idxS_ok {j : Int} (h : idxS s j = some z) : IxD s j z := by
  unfold idxS at h
  split at h
  · obtain ⟨d, h1, rfl⟩ := Option.map_eq_some_iff.mp h
    exact .lst h1
  · obtain ⟨d, h1, rfl⟩ := Option.map_eq_some_iff.mp h
    exact .tup h1
  · obtain ⟨c, h1, h⟩ := bind_some' h
    obtain ⟨h2, h⟩ := chk_some h
    injection h with h; subst h
    exact .str h1 h2
  · cases h
theorem ownVar_ok {f : CE} (h : ownVar f ρ = some i) : f = .var i ∧ ∃ ds, ρ[i]? = some (some (.own ds)) := by
  unfold ownVar at h
  split at h
  · split at h
    · injection h with h; subst h
      rename_i hd
      exact ⟨rfl, _, hd⟩
    · cases h
  · cases h
theorem getO_ok (h : getO ρ i = some ds) : ρ[i]? = some (some (.own ds)) := by
  unfold getO at h
  split at h
  · injection h with h; subst h; rename_i hd; exact hd
  · cases h
theorem lstK_ok (h : lstK s = some ds) : LstS s ds ∧ ∀ k d, s = .v k d → k = true ∨ ds.all isSc = true := by
  unfold lstK at h
  split at h
  · injection h with h; subst h; exact ⟨.own, fun k d e => by cases e⟩
  · obtain ⟨h1, h⟩ := chk_some h
    injection h with h; subst h
    exact ⟨.v, fun k d e => by cases e; exact h1⟩
  · cases h
theorem lstS_ok (h : lstS s = some ds) : LstS s ds := by
  unfold lstS at h
  split at h
  · injection h with h; subst h; exact .own
  · injection h with h; subst h; exact .v
  · cases h
theorem itemsS_ok (h : itemsS s = some ds) : ∃ k, SeqK s k ds ∧ (k = true ∨ ds.all isSc = true) := by
  unfold itemsS at h
  split at h
  · injection h with h; subst h; exact ⟨_, .own, .inl rfl⟩
  · obtain ⟨h1, h⟩ := chk_some h
    injection h with h; subst h; exact ⟨_, .lst, h1⟩
  · obtain ⟨h1, h⟩ := chk_some h
    injection h with h; subst h; exact ⟨_, .tup, h1⟩
  · cases h
/-- a sequence, fixed if it is new -/
theorem ed_seq {q : Bool × List D} (h : ED X G e ρ ρ' s) (g : seqS s = some q) : ∃ d, ED X G e ρ ρ' (.v q.1 d) ∧ SeqS (.v q.1 d) q.2 := by
  unfold seqS at g
  split at g
  · injection g with g; subst g; exact ⟨_, ed_fix h, .lst⟩
  · injection g with g; subst g; exact ⟨_, h, .lst⟩
  · injection g with g; subst g; exact ⟨_, h, .tup⟩
  · cases g
theorem ed_slLs {lo hi : Option Expr} {l1 l2 : Option Int} (ha : ED X G a ρ ρ1 s) (hs : lstK s = some ds) (hl : EO X G lo ρ1 ρ2 l1) (hh : EO X G hi ρ2 ρ3 l2) : ED X G (.Subscript a (.Slice lo hi none p2) pos) ρ ρ3 (.own (cutD ds l1 l2)) := by
  obtain ⟨k, hk, ha'⟩ : ∃ k, (k = true ∨ ds.all isSc = true) ∧ ED X G a ρ ρ1 (.v k (.lst ds)) := by
    unfold lstK at hs
    split at hs
    · injection hs with hs; subst hs; exact ⟨true, .inl rfl, ed_fix ha⟩
    · obtain ⟨h1, h⟩ := chk_some hs
      injection h with h; subst h; exact ⟨_, h1, ha⟩
    · cases hs
  exact pe_mono (pe_slice sl_list ha' hl hh) fun σ H Q ⟨F, E, q⟩ => ⟨F, E, fun F1 H1 v e1 E1 r1 => ⟨F1, E1, fun F2 H2 e2 E2 => ⟨F2, E2, fun F3 H3 e3 E3 => by
    obtain ⟨a, vs, rfl, h2, h3⟩ := Rep.lstH E3.atH (Rep.mono (at_ext (e2.trans e3)) _ _ r1)
    exact ⟨a, vs, rfl, sql_rd h2, fun l hl => q F3 _ _ ((e1.trans e2).trans e3) (E3.lay0 hl) (E3.newL hl (reps_cut (reps_val h3 hk)))⟩⟩⟩⟩
theorem sl_ok {lo hi : Option Expr} {l1 l2 : Option Int} (ha : ED X G a ρ ρ1 s) (hl : EO X G lo ρ1 ρ2 l1) (hh : EO X G hi ρ2 ρ3 l2) (h : slS s l1 l2 = some z) : ED X G (.Subscript a (.Slice lo hi none p2) pos) ρ ρ3 z := by
  unfold slS at h
  split at h
  · obtain ⟨h1, h⟩ := chk_some h
    injection h with h; subst h
    exact ed_slS ha hl hh h1
  · obtain ⟨ds, h1, h⟩ := bind_some' h
    injection h with h; subst h
    exact ed_slLs ha h1 hl hh
theorem ed_dk0 : ED X G (.Dict [] [] pos) ρ ρ (.val (.dk [] [])) :=
  pe_mono pe_dnewK fun σ H Q ⟨F, E, q⟩ p hp => q (upd F p (.dK [])) _ _ (Ext.lay (E.sub.free hp)) (E.lay hp) (by
    show Rep X.K (upd F p (.dK [])) (.dk [] []) (.ref p)
    simp only [Rep]
    exact ⟨p, [], rfl, upd_same, rfl, .nil⟩)
/-- built-ins of one argument -/
theorem fn_ok {f : Bf} {g : Str} (o : OkX M tab Γ jr X) (hb : bfN g = some f) (hg : glB Γ.sc g = true) (hn : nsB a = true) (ha : ED X G a ρ ρ1 s) (h : fnS f s = some z) : ED X G (.Call (.Name g p) [a] [] pos) ρ ρ1 z := by
  have he := star_ns (xs := []) (env := X.env) hn
  unfold bfN at hb
  repeat' split at hb
  all_goals first
    | (cases hb; done)
    | (injection hb with hb; subst hb; rename_i e; subst e; simp only [fnS] at h)
  · obtain ⟨m, h1, h⟩ := bind_some' h
    injection h with h; subst h
    refine ed_len (o.gl hg) (o.blt (by decide)) ha ?_ he rfl
    unfold lenS at h1
    split at h1 <;> first | (cases h1; done) | (injection h1 with h1; subst h1; constructor; done) | skip
    obtain ⟨h2, h1⟩ := chk_some h1
    injection h1 with h1; subst h1; exact .str h2
  · obtain ⟨m, h1, h⟩ := bind_some' h
    injection h with h; subst h
    obtain ⟨_, ha⟩ := ed_intS ha h1
    exact ed_intOf (o.gl hg) (o.blt (by decide)) ha he rfl
  · obtain ⟨m, h1, h⟩ := bind_some' h
    obtain ⟨h2, h⟩ := chk_some h
    injection h with h; subst h
    obtain ⟨_, ha⟩ := ed_intS ha h1
    exact ed_strOf (o.gl hg) (o.blt (by decide)) ha h2 he rfl
  · obtain ⟨m, h1, h⟩ := bind_some' h
    injection h with h; subst h
    obtain ⟨k, h2, h3⟩ := itemsS_ok h1
    exact ed_list (o.gl hg) (o.blt (by decide)) ha h2 h3 he rfl
  · unfold tupF at h
    split at h
    · injection h with h; subst h
      exact ed_tupleT (o.gl hg) (o.blt (by decide)) ha he rfl
    · obtain ⟨m, h1, h⟩ := bind_some' h
      injection h with h; subst h
      obtain ⟨h2, h3⟩ := lstK_ok h1
      exact ed_tupleL (o.gl hg) (o.blt (by decide)) ha h2 h3 he rfl
  · obtain ⟨q, h1, h⟩ := bind_some' h
    obtain ⟨m, h2, h⟩ := bind_some' h
    injection h with h; subst h
    obtain ⟨d, h3, h4⟩ := ed_seq ha h1
    exact ed_sumE o.calm (o.gl hg) (o.blt (by decide)) h3 h4 (intsOf_eq h2) he rfl
  · obtain ⟨q, h1, h⟩ := bind_some' h
    obtain ⟨m, h2, h⟩ := bind_some' h
    injection h with h; subst h
    exact ed_all o.calm (o.gl hg) (o.blt (by decide)) ha (lstS_ok h1) (blsOf_eq h2) he rfl
  · obtain ⟨q, h1, h⟩ := bind_some' h
    obtain ⟨m, h2, h⟩ := bind_some' h
    injection h with h; subst h
    exact ed_any o.calm (o.gl hg) (o.blt (by decide)) ha (lstS_ok h1) (blsOf_eq h2) he rfl
  · obtain ⟨q, h1, h⟩ := bind_some' h
    obtain ⟨⟨h3, h4, h5, h6⟩, h⟩ := chk_some h
    injection h with h; subst h
    obtain ⟨h2, h7⟩ := lstK_ok h1
    exact ed_sorted (by have := o.room.un; omega) (o.gl hg) (o.blt (by decide)) ha h2 h7 h3 h4 h5 h6 he rfl
theorem lenSet_ok (o : OkX M tab Γ jr X) (hg : glB Γ.sc "len" = true) (hg2 : glB Γ.sc "set" = true) (hn : nsB a = true) {q2 : Pos} (ha : ED X G a ρ ρ1 s) (h : fnS .lenSet s = some z) : ED X G (.Call (.Name "len" p) [.Call (.Name "set" p2) [a] [] q2] [] pos) ρ ρ1 z := by
  simp only [fnS] at h
  obtain ⟨q, h1, h⟩ := bind_some' h
  obtain ⟨ks, h2, h⟩ := bind_some' h
  obtain ⟨h3, h⟩ := chk_some h
  injection h with h; subst h
  obtain ⟨d, h4, h5⟩ := ed_seq ha h1
  exact ed_lenSet o.calm (o.gl hg) (o.blt (by decide)) (o.gl hg2) (o.blt (by decide)) h4 h5 (keysOf_eq h2) h3 (star_ns hn)
/-! ### targets -/
def gOf (K : PySem.W.Frag) : Tgt → TG
  | .nm i => gName i
  | .tp ix => gTup K ix.length (gNames ix)
theorem bindY_ok {K : PySem.W.Frag} {t : Tgt} {y : Yld} {f : DL.Env → DL.Env} (h : bindY t y = some f) (hm : ∀ i ∈ t.ix, G.ms[i]? ≠ some true) : TgR K G (gOf K t) t.ix y f ∧ FtOk t.ix f := by
  unfold bindY at h
  split at h
  · injection h with h; subst h
    exact ⟨tg_name (hm _ (List.mem_singleton.mpr rfl)), ft_name⟩
  · obtain ⟨h1, h⟩ := chk_some h
    injection h with h; subst h
    exact ⟨tg_tup h1 hm, setE_ft h1⟩
  · injection h with h; subst h
    exact ⟨tg_two (hm _ (List.mem_cons_self ..)) (hm _ (List.mem_cons_of_mem _ (List.mem_cons_self ..))), ft_two⟩
  · cases h
theorem st_ok (o : OkX M tab Γ jr X) (h : stB Γ n = true) : Loc X.env.scope n ∧ (X.fn n = true ∨ X.env.scope.names.lookup n = some .local) := by
  unfold stB at h
  unfold L2.Loc
  rw [o.sc]
  split at h
  · rename_i e; exact ⟨.inl e, .inr e⟩
  · rename_i e; exact ⟨.inr e, .inl (o.fn h n)⟩
  · cases h
theorem cTgs_ok (o : OkX M tab Γ jr X) : ∀ {es : List Expr} {ix : List Nat}, cTgs Γ es = some ix → PGs X es (gNames ix) ∧ (assignEach es X.env).length = ix.length ∧ (assignEach es X.env).findIdx? (·.1) = none
  | [], ix, h => by
    injection h with h; subst h
    exact ⟨pgs_nil', rfl, rfl⟩
  | e :: es, ix, h => by
    cases e <;> first | (cases h; done) | skip
    rename_i x px
    simp only [cTgs] at h
    split at h
    · rename_i hs
      obtain ⟨i, h1, h⟩ := bind_some' h
      obtain ⟨r, h2, h⟩ := bind_some' h
      injection h with h; subst h
      obtain ⟨k1, k2, k3⟩ := cTgs_ok o h2
      obtain ⟨l1, l2⟩ := st_ok o hs
      refine ⟨pgs_cons' (pg_name (by rw [o.N]; exact o.nd) (by rw [o.N]; exact ixOf_ok h1) l1 l2) k1 rfl, ?_, ?_⟩
      · show (assignEach es X.env).length + 1 = r.length + 1
        rw [k2]
      · show List.findIdx? (·.1) ((false, _) :: assignEach es X.env) = none
        rw [List.findIdx?_cons, k3]; rfl
    · cases h
theorem cTgt_ok (o : OkX M tab Γ jr X) {t : Tgt} {tg : Expr} (h : cTgt Γ tg = some t) : PG X tg (gOf X.K t) := by
  unfold cTgt at h
  split at h
  · split at h
    · rename_i hs
      obtain ⟨i, h1, rfl⟩ := Option.map_eq_some_iff.mp h
      obtain ⟨l1, l2⟩ := st_ok o hs
      exact pg_name (by rw [o.N]; exact o.nd) (by rw [o.N]; exact ixOf_ok h1) l1 l2
    · cases h
  · obtain ⟨ix, h1, rfl⟩ := Option.map_eq_some_iff.mp h
    obtain ⟨k1, k2, k3⟩ := cTgs_ok o h1
    exact pg_tup o.calm k1 k2 k3
  · cases h
end
end RL
/-! RL4: expressions. -/
namespace RL
open PySem L2 DL PyProof.Rows PySem.W
theorem map_some' {α β : Type} {o : Option α} {f : α → β} {y : β} (h : o.map f = some y) : ∃ x, o = some x ∧ f x = y := Option.map_eq_some_iff.mp h
theorem ite_some {α : Type} {c : Bool} {x : Option α} {y : α} (h : (if c = true then x else none) = some y) : c = true ∧ x = some y := by
  split at h
  · rename_i hc; exact ⟨hc, h⟩
  · cases h
section
variable {M : Mo} {tab : Nat → Option (Str × List Str)} {Γ : Ga} {jr : Nat}
variable {X : Cx} {G : Gx} {e a b d o : Expr} {ρ ρ' ρ1 ρ2 ρ3 : DL.Env} {r s z s1 s2 : Slot} {x y w : D} {ds es : List D} {pos p p2 apos cpos : Pos} {k l k1 k2 k3 : Bool} {n : Str} {xs rest : List Expr} {i j : Nat}
theorem conj_var {f : Expr → Option CE} : ∀ {es : List Expr} {i : Nat}, cConj f es ≠ some (.var i)
  | [], i, h => by cases h
  | [e], i, h => by
    obtain ⟨x, _, h⟩ := map_some' h
    cases h
  | e :: e2 :: es, i, h => by
    obtain ⟨x, _, h⟩ := bind_some' h
    obtain ⟨x, _, h⟩ := bind_some' h
    cases h
theorem disj_var {f : Expr → Option CE} : ∀ {es : List Expr} {i : Nat}, cDisj f es ≠ some (.var i)
  | [], i, h => by cases h
  | [e], i, h => by
    obtain ⟨x, _, h⟩ := map_some' h
    cases h
  | e :: e2 :: es, i, h => by
    obtain ⟨x, _, h⟩ := bind_some' h
    obtain ⟨x, _, h⟩ := bind_some' h
    cases h
theorem meth_var {f : Expr → Option CE} {m : Str} {es : List Expr} : cMeth f Γ o m es ≠ some (.var i) := fun h => by
  unfold cMeth at h
  repeat' split at h
  all_goals simp [Option.bind_eq_some_iff, Option.map_eq_some_iff] at h
theorem call_var {f : Expr → Option CE} {g : Str} {es : List Expr} {kws : List Keyword} : cCall f Γ g es kws ≠ some (.var i) := fun h => by
  unfold cCall at h
  repeat' split at h
  all_goals simp [Option.bind_eq_some_iff, Option.map_eq_some_iff] at h
theorem comp_var {m : Nat} (h : compE m Γ e = some (.var i)) : ∃ x p, e = .Name x p ∧ cVar Γ x = some i := by
  cases m with
  | zero => cases h
  | succ m =>
    unfold compE at h
    split at h
    all_goals first
      | (exact absurd h conj_var)
      | (exact absurd h disj_var)
      | (exact absurd h call_var)
      | (cases h; done)
      | skip
    · split at h
      · obtain ⟨q, h1, h⟩ := map_some' h
        injection h with h; subst h
        exact ⟨_, _, rfl, h1⟩
      · split at h
        · simp [Option.map_eq_some_iff] at h
        · cases h
    all_goals try (simp [Option.bind_eq_some_iff, Option.map_eq_some_iff] at h; done)
    · repeat' split at h
      all_goals simp [Option.bind_eq_some_iff, Option.map_eq_some_iff] at h
    · split at h
      · exact absurd h meth_var
      · cases h
/-! ### lists of expressions, given what their parts do -/
variable {f : Expr → Option CE}
/-- what is known of the parts -/
def Parts (M : Mo) (tab : Nat → Option (Str × List Str)) (Γ : Ga) (f : Expr → Option CE) : Prop :=
  (∀ e a, f e = some a → SE M tab Γ e a ∧ ST M tab Γ e a) ∧ ∀ e i, f e = some (.var i) → ∃ x p, e = .Name x p ∧ cVar Γ x = some i
variable {c : Cs} {ms : List Bool} {A : CE}
theorem cList_ns : ∀ {es : List Expr} {A : CE}, cList f es = some A → es.all nsB = true
  | [], A, h => rfl
  | e :: es, A, h => by
    simp only [cList] at h
    obtain ⟨h1, h⟩ := ite_some h
    obtain ⟨a, h2, h⟩ := bind_some' h
    obtain ⟨r, h3, h⟩ := bind_some' h
    rw [List.all_cons, h1, cList_ns h3]; rfl
theorem cList_ok (W : Parts M tab Γ f) (o : OkX M tab Γ jr X) (hc : CalOk M tab jr c) (hm : MsOk G ms) : ∀ {es : List Expr} {A : CE} {ρ ρ' : DL.Env} {as : List ArgS}, cList f es = some A → evS c ms A ρ = some (as, ρ') → EAs X G es ρ ρ' as
  | [], A, ρ, ρ', as, h, q => by
    injection h with h; subst h
    simp only [evS] at q
    cases q; exact as_nil
  | e :: es, A, ρ, ρ', as, h, q => by
    simp only [cList] at h
    obtain ⟨h1, h⟩ := ite_some h
    obtain ⟨a, h2, h⟩ := bind_some' h
    obtain ⟨r, h3, h⟩ := bind_some' h
    injection h with h; subst h
    simp only [evS] at q
    split at q
    · rename_i i hi
      obtain ⟨rfl, ds, hd⟩ := ownVar_ok hi
      obtain ⟨x, p, rfl, hx⟩ := W.2 _ _ h2
      obtain ⟨w, q1, q⟩ := bind_some' q
      injection q with q
      obtain ⟨g1, g2, g3, g4⟩ := o.var hx
      cases q
      exact as_own g1 g2 hd (cList_ok W o hc hm h3 q1) rfl g3 g4
    · obtain ⟨u, q1, q⟩ := bind_some' q
      obtain ⟨w, q2, q⟩ := bind_some' q
      have E1 := (W.1 _ _ h2).1 X jr G c ms _ _ _ o hc hm q1
      have E2 := cList_ok W o hc hm h3 q2
      cases q
      cases hs : u.1 with
      | v k d => rw [hs] at E1; exact as_ex E1 E2 (star_ns h1)
      | own ds => rw [hs] at E1; exact as_ex (ed_fix E1) E2 (star_ns h1)
theorem cKws_ok (W : Parts M tab Γ f) (o : OkX M tab Γ jr X) (hc : CalOk M tab jr c) (hm : MsOk G ms) : ∀ {kws : List Keyword} {A : CE} {ρ ρ' : DL.Env} {as : List ArgS}, cList f (kwVals kws) = some A → evS c ms A ρ = some (as, ρ') → EKs X G kws ρ ρ' as
  | [], A, ρ, ρ', as, h, q => by
    injection h with h; subst h
    simp only [evS] at q
    cases q; exact ks_nil
  | ⟨nm, e, kp⟩ :: kws, A, ρ, ρ', as, h, q => by
    simp only [kwVals, List.map_cons, cList] at h
    obtain ⟨h1, h⟩ := ite_some h
    obtain ⟨a, h2, h⟩ := bind_some' h
    obtain ⟨r, h3, h⟩ := bind_some' h
    injection h with h; subst h
    simp only [evS] at q
    split at q
    · rename_i i hi
      obtain ⟨rfl, ds, hd⟩ := ownVar_ok hi
      obtain ⟨x, p, rfl, hx⟩ := W.2 _ _ h2
      obtain ⟨w, q1, q⟩ := bind_some' q
      obtain ⟨g1, g2, g3, g4⟩ := o.var hx
      cases q
      exact ks_own g1 g2 hd (cKws_ok W o hc hm h3 q1) g3 g4
    · obtain ⟨u, q1, q⟩ := bind_some' q
      obtain ⟨w, q2, q⟩ := bind_some' q
      have E1 := (W.1 _ _ h2).1 X jr G c ms _ _ _ o hc hm q1
      have E2 := cKws_ok W o hc hm h3 q2
      cases q
      cases hs : u.1 with
      | v k d => rw [hs] at E1; exact ks_ex E1 E2
      | own ds => rw [hs] at E1; exact ks_ex (ed_fix E1) E2
theorem cDisp_ok (W : Parts M tab Γ f) (o : OkX M tab Γ jr X) (hc : CalOk M tab jr c) (hm : MsOk G ms) : ∀ {es : List Expr} {A : CE} {ρ ρ' : DL.Env} {ds : List D}, cDisp f es = some A → evA c ms A ρ = some (ds, ρ') → EA X G es ρ ρ' ds
  | [], A, ρ, ρ', ds, h, q => by
    injection h with h; subst h
    simp only [evA] at q
    cases q; exact ea_nil
  | e :: es, A, ρ, ρ', ds, h, q => by
    unfold cDisp at h
    split at h
    · rename_i he; cases he
    · rename_i e' p' es' he
      injection he with he1 he2
      subst he1; subst he2
      obtain ⟨a, h2, h⟩ := bind_some' h
      obtain ⟨r, h3, h⟩ := bind_some' h
      injection h with h; subst h
      simp only [evA] at q
      obtain ⟨u, q1, q⟩ := bind_some' q
      obtain ⟨es, q2, q⟩ := bind_some' q
      obtain ⟨w, q3, q⟩ := bind_some' q
      have E1 := (W.1 _ _ h2).1 X jr G c ms _ _ _ o hc hm q1
      have E2 := cDisp_ok W o hc hm h3 q3
      cases q
      obtain ⟨k, g1, g2⟩ := itemsS_ok q2
      cases hs : u.1 with
      | v k' d =>
        rw [hs] at E1 g1
        cases g1 with
        | lst => exact ea_star E1 .lst g2 E2 rfl
        | tup => exact ea_star E1 .tup g2 E2 rfl
      | own ds =>
        rw [hs] at E1 g1
        cases g1
        exact ea_star (ed_fix E1) .lst (.inl rfl) E2 rfl
    · rename_i e' es' hn he
      injection he with he1 he2
      subst he1; subst he2
      have hns : nsB e = true := by
        cases e <;> first | rfl | (exact (hn _ _ rfl).elim)
      obtain ⟨a, h2, h⟩ := bind_some' h
      obtain ⟨r, h3, h⟩ := bind_some' h
      injection h with h; subst h
      simp only [evA] at q
      obtain ⟨u, q1, q⟩ := bind_some' q
      obtain ⟨x, q2, q⟩ := bind_some' q
      obtain ⟨w, q3, q⟩ := bind_some' q
      have E1 := (W.1 _ _ h2).1 X jr G c ms _ _ _ o hc hm q1
      have E2 := cDisp_ok W o hc hm h3 q3
      cases q
      exact ea_cons (ed_toV E1 (toV_ok q2)) E2 (star_ns hns)
theorem cConj_ok (W : Parts M tab Γ f) (o : OkX M tab Γ jr X) (hc : CalOk M tab jr c) (hm : MsOk G ms) : ∀ {es : List Expr} {A : CE} {ρ : DL.Env}, cConj f es = some A →
    (∀ ρ' r, evE c ms A ρ = some (r, ρ') → ED X G (.BoolOp .And es pos) ρ ρ' r) ∧ ∀ ρ' b, evT c ms A ρ = some (b, ρ') → EW X G (.BoolOp .And es pos) ρ ρ' b
  | [], A, ρ, h => by cases h
  | [e], A, ρ, h => by
    obtain ⟨a, h1, rfl⟩ := map_some' h
    refine ⟨fun ρ' r q => ?_, fun ρ' b q => ?_⟩
    · simp only [evE] at q
      exact ed_one ((W.1 _ _ h1).1 X jr G c ms _ _ _ o hc hm q)
    · simp only [evT] at q
      exact ew_and1 ((W.1 _ _ h1).2 X jr G c ms _ _ _ o hc hm q)
  | e :: e2 :: es, A, ρ, h => by
    obtain ⟨a, h1, h⟩ := bind_some' h
    obtain ⟨r, h2, h⟩ := bind_some' h
    injection h with h; subst h
    refine ⟨fun ρ' z q => ?_, fun ρ' b q => ?_⟩
    · simp only [evE] at q
      obtain ⟨u, q1, q⟩ := bind_some' q
      obtain ⟨k, q2, q⟩ := bind_some' q
      obtain ⟨k1, E1⟩ := ed_blS ((W.1 _ _ h1).1 X jr G c ms _ _ _ o hc hm q1) q2
      cases k with
      | true => exact ed_andT E1 ((cConj_ok W o hc hm h2).1 _ _ q)
      | false => cases q; exact ed_andF E1
    · simp only [evT] at q
      obtain ⟨u, q1, q⟩ := bind_some' q
      have E1 := (W.1 _ _ h1).2 X jr G c ms _ _ _ o hc hm q1
      cases hk : u.1 with
      | true => rw [hk] at q E1; exact ew_andT E1 ((cConj_ok W o hc hm h2).2 _ _ q)
      | false => rw [hk] at q E1; cases q; exact ew_andF E1
theorem cDisj_ok (W : Parts M tab Γ f) (o : OkX M tab Γ jr X) (hc : CalOk M tab jr c) (hm : MsOk G ms) : ∀ {es : List Expr} {A : CE} {ρ : DL.Env}, cDisj f es = some A →
    (∀ ρ' r, evE c ms A ρ = some (r, ρ') → ED X G (.BoolOp .Or es pos) ρ ρ' r) ∧ ∀ ρ' b, evT c ms A ρ = some (b, ρ') → EW X G (.BoolOp .Or es pos) ρ ρ' b
  | [], A, ρ, h => by cases h
  | [e], A, ρ, h => by
    obtain ⟨a, h1, rfl⟩ := map_some' h
    refine ⟨fun ρ' r q => ?_, fun ρ' b q => ?_⟩
    · simp only [evE] at q
      exact ed_one ((W.1 _ _ h1).1 X jr G c ms _ _ _ o hc hm q)
    · simp only [evT] at q
      exact ew_or1 ((W.1 _ _ h1).2 X jr G c ms _ _ _ o hc hm q)
  | e :: e2 :: es, A, ρ, h => by
    obtain ⟨a, h1, h⟩ := bind_some' h
    obtain ⟨r, h2, h⟩ := bind_some' h
    injection h with h; subst h
    refine ⟨fun ρ' z q => ?_, fun ρ' b q => ?_⟩
    · simp only [evE] at q
      obtain ⟨u, q1, q⟩ := bind_some' q
      obtain ⟨k, q2, q⟩ := bind_some' q
      obtain ⟨k1, E1⟩ := ed_blS ((W.1 _ _ h1).1 X jr G c ms _ _ _ o hc hm q1) q2
      cases k with
      | false => exact ed_orF E1 ((cDisj_ok W o hc hm h2).1 _ _ q)
      | true => cases q; exact ed_orT E1
    · simp only [evT] at q
      obtain ⟨u, q1, q⟩ := bind_some' q
      have E1 := (W.1 _ _ h1).2 X jr G c ms _ _ _ o hc hm q1
      cases hk : u.1 with
      | false => rw [hk] at q E1; exact ew_orF E1 ((cDisj_ok W o hc hm h2).2 _ _ q)
      | true => rw [hk] at q E1; cases q; exact ew_orT E1
theorem cOpt_ok (W : Parts M tab Γ f) (o : OkX M tab Γ jr X) (hc : CalOk M tab jr c) (hm : MsOk G ms) {eo : Option Expr} {l : Option Int} (h : cOpt f eo = some A) (q : evO c ms A ρ = some (l, ρ')) : EO X G eo ρ ρ' l := by
  cases eo with
  | none =>
    injection h with h; subst h
    simp only [evO] at q
    cases q; exact eo_none
  | some e =>
    obtain ⟨a, h1, rfl⟩ := map_some' h
    simp only [evO] at q
    obtain ⟨u, q1, q⟩ := bind_some' q
    obtain ⟨i, q2, q⟩ := bind_some' q
    obtain ⟨k1, E1⟩ := ed_intS ((W.1 _ _ h1).1 X jr G c ms _ _ _ o hc hm q1) q2
    cases q
    exact eo_some E1
theorem wkS_ok {tg : Expr} {w : Wk} (h : ED X G e ρ ρ' s) (q : wkS s = some w) : WD X G tg e ρ ρ' w.m w.it := by
  unfold wkS at q
  split at q
  · cases q; exact wk_list (dx := .non) (ed_fix h)
  · cases q; exact wk_list (dx := .non) h
  · cases q; exact wk_tup (dx := .non) h
  · cases q; exact wk_str h
  · cases q
theorem cWalk_ok (W : Parts M tab Γ f) (o : OkX M tab Γ jr X) (hc : CalOk M tab jr c) (hm : MsOk G ms) {tg it : Expr} {w : Wk} (h : cWalk f Γ.sc tg it = some A) (q : evW c ms A ρ = some (w, ρ')) :
    WD X G tg it ρ ρ' w.m w.it ∧ ∀ x, foldedSetIterable it X.env x = pure x := by
  have plain : ∀ {e : Expr}, (f e).map CE.one = some A → WD X G tg e ρ ρ' w.m w.it := fun {e} h => by
    obtain ⟨a, h1, rfl⟩ := map_some' h
    simp only [evW] at q
    obtain ⟨u, q1, q⟩ := bind_some' q
    obtain ⟨v, q2, q⟩ := bind_some' q
    cases q
    exact wkS_ok ((W.1 _ _ h1).1 X jr G c ms _ _ _ o hc hm q1) q2
  unfold cWalk at h
  split at h
  · refine ⟨?_, fun x => rfl⟩
    split at h
    · rename_i hg
      subst hg
      obtain ⟨h1, h⟩ := ite_some h
      rw [Bool.and_eq_true] at h1
      obtain ⟨a, h2, rfl⟩ := map_some' h
      simp only [evW] at q
      obtain ⟨u, q1, q⟩ := bind_some' q
      obtain ⟨i, q2, q⟩ := bind_some' q
      obtain ⟨h3, q⟩ := chk_some q
      obtain ⟨k1, E1⟩ := ed_intS ((W.1 _ _ h2).1 X jr G c ms _ _ _ o hc hm q1) q2
      cases q
      exact wk_range (o.gl h1.1) (o.blt (by decide)) E1 h3 (star_ns h1.2)
    · split at h
      · rename_i hg
        subst hg
        obtain ⟨h1, h⟩ := ite_some h
        simp only [Bool.and_eq_true] at h1
        obtain ⟨a, h2, rfl⟩ := map_some' h
        simp only [evW] at q
        obtain ⟨u, q1, q⟩ := bind_some' q
        obtain ⟨i, q2, q⟩ := bind_some' q
        obtain ⟨d, E1, E2⟩ := ed_seq ((W.1 _ _ h2).1 X jr G c ms _ _ _ o hc hm q1) q2
        cases q
        obtain ⟨⟨h3, h4⟩, h5⟩ := h1
        cases tg <;> first | (cases h5; done) | skip
        exact wk_enum (dx := .non) (o.gl h3) (o.blt (by decide)) E1 E2 (star_ns h4)
      · exact plain h
  · refine ⟨?_, fun x => rfl⟩
    split at h
    · rename_i hg
      subst hg
      obtain ⟨h1, h⟩ := ite_some h
      simp only [Bool.and_eq_true] at h1
      obtain ⟨a, h2, h⟩ := bind_some' h
      obtain ⟨b, h6, h⟩ := bind_some' h
      injection h with h; subst h
      simp only [evW] at q
      obtain ⟨u, q1, q⟩ := bind_some' q
      obtain ⟨v, q2, q⟩ := bind_some' q
      obtain ⟨i, q3, q⟩ := bind_some' q
      obtain ⟨j, q4, q⟩ := bind_some' q
      obtain ⟨d, E1, E2⟩ := ed_seq ((W.1 _ _ h2).1 X jr G c ms _ _ _ o hc hm q1) q3
      obtain ⟨d', E3, E4⟩ := ed_seq ((W.1 _ _ h6).1 X jr G c ms _ _ _ o hc hm q2) q4
      cases q
      obtain ⟨⟨⟨h3, h4⟩, h5⟩, h7⟩ := h1
      cases tg <;> first | (cases h7; done) | skip
      exact wk_zip (dx := .non) (o.gl h3) (o.blt (by decide)) E1 E3 E2 E4 rfl (star_ns h4) (star_ns h5) (any_ns (by rw [List.all_cons, h5]; rfl))
    · split at h
      · cases h
      · exact plain h
  · cases h
  · rename_i hn1 hn2 hn3
    refine ⟨plain h, fun x => ?_⟩
    cases it <;> first | rfl | (exact (hn3 _ _ _ rfl).elim)
end
end RL
/-! RL5: calls, comprehensions, all expressions. -/
namespace RL
open PySem L2 DL PyProof.Rows PySem.W
section
variable {M : Mo} {tab : Nat → Option (Str × List Str)} {Γ : Ga} {jr : Nat}
variable {X : Cx} {G : Gx} {e a b d o : Expr} {ρ ρ' ρ1 ρ2 ρ3 : DL.Env} {r s z s1 s2 : Slot} {x y w : D} {ds es : List D} {pos p p2 apos cpos : Pos} {k l k1 k2 k3 : Bool} {n : Str} {xs rest : List Expr} {i j : Nat}
variable {f : Expr → Option CE} {c : Cs} {ms : List Bool} {A : CE}
theorem argTo_ok {m : Bool} {aa : ArgS} (h : argTo ρ m aa = some s) : ArgTo ρ aa s := by
  unfold argTo at h
  split at h
  · injection h with h; subst h
    rename_i k d
    cases hs : isSc d with
    | true => exact .sc hs
    | false =>
      cases k with
      | true => exact .val
      | false => exact .view
  · split at h
    · injection h with h; subst h; rename_i hd; exact .own hd
    · cases h
  · split at h
    · injection h with h; subst h; rename_i hd; exact .bor hd
    · cases h
  · cases h
theorem argsTo_ok : ∀ {mm : List Bool} {as : List ArgS} {args : List Slot}, argsTo ρ mm as = some args → ArgsTo ρ as args
  | [], [], args, h => by cases h; exact .nil
  | m :: mm, a :: as, args, h => by
    simp only [argsTo] at h
    obtain ⟨s, h1, h⟩ := bind_some' h
    obtain ⟨r, h2, h⟩ := bind_some' h
    cases h
    exact .cons (argTo_ok h1) (argsTo_ok h2)
  | [], a :: as, args, h => by cases h
  | m :: mm, [], args, h => by cases h
theorem callS_ok {g : Nat} {q : List ArgS × DL.Env} {u : Slot × DL.Env} (h : callS c g q = some u) : ∃ args outs, ArgsTo q.2 q.1 args ∧ (varsOf q.1).Nodup ∧ c.C g args = some (u.1, outs) ∧ u.2 = backE q.2 q.1 outs := by
  unfold callS at h
  obtain ⟨args, h1, h⟩ := bind_some' h
  obtain ⟨h2, h⟩ := chk_some h
  obtain ⟨w, h3, h⟩ := bind_some' h
  cases h
  exact ⟨args, w.2, argsTo_ok h1, h2, h3, rfl⟩
theorem kw_all {kws : List Keyword} {ps : List Str} {env : PySem.Env} (h : kwNames kws = ps.map some) : (backToKw pos (keywordEach kws env)).all (·.1.isSome) = true ∧ (backToKw pos (keywordEach kws env)).filterMap (·.1) = ps ∧ (backToKw pos (keywordEach kws env)).any (·.1.isNone) = false := by
  induction kws generalizing ps with
  | nil =>
    cases ps with
    | nil => exact ⟨rfl, rfl, rfl⟩
    | cons _ _ => cases h
  | cons k kws ih =>
    obtain ⟨nm, v, kp⟩ := k
    cases ps with
    | nil => cases h
    | cons p ps =>
      unfold kwNames at h
      rw [List.map_cons, List.map_cons] at h
      injection h with h1 h2
      have h1 : nm = some p := h1
      subst h1
      obtain ⟨i1, i2, i3⟩ := ih h2
      refine ⟨?_, ?_, ?_⟩
      · show (true && (backToKw pos (keywordEach kws env)).all (·.1.isSome)) = true
        rw [i1]; rfl
      · show p :: (backToKw pos (keywordEach kws env)).filterMap (·.1) = p :: ps
        rw [i2]
      · show (false || (backToKw pos (keywordEach kws env)).any (·.1.isNone)) = false
        rw [i3]; rfl
theorem tyN_blt {n : Str} {T : String} (h : tyN n = some T) : n ∈ bltN := by
  unfold tyN at h
  repeat' split at h
  all_goals first | (cases h; done) | (rename_i e; subst e; decide)
theorem isi1_ok {T : String} {pT : Pos} (o : OkX M tab Γ jr X) (hg1 : glB Γ.sc "isinstance" = true) (E : ED X G a ρ ρ1 s) (hp : plainD (datS s) = true) (ht : tyN n = some T) (hgn : glB Γ.sc n = true) (hn : nsB a = true) :
    ED X G (.Call (.Name "isinstance" p) [a, .Name n pT] [] pos) ρ ρ1 (.val (.bl (isiL (datS s) [T]))) := by
  obtain ⟨t1, t2, t3, t4⟩ := tyN_ok ht
  obtain ⟨k, E1⟩ := ed_dat E
  exact ed_isi (o.gl hg1) (o.blt (by decide)) E1 hp (o.gl hgn) (o.blt (tyN_blt ht)) t1 t2 t3 t4 (star_ns hn) rfl rfl
theorem isi2_ok {T T2 : String} {n2 : Str} {pT pT2 pt : Pos} {tk : Nat} (o : OkX M tab Γ jr X) (hg1 : glB Γ.sc "isinstance" = true) (E : ED X G a ρ ρ1 s) (hp : plainD (datS s) = true) (ht : tyN n = some T) (hgn : glB Γ.sc n = true) (ht2 : tyN n2 = some T2) (hgn2 : glB Γ.sc n2 = true) (hn : nsB a = true) :
    ED X G (.Call (.Name "isinstance" p) [a, .Tuple [.Name n pT, .Name n2 pT2] tk pt] [] pos) ρ ρ1 (.val (.bl (isiL (datS s) [T, T2]))) := by
  obtain ⟨t1, t2, t3, t4⟩ := tyN_ok ht
  obtain ⟨u1, u2, u3, u4⟩ := tyN_ok ht2
  obtain ⟨k, E1⟩ := ed_dat E
  exact ed_isi2 (o.gl hg1) (o.blt (by decide)) E1 hp (o.gl hgn) (o.blt (tyN_blt ht)) t1 t2 (o.gl hgn2) (o.blt (tyN_blt ht2)) u1 u2 t3 t4 u3 u4 (star_ns hn) rfl rfl rfl rfl
/-- what stands in a call's place -/
def isCallE : Expr → Bool
  | .Call .. => true
  | _ => false
theorem cCall_ok (W : Parts M tab Γ f) (o : OkX M tab Γ jr X) (hc : CalOk M tab jr c) (hm : MsOk G ms) {g : Str} {es : List Expr} {kws : List Keyword} (h : cCall f Γ g es kws = some A) :
    (∀ ρ' r, evE c ms A ρ = some (r, ρ') → ED X G (.Call (.Name g p) es kws pos) ρ ρ' r) ∧ ∀ b ρ', evT c ms A ρ = some (b, ρ') → ∃ k, ED X G (.Call (.Name g p) es kws pos) ρ ρ' (.v k (.bl b)) := by
  have fromCall : ∀ {j : Nat} {B : CE}, (∀ ρ' r, evE c ms (.call j B) ρ = some (r, ρ') → ED X G (.Call (.Name g p) es kws pos) ρ ρ' r) → ∀ b ρ', evT c ms (.call j B) ρ = some (b, ρ') → ∃ k, ED X G (.Call (.Name g p) es kws pos) ρ ρ' (.v k (.bl b)) := by
    intro j B H b ρ' q
    simp only [evT] at q
    obtain ⟨u, q1, q⟩ := bind_some' q
    obtain ⟨v, q2, q⟩ := bind_some' q
    obtain ⟨b', q3, q⟩ := bind_some' q
    cases q
    exact ed_blS (H v.2 v.1 (by simp only [evE, q1, Option.bind_some, q2])) q3
  have fromFn : ∀ {bf : Bf} {B : CE}, (∀ ρ' r, evE c ms (.fn bf B) ρ = some (r, ρ') → ED X G (.Call (.Name g p) es kws pos) ρ ρ' r) → (∀ ρ' r, (evE c ms B ρ).bind (fun p => (fnS bf p.1).bind fun z => some (z, p.2)) = some (r, ρ') → ED X G (.Call (.Name g p) es kws pos) ρ ρ' r) → ∀ b ρ', evT c ms (.fn bf B) ρ = some (b, ρ') → ∃ k, ED X G (.Call (.Name g p) es kws pos) ρ ρ' (.v k (.bl b)) := by
    intro bf B _ H b ρ' q
    simp only [evT] at q
    obtain ⟨u, q1, q⟩ := bind_some' q
    obtain ⟨v, q2, q⟩ := bind_some' q
    obtain ⟨b', q3, q⟩ := bind_some' q
    cases q
    exact ed_blS (H u.2 v (by simp only [q1, Option.bind_some, q2])) q3
  unfold cCall at h
  obtain ⟨hg, h0⟩ := ite_some h
  clear h
  have h := h0
  clear h0
  rw [Bool.and_eq_true] at hg
  obtain ⟨hg1, hg2⟩ := hg
  obtain ⟨hd1, hd2⟩ := okN_ok hg2
  split at h
  · rename_i j ps hf
    have htab := o.fns _ _ _ hf
    split at h
    · obtain ⟨h1, h⟩ := ite_some h
      rw [Bool.and_eq_true] at h1
      obtain ⟨B, h2, rfl⟩ := map_some' h
      have H : ∀ ρ' r, evE c ms (.call j B) ρ = some (r, ρ') → ED X G (.Call (.Name g p) [] kws pos) ρ ρ' r := by
        intro ρ' r q
        simp only [evE] at q
        obtain ⟨u, q1, q⟩ := bind_some' q
        obtain ⟨args, outs, k1, k2, k3, k4⟩ := callS_ok q
        obtain ⟨x, ps', t1, t2, t3, t4⟩ := hc _ _ _ _ k3
        rw [htab] at t1
        cases t1
        obtain ⟨w1, w2, w3⟩ := kw_all (pos := pos) (env := X.env) (of_decide_eq_true h1.2)
        have k4 : ρ' = backE u.2 u.1 outs := k4
        rw [k4]
        rw [← o.prog, ← o.w, ← o.K, ← o.mg, ← o.base] at t2
        exact ed_calK t2 o.room (Nat.le_refl _) (o.gl hg1) (cKws_ok W o hc hm h2 q1) k1 k2 t4 t3 w1 w2 hd1 (by rw [w3]; rfl)
      exact ⟨H, fromCall H⟩
    · rename_i hne
      obtain ⟨B, h2, rfl⟩ := map_some' h
      have H : ∀ ρ' r, evE c ms (.call j B) ρ = some (r, ρ') → ED X G (.Call (.Name g p) es [] pos) ρ ρ' r := by
        intro ρ' r q
        simp only [evE] at q
        obtain ⟨u, q1, q⟩ := bind_some' q
        obtain ⟨args, outs, k1, k2, k3, k4⟩ := callS_ok q
        obtain ⟨x, ps', t1, t2, t3, t4⟩ := hc _ _ _ _ k3
        rw [htab] at t1
        cases t1
        have k4 : ρ' = backE u.2 u.1 outs := k4
        rw [k4]
        rw [← o.prog, ← o.w, ← o.K, ← o.mg, ← o.base] at t2
        have hns := cList_ns h2
        match es, hne, h2, hns with
        | [], hne, _, _ => exact (hne rfl).elim
        | a :: es, _, h2, hns =>
          rw [List.all_cons, Bool.and_eq_true] at hns
          exact ed_cal t2 o.room (Nat.le_refl _) (o.gl hg1) (cList_ok W o hc hm h2 q1) k1 k2 t4 t3 hd1 (star_ns hns.1) (any_ns hns.2)
      exact ⟨H, fromCall H⟩
    · cases h
  · have fnCase : ∀ {a : Expr} {bf : Bf} {B : CE}, es = [a] → kws = [] → nsB a = true → bfN g = some bf → f a = some B → A = .fn bf B → (∀ ρ' r, evE c ms A ρ = some (r, ρ') → ED X G (.Call (.Name g p) es kws pos) ρ ρ' r) ∧ ∀ b ρ', evT c ms A ρ = some (b, ρ') → ∃ k, ED X G (.Call (.Name g p) es kws pos) ρ ρ' (.v k (.bl b)) := by
      intro a bf B e1 e2 hn hb hB eA
      subst e1; subst e2; subst eA
      have base : ∀ ρ' r, (evE c ms B ρ).bind (fun p => (fnS bf p.1).bind fun z => some (z, p.2)) = some (r, ρ') → ED X G (.Call (.Name g p) [a] [] pos) ρ ρ' r := by
        intro ρ' r q
        obtain ⟨u, q1, q⟩ := bind_some' q
        obtain ⟨v, q2, q⟩ := bind_some' q
        cases q
        exact fn_ok o hb hg1 hn ((W.1 _ _ hB).1 X jr G c ms _ _ _ o hc hm q1) q2
      have H : ∀ ρ' r, evE c ms (.fn bf B) ρ = some (r, ρ') → ED X G (.Call (.Name g p) [a] [] pos) ρ ρ' r := by
        intro ρ' r q
        simp only [evE] at q
        split at q
        · rename_i i hi
          obtain ⟨rfl, ds, hd⟩ := ownVar_ok hi
          obtain ⟨x, px, rfl, hx⟩ := W.2 _ _ hB
          obtain ⟨g1, g2, g3, g4⟩ := o.var hx
          obtain ⟨ds', q1, q⟩ := bind_some' q
          cases q
          have hl : g = "len" := by
            unfold bfN at hb
            split at hb
            · assumption
            · repeat' split at hb
              all_goals cases hb
          subst hl
          exact ed_lenO (o.gl hg1) (o.blt (by decide)) g1 g2 (getO_ok q1) rfl rfl g3 g4
        · exact base _ _ q
      exact ⟨H, fromFn H base⟩
    split at h
    · split at h
      · rename_i h1
        obtain ⟨rfl, rfl⟩ := h1
        obtain ⟨h2, h⟩ := ite_some h
        rw [Bool.and_eq_true] at h2
        obtain ⟨B, h3, rfl⟩ := map_some' h
        refine ⟨fun ρ' r q => ?_, fun b ρ' q => ?_⟩
        · simp only [evE] at q
          obtain ⟨u, q1, q⟩ := bind_some' q
          obtain ⟨v, q2, q⟩ := bind_some' q
          cases q
          exact lenSet_ok o hg1 h2.1 h2.2 ((W.1 _ _ h3).1 X jr G c ms _ _ _ o hc hm q1) q2
        · simp only [evT] at q
          obtain ⟨u, q1, q⟩ := bind_some' q
          obtain ⟨v, q2, q⟩ := bind_some' q
          obtain ⟨b', q3, q⟩ := bind_some' q
          cases q
          exact ed_blS (lenSet_ok o hg1 h2.1 h2.2 ((W.1 _ _ h3).1 X jr G c ms _ _ _ o hc hm q1) q2) q3
      · obtain ⟨bf, h1, h⟩ := bind_some' h
        obtain ⟨B, h2, rfl⟩ := map_some' h
        exact fnCase rfl rfl rfl h1 h2 rfl
    · obtain ⟨h0, h⟩ := ite_some h
      obtain ⟨bf, h1, h⟩ := bind_some' h
      obtain ⟨B, h2, rfl⟩ := map_some' h
      exact fnCase rfl rfl h0 h1 h2 rfl
    · split at h
      · rename_i hg0
        subst hg0
        obtain ⟨h1, h⟩ := ite_some h
        rw [Bool.and_eq_true] at h1
        obtain ⟨T, h2, h⟩ := bind_some' h
        obtain ⟨B, h3, rfl⟩ := map_some' h
        refine ⟨fun ρ' r q => ?_, fun b ρ' q => ?_⟩
        · simp only [evE] at q
          obtain ⟨u, q1, q⟩ := bind_some' q
          obtain ⟨q2, q⟩ := chk_some q
          cases q
          exact isi1_ok o hg1 ((W.1 _ _ h3).1 X jr G c ms _ _ _ o hc hm q1) q2 h2 h1.2 h1.1
        · simp only [evT] at q
          obtain ⟨u, q1, q⟩ := bind_some' q
          obtain ⟨q2, q⟩ := chk_some q
          cases q
          exact ⟨_, isi1_ok o hg1 ((W.1 _ _ h3).1 X jr G c ms _ _ _ o hc hm q1) q2 h2 h1.2 h1.1⟩
      · cases h
    · split at h
      · rename_i hg0
        subst hg0
        obtain ⟨h1, h⟩ := ite_some h
        simp only [Bool.and_eq_true] at h1
        obtain ⟨T, h2, h⟩ := bind_some' h
        obtain ⟨T2, h4, h⟩ := bind_some' h
        obtain ⟨B, h3, rfl⟩ := map_some' h
        refine ⟨fun ρ' r q => ?_, fun b ρ' q => ?_⟩
        · simp only [evE] at q
          obtain ⟨u, q1, q⟩ := bind_some' q
          obtain ⟨q2, q⟩ := chk_some q
          cases q
          exact isi2_ok o hg1 ((W.1 _ _ h3).1 X jr G c ms _ _ _ o hc hm q1) q2 h2 h1.1.2 h4 h1.2 h1.1.1
        · simp only [evT] at q
          obtain ⟨u, q1, q⟩ := bind_some' q
          obtain ⟨q2, q⟩ := chk_some q
          cases q
          exact ⟨_, isi2_ok o hg1 ((W.1 _ _ h3).1 X jr G c ms _ _ _ o hc hm q1) q2 h2 h1.1.2 h4 h1.2 h1.1.1⟩
      · cases h
    · cases h
theorem cOwnVar_ok (o : OkX M tab Γ jr X) (h : cOwnVar Γ e = some i) : ∃ x p, e = .Name x p ∧ X.N[i]? = some x ∧ Vis X.env.scope x ∧ (x == ("__debug__" : Str)) = false ∧ (x == ("__classdict__" : Str)) = false := by
  unfold cOwnVar at h
  split at h
  · exact ⟨_, _, rfl, o.var h⟩
  · cases h
theorem cMeth_ok (W : Parts M tab Γ f) (ox : OkX M tab Γ jr X) (hc : CalOk M tab jr c) (hm : MsOk G ms) {m : Str} {es : List Expr} (hl : (apos.endLine == cpos.line) = true) (h : cMeth f Γ o m es = some A) :
    (∀ ρ' r, evE c ms A ρ = some (r, ρ') → ED X G (.Call (.Attribute o m apos) es [] cpos) ρ ρ' r) ∧ ∀ b ρ', evT c ms A ρ ≠ some (b, ρ') := by
  unfold cMeth at h
  split at h
  · split at h
    · rename_i hm'
      subst hm'
      obtain ⟨i, h1, rfl⟩ := map_some' h
      obtain ⟨x, p, rfl, g1, g2, g3, g4⟩ := cOwnVar_ok ox h1
      refine ⟨fun ρ' r q => ?_, fun b ρ' q => by simp only [evT] at q; cases q⟩
      simp only [evE] at q
      obtain ⟨ds, q1, q⟩ := bind_some' q
      cases q
      exact ed_reverse g1 g2 (getO_ok q1) g3 g4 rfl hl
    · cases h
  · obtain ⟨hn, h0⟩ := ite_some h
    clear h
    have h := h0
    clear h0
    split at h
    · rename_i hm'
      subst hm'
      obtain ⟨i, h1, h⟩ := bind_some' h
      obtain ⟨B, h2, rfl⟩ := map_some' h
      obtain ⟨x, p, rfl, g1, g2, g3, g4⟩ := cOwnVar_ok ox h1
      refine ⟨fun ρ' r q => ?_, fun b ρ' q => by simp only [evT] at q; cases q⟩
      simp only [evE] at q
      obtain ⟨es, q1, q⟩ := bind_some' q
      obtain ⟨u, q2, q⟩ := bind_some' q
      obtain ⟨d, q3, q⟩ := bind_some' q
      obtain ⟨ds, q4, q⟩ := bind_some' q
      obtain ⟨q5, q⟩ := chk_some q
      cases q
      exact ed_append g1 g2 (getO_ok q1) ((W.1 _ _ h2).1 X jr G c ms _ _ _ ox hc hm q2) (toV_ok q3) (getO_ok q4) q5 g3 g4 rfl (star_ns hn) rfl hl (few_ok hn)
    · split at h
      · rename_i hm'
        subst hm'
        obtain ⟨i, h1, h⟩ := bind_some' h
        obtain ⟨B, h2, rfl⟩ := map_some' h
        obtain ⟨x, p, rfl, g1, g2, g3, g4⟩ := cOwnVar_ok ox h1
        refine ⟨fun ρ' r q => ?_, fun b ρ' q => by simp only [evT] at q; cases q⟩
        simp only [evE] at q
        obtain ⟨es, q1, q⟩ := bind_some' q
        obtain ⟨u, q2, q⟩ := bind_some' q
        obtain ⟨d, q3, q⟩ := bind_some' q
        obtain ⟨ds, q4, q⟩ := bind_some' q
        split at q
        · obtain ⟨q5, q⟩ := chk_some q
          cases q
          exact ed_extend g1 g2 (getO_ok q1) ((W.1 _ _ h2).1 X jr G c ms _ _ _ ox hc hm q2) (toV_ok q3) (getO_ok q4) q5 g3 g4 rfl (star_ns hn) rfl hl (few_ok hn)
        · cases q
      · split at h
        · rename_i hm'
          subst hm'
          obtain ⟨i, h1, h⟩ := bind_some' h
          obtain ⟨B, h2, rfl⟩ := map_some' h
          obtain ⟨x, p, rfl, g1, g2, g3, g4⟩ := cOwnVar_ok ox h1
          refine ⟨fun ρ' r q => ?_, fun b ρ' q => by simp only [evT] at q; cases q⟩
          simp only [evE] at q
          obtain ⟨es, q1, q⟩ := bind_some' q
          obtain ⟨u, q2, q⟩ := bind_some' q
          obtain ⟨j, q3, q⟩ := bind_some' q
          obtain ⟨ds, q4, q⟩ := bind_some' q
          obtain ⟨q5, q⟩ := chk_some q
          obtain ⟨d, q6, q⟩ := bind_some' q
          obtain ⟨k, E1⟩ := ed_intS ((W.1 _ _ h2).1 X jr G c ms _ _ _ ox hc hm q2) q3
          cases q
          exact ed_popAt g1 g2 (getO_ok q1) E1 (getO_ok q4) (by omega) q6 q5.2 g3 g4 rfl (star_ns hn) rfl hl (few_ok hn)
        · split at h
          · rename_i hm'
            subst hm'
            obtain ⟨hr, h⟩ := ite_some h
            obtain ⟨B, h1, h⟩ := bind_some' h
            obtain ⟨B2, h2, rfl⟩ := map_some' h
            refine ⟨fun ρ' r q => ?_, fun b ρ' q => by simp only [evT] at q; cases q⟩
            simp only [evE] at q
            obtain ⟨u, q1, q⟩ := bind_some' q
            obtain ⟨v, q2, q⟩ := bind_some' q
            obtain ⟨w, q3, q⟩ := bind_some' q
            obtain ⟨q4, q⟩ := chk_some q
            obtain ⟨d, E1, E2⟩ := ed_seq ((W.1 _ _ h1).1 X jr G c ms _ _ _ ox hc hm q1) q3
            obtain ⟨k, E3⟩ := ed_dat ((W.1 _ _ h2).1 X jr G c ms _ _ _ ox hc hm q2)
            cases q
            cases E2 with
            | lst => exact ed_countL E1 E3 q4.1 q4.2 (recv_ok hr) (star_ns hn) rfl hl (few_ok hn)
            | tup => exact ed_countT E1 E3 q4.1 q4.2 (recv_ok hr) (star_ns hn) rfl hl (few_ok hn)
          · split at h
            · rename_i hm'
              subst hm'
              obtain ⟨hr, h⟩ := ite_some h
              obtain ⟨B, h1, h⟩ := bind_some' h
              obtain ⟨B2, h2, rfl⟩ := map_some' h
              refine ⟨fun ρ' r q => ?_, fun b ρ' q => by simp only [evT] at q; cases q⟩
              simp only [evE] at q
              obtain ⟨u, q1, q⟩ := bind_some' q
              obtain ⟨v, q2, q⟩ := bind_some' q
              obtain ⟨t, q3, q⟩ := bind_some' q
              obtain ⟨ds, q4, q⟩ := bind_some' q
              obtain ⟨ss, q5, q⟩ := bind_some' q
              obtain ⟨q6, q⟩ := chk_some q
              obtain ⟨k, E1⟩ := ed_strS ((W.1 _ _ h1).1 X jr G c ms _ _ _ ox hc hm q1) q3
              cases q
              exact ed_join E1 ((W.1 _ _ h2).1 X jr G c ms _ _ _ ox hc hm q2) (lstS_ok q4) (strsOf_eq q5) q6 (recv_ok hr) (star_ns hn) rfl hl (few_ok hn)
            · cases h
  · cases h
end
end RL
/-! RL6: comprehensions; all expressions. -/
namespace RL
open PySem L2 DL PyProof.Rows PySem.W
theorem compL_some {f : Nat → DL.Env → Option (Option D × DL.Env)} : ∀ {k t : Nat} {ρ : DL.Env} {acc : List D} {z : List D × DL.Env}, compL f t k ρ acc = some z → ∀ i, t ≤ i → i < t + k → ∃ ρ' q, f i ρ' = some q
  | 0, t, ρ, acc, z, h, i, h1, h2 => by omega
  | k + 1, t, ρ, acc, z, h, i, h1, h2 => by
    obtain ⟨q, h3, h4⟩ := bind_some' h
    by_cases e : t = i
    · subst e; exact ⟨_, _, h3⟩
    · exact compL_some h4 i (by omega) (by omega)
section
variable {M : Mo} {tab : Nat → Option (Str × List Str)} {Γ : Ga} {jr : Nat}
variable {X : Cx} {G : Gx} {e a b d o : Expr} {ρ ρ' ρ1 ρ2 ρ3 : DL.Env} {r s z s1 s2 : Slot} {x y : D} {ds es : List D} {pos p p2 apos cpos : Pos} {k l k1 k2 k3 : Bool} {n : Str} {xs rest : List Expr} {i j : Nat}
variable {f : Expr → Option CE} {c : Cs} {ms : List Bool} {A : CE}
noncomputable def compF (c : Cs) (e : CE) (tg : Tgt) (vs : List Nat) (it : Nat → Yld) (t : Nat) (ρ' : DL.Env) : Option (Option D × DL.Env) :=
  (bindY tg (it t)).bind fun g => (evE c (maskE (g (wipeE ρ' vs))) e (g (wipeE ρ' vs))).bind fun q => (toV q.1).bind fun x => some (some x, mergeE 0 ρ' q.2 vs)
noncomputable def compIF (c : Cs) (e t : CE) (tg : Tgt) (vs : List Nat) (it : Nat → Yld) (i : Nat) (ρ' : DL.Env) : Option (Option D × DL.Env) :=
  (bindY tg (it i)).bind fun g => (evT c (maskE (g (wipeE ρ' vs))) t (g (wipeE ρ' vs))).bind fun b => chk (b.2 = g (wipeE ρ' vs)) (
      if b.1 then (evE c (maskE (g (wipeE ρ' vs))) e (g (wipeE ρ' vs))).bind fun q => (toV q.1).bind fun x => some (some x, mergeE 0 ρ' q.2 vs) else some (none, mergeE 0 ρ' (g (wipeE ρ' vs)) vs))
theorem comp_ok (ox : OkX M tab Γ jr X) (hc : CalOk M tab jr c) (hm : MsOk G ms) {sc : Scope} {elt tg it : Expr} {w : Wk} {g : Tgt} {E : CE} {z : List D × DL.Env}
    (hb : DL.blkC Γ.N Γ.sc sc (cOwn Γ.N sc) = true) (hw : WD X G tg it ρ ρ1 w.m w.it ∧ ∀ x, foldedSetIterable it X.env x = pure x) (ht : cTgt { Γ with sc := relS sc Γ.sc, top := false } tg = some g)
    (hix : g.ix.all (fun i => decide (i ∈ (cOwn Γ.N sc).map (·.2))) = true) (he : SE M tab { Γ with sc := relS sc Γ.sc, top := false } elt E) (hz : w.m ≤ sizeLine) (hfr : ((cOwn Γ.N sc).map (·.2)).all (frB ms) = true)
    (q : compL (compF c E g ((cOwn Γ.N sc).map (·.2)) w.it) 0 w.m ρ1 [] = some z) : CD X G (.ListComp elt [⟨tg, it, [], 0⟩] sc pos) ρ z.2 z.1 := by
  have hmv : ∀ i ∈ (cOwn Γ.N sc).map (·.2), G.ms[i]? ≠ some true := fun i hi => hm i (List.all_eq_true.mp hfr i hi)
  have hiv : ∀ i ∈ g.ix, i ∈ (cOwn Γ.N sc).map (·.2) := fun i hi => of_decide_eq_true (List.all_eq_true.mp hix i hi)
  have hok : BlkOk X.N X.env.scope sc (cOwn Γ.N sc) := by rw [ox.N, ox.sc]; exact DL.blk_by hb
  have hbind : ∀ t, t < w.m → ∃ f, bindY g (w.it t) = some f := fun t h => by
    obtain ⟨ρ', u, h1⟩ := compL_some q t (Nat.zero_le _) (by omega)
    obtain ⟨f, h2, _⟩ := bind_some' h1
    exact ⟨f, h2⟩
  refine cd_lc (ρ1 := ρ1) (g := gOf X.K g) (ix := g.ix) (vs := (cOwn Γ.N sc).map (·.2)) (it := w.it) (ft := fun t => (bindY g (w.it t)).getD id) (m := w.m) (fun t ρ' acc => compL (compF c E g ((cOwn Γ.N sc).map (·.2)) w.it) t (w.m - t) ρ' acc = some z ∧ acc.length ≤ t) hok rfl ox.calm (by rw [ox.N]; exact ox.nd) hw.1 (fun s H C cl fp => ?_) (fun t h => ?_) hiv hmv hz ⟨by simpa using q, Nat.le_refl _⟩ (fun t ρ' acc h => h.2) (fun t ρ' acc h hj => ?_) (fun ρ' acc' hj => ?_) hw.2
  · exact cTgt_ok (ox.blk s H sc cl C fp) ht
  · obtain ⟨f, h1⟩ := hbind t h
    simp only [h1, Option.getD_some]
    exact bindY_ok h1 fun i hi => hmv i (hiv i hi)
  · obtain ⟨hj, hl⟩ := hj
    rw [show w.m - t = (w.m - (t + 1)) + 1 by omega] at hj
    obtain ⟨u, h1, h2⟩ := bind_some' hj
    unfold compF at h1
    obtain ⟨f, h3, h1⟩ := bind_some' h1
    obtain ⟨v, h4, h1⟩ := bind_some' h1
    obtain ⟨x, h5, h1⟩ := bind_some' h1
    cases h1
    simp only [h3, Option.getD_some]
    refine ⟨v.2, x, fun s H C cl fp F1 H1 ws => ?_, h2, by rw [List.length_append, List.length_singleton]; omega⟩
    exact ed_toV (he _ jr _ c _ _ _ _ (ox.blk s H sc cl C fp) hc msOk_mask h4) (toV_ok h5)
  · obtain ⟨hj, _⟩ := hj
    rw [Nat.sub_self] at hj
    cases hj
    exact ⟨rfl, rfl⟩
theorem compI_ok (ox : OkX M tab Γ jr X) (hc : CalOk M tab jr c) (hm : MsOk G ms) {sc : Scope} {elt tg it t : Expr} {w : Wk} {g : Tgt} {E T : CE} {z : List D × DL.Env}
    (hb : DL.blkC Γ.N Γ.sc sc (cOwn Γ.N sc) = true) (hw : WD X G tg it ρ ρ1 w.m w.it ∧ ∀ x, foldedSetIterable it X.env x = pure x) (ht : cTgt { Γ with sc := relS sc Γ.sc, top := false } tg = some g)
    (hix : g.ix.all (fun i => decide (i ∈ (cOwn Γ.N sc).map (·.2))) = true) (he : SE M tab { Γ with sc := relS sc Γ.sc, top := false } elt E) (hT : ST M tab { Γ with sc := relS sc Γ.sc, top := false } t T) (hz : w.m ≤ sizeLine) (hfr : ((cOwn Γ.N sc).map (·.2)).all (frB ms) = true)
    (q : compL (compIF c E T g ((cOwn Γ.N sc).map (·.2)) w.it) 0 w.m ρ1 [] = some z) : CD X G (.ListComp elt [⟨tg, it, [t], 0⟩] sc pos) ρ z.2 z.1 := by
  have hmv : ∀ i ∈ (cOwn Γ.N sc).map (·.2), G.ms[i]? ≠ some true := fun i hi => hm i (List.all_eq_true.mp hfr i hi)
  have hiv : ∀ i ∈ g.ix, i ∈ (cOwn Γ.N sc).map (·.2) := fun i hi => of_decide_eq_true (List.all_eq_true.mp hix i hi)
  have hok : BlkOk X.N X.env.scope sc (cOwn Γ.N sc) := by rw [ox.N, ox.sc]; exact DL.blk_by hb
  have hbind : ∀ t, t < w.m → ∃ f, bindY g (w.it t) = some f := fun t h => by
    obtain ⟨ρ', u, h1⟩ := compL_some q t (Nat.zero_le _) (by omega)
    obtain ⟨f, h2, _⟩ := bind_some' h1
    exact ⟨f, h2⟩
  refine cd_lcI (ρ1 := ρ1) (g := gOf X.K g) (ix := g.ix) (vs := (cOwn Γ.N sc).map (·.2)) (it := w.it) (ft := fun t => (bindY g (w.it t)).getD id) (m := w.m) (fun t ρ' acc => compL (compIF c E T g ((cOwn Γ.N sc).map (·.2)) w.it) t (w.m - t) ρ' acc = some z ∧ acc.length ≤ t) hok rfl ox.calm (by rw [ox.N]; exact ox.nd) hw.1 (fun s H C cl fp => ?_) (fun t h => ?_) hiv hmv hz ⟨by simpa using q, Nat.le_refl _⟩ (fun t ρ' acc h => h.2) (fun i ρ' acc h hj => ?_) (fun ρ' acc' hj => ?_) hw.2
  · exact cTgt_ok (ox.blk s H sc cl C fp) ht
  · obtain ⟨f, h1⟩ := hbind t h
    simp only [h1, Option.getD_some]
    exact bindY_ok h1 fun i hi => hmv i (hiv i hi)
  · obtain ⟨hj, hl⟩ := hj
    rw [show w.m - i = (w.m - (i + 1)) + 1 by omega] at hj
    obtain ⟨u, h1, h2⟩ := bind_some' hj
    unfold compIF at h1
    obtain ⟨f, h3, h1⟩ := bind_some' h1
    obtain ⟨b, h6, h1⟩ := bind_some' h1
    obtain ⟨h7, h1⟩ := chk_some h1
    simp only [h3, Option.getD_some]
    refine ⟨b.1, fun s H C cl fp F1 H1 ws => ?_, fun hbt => ?_, fun hbf => ?_⟩
    · have := hT _ jr ⟨F1, H1, ws, maskE (f (wipeE ρ' ((cOwn Γ.N sc).map (·.2))))⟩ c _ _ b.2 b.1 (ox.blk s H sc cl C fp) hc msOk_mask h6
      rw [h7] at this; exact this
    · rw [hbt, if_pos rfl] at h1
      obtain ⟨v, h4, h1⟩ := bind_some' h1
      obtain ⟨x, h5, h1⟩ := bind_some' h1
      cases h1
      refine ⟨v.2, x, fun s H C cl fp F1 H1 ws => ?_, h2, by rw [List.length_append, List.length_singleton]; omega⟩
      exact ed_toV (he _ jr _ c _ _ _ _ (ox.blk s H sc cl C fp) hc msOk_mask h4) (toV_ok h5)
    · rw [hbf, if_neg Bool.false_ne_true] at h1
      cases h1
      exact ⟨h2, by omega⟩
  · obtain ⟨hj, _⟩ := hj
    rw [Nat.sub_self] at hj
    cases hj
    exact ⟨rfl, rfl⟩
theorem comp_main (W : Parts M tab Γ f) (ox : OkX M tab Γ jr X) (hc : CalOk M tab jr c) (hm : MsOk G ms) {sc : Scope} {elt tg it : Expr} {w : CE} {g : Tgt} {E : CE}
    (hb : DL.blkC Γ.N Γ.sc sc (cOwn Γ.N sc) = true) (h1 : cWalk f Γ.sc tg it = some w) (ht : cTgt { Γ with sc := relS sc Γ.sc, top := false } tg = some g)
    (hix : g.ix.all (fun i => decide (i ∈ (cOwn Γ.N sc).map (·.2))) = true) (he : SE M tab { Γ with sc := relS sc Γ.sc, top := false } elt E)
    (q : evE c ms (.comp E w g ((cOwn Γ.N sc).map (·.2))) ρ = some (r, ρ')) : ∃ acc, r = .own acc ∧ CD X G (.ListComp elt [⟨tg, it, [], 0⟩] sc pos) ρ ρ' acc := by
  simp only [evE] at q
  obtain ⟨u, q1, q⟩ := bind_some' q
  obtain ⟨⟨q2, q3⟩, q⟩ := chk_some q
  obtain ⟨z, q4, q⟩ := bind_some' q
  cases q
  exact ⟨_, rfl, comp_ok ox hc hm hb (cWalk_ok W ox hc hm h1 q1) ht hix he q2 q3 q4⟩
theorem compI_main (W : Parts M tab Γ f) (ox : OkX M tab Γ jr X) (hc : CalOk M tab jr c) (hm : MsOk G ms) {sc : Scope} {elt tg it t : Expr} {w : CE} {g : Tgt} {E T : CE}
    (hb : DL.blkC Γ.N Γ.sc sc (cOwn Γ.N sc) = true) (h1 : cWalk f Γ.sc tg it = some w) (ht : cTgt { Γ with sc := relS sc Γ.sc, top := false } tg = some g)
    (hix : g.ix.all (fun i => decide (i ∈ (cOwn Γ.N sc).map (·.2))) = true) (he : SE M tab { Γ with sc := relS sc Γ.sc, top := false } elt E) (hT : ST M tab { Γ with sc := relS sc Γ.sc, top := false } t T)
    (q : evE c ms (.compI E T w g ((cOwn Γ.N sc).map (·.2))) ρ = some (r, ρ')) : ∃ acc, r = .own acc ∧ CD X G (.ListComp elt [⟨tg, it, [t], 0⟩] sc pos) ρ ρ' acc := by
  simp only [evE] at q
  obtain ⟨u, q1, q⟩ := bind_some' q
  obtain ⟨⟨q2, q3⟩, q⟩ := chk_some q
  obtain ⟨z, q4, q⟩ := bind_some' q
  cases q
  exact ⟨_, rfl, compI_ok ox hc hm hb (cWalk_ok W ox hc hm h1 q1) ht hix he hT q2 q3 q4⟩
/-- what a walk's text is, in any frame -/
theorem cWalk_fold {sc : Scope} {tg it : Expr} (h : cWalk f sc tg it = some A) (env : PySem.Env) (x : Value) : foldedSetIterable it env x = pure x := by
  unfold cWalk at h
  split at h
  · rfl
  · rfl
  · cases h
  · rename_i hn1 hn2 hn3
    cases it <;> first | rfl | (exact (hn3 _ _ _ rfl).elim)
theorem wkF_ok {tg : Expr} {w : Wk} (h : ED X G e ρ ρ' s) (q : wkF s = some w) : WF X G tg e ρ ρ' w.m w.it := by
  unfold wkF at q
  split at q
  · cases q; exact wf_list (dx := .non) h
  · cases q; exact wf_tup (dx := .non) h
  · cases q; exact wf_str h
  · cases q
theorem cWalkF_ok (W : Parts M tab Γ f) (o : OkX M tab Γ jr X) (hc : CalOk M tab jr c) {F1 H1 : Hp} {tg it : Expr} {w : Wk} (h : cWalk f Γ.sc tg it = some A) (q : evWF c A ρ = some w) : WF X (pG F1 H1) tg it ρ ρ w.m w.it := by
  have hm : MsOk (pG F1 H1) [] := fun i _ h => by cases h
  have plain : ∀ {e : Expr}, (f e).map CE.one = some A → WF X (pG F1 H1) tg e ρ ρ w.m w.it := fun {e} h => by
    obtain ⟨a, h1, rfl⟩ := map_some' h
    simp only [evWF] at q
    obtain ⟨u, q1, q⟩ := bind_some' q
    obtain ⟨q2, q⟩ := chk_some q
    have E1 := (W.1 _ _ h1).1 X jr (pG F1 H1) c [] _ _ _ o hc hm q1
    rw [q2] at E1
    exact wkF_ok E1 q
  unfold cWalk at h
  split at h
  · split at h
    · rename_i hg
      subst hg
      obtain ⟨h1, h⟩ := ite_some h
      rw [Bool.and_eq_true] at h1
      obtain ⟨a, h2, rfl⟩ := map_some' h
      simp only [evWF] at q
      obtain ⟨u, q1, q⟩ := bind_some' q
      obtain ⟨q2, q⟩ := chk_some q
      obtain ⟨i, q3, q⟩ := bind_some' q
      obtain ⟨h3, q⟩ := chk_some q
      have E0 := (W.1 _ _ h2).1 X jr (pG F1 H1) c [] _ _ _ o hc hm q1
      rw [q2] at E0
      obtain ⟨k1, E1⟩ := ed_intS E0 q3
      cases q
      exact wf_range (o.gl h1.1) (o.blt (by decide)) E1 h3 (star_ns h1.2)
    · split at h
      · obtain ⟨h1, h⟩ := ite_some h
        obtain ⟨a, h2, rfl⟩ := map_some' h
        simp only [evWF] at q
        cases q
      · exact plain h
  · split at h
    · obtain ⟨h1, h⟩ := ite_some h
      obtain ⟨a, h2, h⟩ := bind_some' h
      obtain ⟨b, h6, h⟩ := bind_some' h
      injection h with h; subst h
      simp only [evWF] at q
      cases q
    · split at h
      · cases h
      · exact plain h
  · cases h
  · exact plain h
theorem pairL_some {f : Nat → Option (List D)} : ∀ {m : Nat} {l : List D}, pairL f m = some l → (∀ t, t < m → ∃ k, f t = some k) ∧ preL (fun t => (f t).getD []) m = l
  | 0, l, h => by
    cases h
    exact ⟨fun t ht => absurd ht (Nat.not_lt_zero _), rfl⟩
  | m + 1, l, h => by
    obtain ⟨l1, h1, h⟩ := bind_some' h
    obtain ⟨k, h2, h⟩ := bind_some' h
    cases h
    obtain ⟨i1, i2⟩ := pairL_some h1
    refine ⟨fun t ht => ?_, ?_⟩
    · by_cases e : t = m
      · subst e; exact ⟨k, h2⟩
      · exact i1 t (by omega)
    · rw [preL_succ, i2, h2]; rfl
theorem preL_congr {f g : Nat → List D} : ∀ {m : Nat}, (∀ t, t < m → f t = g t) → preL f m = preL g m
  | 0, _ => rfl
  | m + 1, h => by rw [preL_succ, preL_succ, preL_congr fun t ht => h t (by omega), h m (by omega)]
theorem inL_one {x : Nat → D} : ∀ {m : Nat}, preL (fun j => [x j]) m = inL x (fun _ => true) m
  | 0 => rfl
  | m + 1 => by rw [preL_succ, inL_succ, if_pos rfl, inL_one]
theorem comp2_main (W : Parts M tab Γ f) (ox : OkX M tab Γ jr X) (hc : CalOk M tab jr c) (hm : MsOk G ms) {f' : Expr → Option CE} {sc : Scope} {elt tg it tg1 it1 : Expr} {w w1 : CE} {g g1 : Tgt} {E : CE} (W' : Parts M tab { Γ with sc := relS sc Γ.sc, top := false } f')
    (hb : DL.blkC Γ.N Γ.sc sc (cOwn Γ.N sc) = true) (h1 : cWalk f Γ.sc tg it = some w) (ht : cTgt { Γ with sc := relS sc Γ.sc, top := false } tg = some g) (h2 : cWalk f' (relS sc Γ.sc) tg1 it1 = some w1) (ht1 : cTgt { Γ with sc := relS sc Γ.sc, top := false } tg1 = some g1)
    (hix : g.ix.all (fun i => decide (i ∈ (cOwn Γ.N sc).map (·.2))) = true) (he : SE M tab { Γ with sc := relS sc Γ.sc, top := false } elt E)
    (q : evE c ms (.comp2 E w w1 g g1 ((cOwn Γ.N sc).map (·.2)) g1.ix) ρ = some (r, ρ')) : ∃ acc, r = .own acc ∧ CD X G (.ListComp elt [⟨tg, it, [], 0⟩, ⟨tg1, it1, [], 0⟩] sc pos) ρ ρ' acc := by
  simp only [evE] at q
  obtain ⟨u, q1, q⟩ := bind_some' q
  obtain ⟨⟨hfr, hv1⟩, q⟩ := chk_some q
  obtain ⟨acc, q2, q⟩ := bind_some' q
  obtain ⟨hz, q⟩ := chk_some q
  cases q
  refine ⟨_, rfl, ?_⟩
  have hmv : ∀ i ∈ (cOwn Γ.N sc).map (·.2), G.ms[i]? ≠ some true := fun i hi => hm i (List.all_eq_true.mp hfr i hi)
  have hiv : ∀ i ∈ g.ix, i ∈ (cOwn Γ.N sc).map (·.2) := fun i hi => of_decide_eq_true (List.all_eq_true.mp hix i hi)
  have hok : BlkOk X.N X.env.scope sc (cOwn Γ.N sc) := by rw [ox.N, ox.sc]; exact DL.blk_by hb
  obtain ⟨W1, W2⟩ := cWalk_ok W ox hc hm h1 q1
  obtain ⟨p1, p2⟩ := pairL_some q2
  let vs := (cOwn Γ.N sc).map (·.2)
  let ft : Nat → DL.Env → DL.Env := fun t => (bindY g (u.1.it t)).getD id
  let ρt : Nat → DL.Env := fun t => noOwn (ft t (wipeE u.2 vs))
  let wk : Nat → Wk := fun t => (evWF c w1 (ρt t)).getD ⟨0, fun _ => .one (.val .non)⟩
  let ft1 : Nat → Nat → DL.Env → DL.Env := fun t j => (bindY g1 ((wk t).it j)).getD id
  let xe : Nat → Nat → D := fun t j => ((evE c [] E (ft1 t j (wipeE (ρt t) g1.ix))).bind fun v => toV v.1).getD .non
  have key : ∀ t, t < u.1.m → (∃ gf, bindY g (u.1.it t) = some gf) ∧ evWF c w1 (ρt t) = some (wk t) ∧ ∀ j, j < (wk t).m → (∃ gf, bindY g1 ((wk t).it j) = some gf) ∧ ∃ s, evE c [] E (ft1 t j (wipeE (ρt t) g1.ix)) = some (s, ft1 t j (wipeE (ρt t) g1.ix)) ∧ toV s = some (xe t j) := by
    intro t h
    obtain ⟨k, hk⟩ := p1 t h
    obtain ⟨gf, k1, k2⟩ := bind_some' hk
    obtain ⟨wv, k3, k4⟩ := bind_some' k2
    have e1 : ft t = gf := by show (bindY g (u.1.it t)).getD id = gf; rw [k1]; rfl
    have e2 : ρt t = noOwn (gf (wipeE u.2 vs)) := by show noOwn (ft t (wipeE u.2 vs)) = _; rw [e1]
    have e3 : evWF c w1 (ρt t) = some wv := by rw [e2]; exact k3
    have e4 : wk t = wv := by show (evWF c w1 (ρt t)).getD _ = wv; rw [e3]; rfl
    refine ⟨⟨gf, k1⟩, by rw [e3, e4], fun j hj => ?_⟩
    rw [e4] at hj
    obtain ⟨l, hl⟩ := (pairL_some k4).1 j hj
    obtain ⟨gf1, m1, m2⟩ := bind_some' hl
    obtain ⟨v, m3, m4⟩ := bind_some' m2
    obtain ⟨m5, m6⟩ := chk_some m4
    obtain ⟨d, m7, _⟩ := bind_some' m6
    have e5 : ft1 t j = gf1 := by show (bindY g1 ((wk t).it j)).getD id = gf1; rw [e4, m1]; rfl
    refine ⟨⟨gf1, by rw [e4]; exact m1⟩, v.1, ?_, ?_⟩
    · rw [e5, e2, m3]
      rw [← m5]
    · have : xe t j = d := by
        show ((evE c [] E (ft1 t j (wipeE (ρt t) g1.ix))).bind fun v => toV v.1).getD .non = d
        rw [e5, e2, m3, Option.bind_some, m7]; rfl
      rw [this]; exact m7
  have ms0 : ∀ {F1 H1 : Hp}, MsOk (pG F1 H1) [] := fun i _ h => by cases h
  refine cd_lc2 (ρ1 := u.2) (g := gOf X.K g) (g1 := gOf X.K g1) (ix := g.ix) (ix1 := g1.ix) (vs := vs) (vs1 := g1.ix) (it := u.1.it) (m := u.1.m) (ft := ft) (m1 := fun t => (wk t).m) (it1 := fun t => (wk t).it) (ft1 := ft1) (ρt := ρt) (bt := fun _ => true) (b1 := fun _ _ => true) (xe := xe)
    hok rfl (fun i hi => of_decide_eq_true (List.all_eq_true.mp hv1 i hi)) ox.calm (by rw [ox.N]; exact ox.nd) W1 (fun s H C cl fp => cTgt_ok (ox.blk s H sc cl C fp) ht) (fun t h => ?_) hiv hmv (fun t _ => rfl) (fun t _ => rfl) (fun t h _ s H C cl fp F1 H1 => ?_) (fun s H C cl fp => cTgt_ok (ox.blk s H sc cl C fp) ht1) (fun t j F1 H1 h hj => ?_) (fun i hi => hi) (fun t j _ _ _ => rfl) (fun t j h _ hj _ s H C cl fp F1 H1 => ?_) ?_ hz W2 (fun env x => cWalk_fold h2 env x)
  · obtain ⟨⟨gf, k1⟩, _⟩ := key t h
    show TgR X.K G (gOf X.K g) g.ix (u.1.it t) ((bindY g (u.1.it t)).getD id)
    simp only [k1, Option.getD_some]
    exact (bindY_ok k1 fun i hi => hmv i (hiv i hi)).1
  · obtain ⟨_, k2, _⟩ := key t h
    exact cWalkF_ok W' (ox.blk s H sc cl C fp) hc h2 k2
  · obtain ⟨_, _, k3⟩ := key t h
    obtain ⟨⟨gf, k1⟩, _⟩ := k3 j hj
    show TgR X.K (pG F1 H1) (gOf X.K g1) g1.ix ((wk t).it j) ((bindY g1 ((wk t).it j)).getD id)
    simp only [k1, Option.getD_some]
    exact (bindY_ok k1 fun i hi => pG_ms).1
  · obtain ⟨_, _, k3⟩ := key t h
    obtain ⟨_, s', k4, k5⟩ := k3 j hj
    exact ed_toV (he _ jr _ c _ _ _ _ (ox.blk s H sc cl C fp) hc ms0 k4) (toV_ok k5)
  · rw [← p2]
    refine preL_congr fun t h => ?_
    rw [if_pos rfl]
    obtain ⟨k, hk⟩ := p1 t h
    rw [hk]
    show _ = k
    obtain ⟨gf, k1, k2⟩ := bind_some' hk
    obtain ⟨wv, k3, k4⟩ := bind_some' k2
    have e1 : ft t = gf := by show (bindY g (u.1.it t)).getD id = gf; rw [k1]; rfl
    have e2 : ρt t = noOwn (gf (wipeE u.2 vs)) := by show noOwn (ft t (wipeE u.2 vs)) = _; rw [e1]
    have e4 : wk t = wv := by show (evWF c w1 (ρt t)).getD _ = wv; rw [e2, k3]; rfl
    obtain ⟨n1, n2⟩ := pairL_some k4
    rw [← inL_one, ← n2, e4]
    refine preL_congr fun j hj => ?_
    obtain ⟨l, hl⟩ := n1 j hj
    rw [hl]
    obtain ⟨gf1, m1, m2⟩ := bind_some' hl
    obtain ⟨v, m3, m4⟩ := bind_some' m2
    obtain ⟨m5, m6⟩ := chk_some m4
    obtain ⟨d, m7, m8⟩ := bind_some' m6
    cases m8
    have e5 : ft1 t j = gf1 := by show (bindY g1 ((wk t).it j)).getD id = gf1; rw [e4, m1]; rfl
    have : xe t j = d := by
      show ((evE c [] E (ft1 t j (wipeE (ρt t) g1.ix))).bind fun v => toV v.1).getD .non = d
      rw [e5, e2, m3, Option.bind_some, m7]; rfl
    rw [this]; rfl
/-- a comprehension, as it may be given to a name -/
def SC (M : Mo) (tab : Nat → Option (Str × List Str)) (Γ : Ga) (e : Expr) (a : CE) : Prop :=
  ∀ (elt : Expr) (gs : List Comprehension) (sc : Scope) (pos : Pos), e = .ListComp elt gs sc pos → ∀ (X : Cx) (j : Nat) (G : Gx) (c : Cs) (ms : List Bool) (ρ ρ' : DL.Env) (r : Slot), OkX M tab Γ j X → CalOk M tab j c → MsOk G ms → evE c ms a ρ = some (r, ρ') → ∃ acc, r = .own acc ∧ CD X G e ρ ρ' acc
theorem all_ok : ∀ (m : Nat) (Γ : Ga) (e : Expr) (a : CE), compE m Γ e = some a → SE M tab Γ e a ∧ ST M tab Γ e a ∧ SC M tab Γ e a := by
  intro m
  induction m with
  | zero => intro Γ e a h; cases h
  | succ m ih =>
    intro Γ e a h
    have W : Parts M tab Γ (compE m Γ) := ⟨fun e a h => ⟨(ih Γ e a h).1, (ih Γ e a h).2.1⟩, fun e i h => comp_var h⟩
    have noC : (∀ elt gs sc pos, e ≠ .ListComp elt gs sc pos) → SC M tab Γ e a := fun h elt gs sc pos he => (h _ _ _ _ he).elim
    have noT : (∀ c ms ρ, evT c ms a ρ = none) → ST M tab Γ e a := fun h X j G c ms ρ ρ' r ox hc hm q => by rw [h] at q; cases q
    unfold compE at h
    split at h
    · cases h
      exact ⟨fun X j G c ms ρ ρ' r ox hc hm q => by simp only [evE] at q; cases q; exact ed_int, noT fun c ms ρ => by simp only [evT], noC fun _ _ _ _ h => by cases h⟩
    · cases h
      exact ⟨fun X j G c ms ρ ρ' r ox hc hm q => by simp only [evE] at q; cases q; exact ed_str, noT fun c ms ρ => by simp only [evT], noC fun _ _ _ _ h => by cases h⟩
    · cases h
      exact ⟨fun X j G c ms ρ ρ' r ox hc hm q => by simp only [evE] at q; cases q; exact ed_bl, noT fun c ms ρ => by simp only [evT], noC fun _ _ _ _ h => by cases h⟩
    · cases h
      exact ⟨fun X j G c ms ρ ρ' r ox hc hm q => by simp only [evE] at q; cases q; exact ed_non, noT fun c ms ρ => by simp only [evT], noC fun _ _ _ _ h => by cases h⟩
    · -- a name
      split at h
      · obtain ⟨i, h1, rfl⟩ := map_some' h
        refine ⟨fun X j G c ms ρ ρ' r ox hc hm q => ?_, fun X j G c ms ρ ρ' r ox hc hm q => ?_, noC fun _ _ _ _ h => by cases h⟩
        · obtain ⟨g1, g2, g3, g4⟩ := ox.var h1
          simp only [evE] at q
          split at q
          · rename_i hd
            cases q
            exact ed_var g1 g2 hd g3 g4
          · rename_i hd
            obtain ⟨q1, q⟩ := chk_some q
            cases q
            exact ed_varF g1 g2 hd (hm _ q1) g3 g4
          · cases q
        · obtain ⟨g1, g2, g3, g4⟩ := ox.var h1
          simp only [evT] at q
          split at q
          · rename_i hd
            cases q
            exact et_val (ed_var g1 g2 hd g3 g4)
          · cases q
      · obtain ⟨h1, h⟩ := ite_some h
        rw [Bool.and_eq_true] at h1
        obtain ⟨d, h2, rfl⟩ := map_some' h
        refine ⟨fun X j G c ms ρ ρ' r ox hc hm q => ?_, noT fun c ms ρ => by simp only [evT], noC fun _ _ _ _ h => by cases h⟩
        simp only [evE] at q
        cases q
        obtain ⟨v, u, k1, k2, k3⟩ := ox.cst _ _ h2
        exact ed_glob (v := v) (ox.gl h1.1) (by rw [ox.mg]; exact k1) k2 (fun F => by rw [ox.K]; exact k3 F) (okN_ok h1.2).1
    · obtain ⟨A, h1, h⟩ := bind_some' h
      obtain ⟨B, h2, h⟩ := bind_some' h
      cases h
      refine ⟨fun X j G c ms ρ ρ' r ox hc hm q => ?_, noT fun c ms ρ => by simp only [evT], noC fun _ _ _ _ h => by cases h⟩
      simp only [evE] at q
      obtain ⟨u, q1, q⟩ := bind_some' q
      obtain ⟨v, q2, q⟩ := bind_some' q
      obtain ⟨t, q3, q⟩ := bind_some' q
      cases q
      exact ed_bin_ok ((W.1 _ _ h1).1 X j G c ms _ _ _ ox hc hm q1) ((W.1 _ _ h2).1 X j G c ms _ _ _ ox hc hm q2) q3
    · obtain ⟨A, h1, rfl⟩ := map_some' h
      refine ⟨fun X j G c ms ρ ρ' r ox hc hm q => ?_, fun X j G c ms ρ ρ' r ox hc hm q => ?_, noC fun _ _ _ _ h => by cases h⟩
      · simp only [evE] at q
        obtain ⟨u, q1, q⟩ := bind_some' q
        obtain ⟨k, q2, q⟩ := bind_some' q
        obtain ⟨_, E1⟩ := ed_blS ((W.1 _ _ h1).1 X j G c ms _ _ _ ox hc hm q1) q2
        cases q
        exact ed_not E1
      · simp only [evT] at q
        obtain ⟨u, q1, q⟩ := bind_some' q
        cases q
        exact et_not ((W.1 _ _ h1).2 X j G c ms _ _ _ ox hc hm q1)
    · obtain ⟨A, h1, rfl⟩ := map_some' h
      refine ⟨fun X j G c ms ρ ρ' r ox hc hm q => ?_, noT fun c ms ρ => by simp only [evT], noC fun _ _ _ _ h => by cases h⟩
      simp only [evE] at q
      obtain ⟨u, q1, q⟩ := bind_some' q
      obtain ⟨i, q2, q⟩ := bind_some' q
      obtain ⟨_, E1⟩ := ed_intS ((W.1 _ _ h1).1 X j G c ms _ _ _ ox hc hm q1) q2
      cases q
      exact ed_neg E1
    · refine ⟨fun X j G c ms ρ ρ' r ox hc hm q => (cConj_ok W ox hc hm h).1 _ _ q, fun X j G c ms ρ ρ' r ox hc hm q => ET.of ((cConj_ok W ox hc hm h).2 _ _ q), noC fun _ _ _ _ h => by cases h⟩
    · refine ⟨fun X j G c ms ρ ρ' r ox hc hm q => (cDisj_ok W ox hc hm h).1 _ _ q, fun X j G c ms ρ ρ' r ox hc hm q => ET.of ((cDisj_ok W ox hc hm h).2 _ _ q), noC fun _ _ _ _ h => by cases h⟩
    · split at h
      · cases h
      · rename_i hb
        have hb := Bool.eq_false_iff.mpr hb
        obtain ⟨A, h1, h⟩ := bind_some' h
        obtain ⟨B, h2, h⟩ := bind_some' h
        cases h
        refine ⟨fun X j G c ms ρ ρ' r ox hc hm q => ?_, fun X j G c ms ρ ρ' r ox hc hm q => ?_, noC fun _ _ _ _ h => by cases h⟩
        · simp only [evE] at q
          obtain ⟨u, q1, q⟩ := bind_some' q
          obtain ⟨v, q2, q⟩ := bind_some' q
          obtain ⟨t, q3, q⟩ := bind_some' q
          cases q
          exact (cmp_ok (by have := ox.room.un; omega) ((W.1 _ _ h1).1 X j G c ms _ _ _ ox hc hm q1) ((W.1 _ _ h2).1 X j G c ms _ _ _ ox hc hm q2) q3 hb).1
        · simp only [evT] at q
          obtain ⟨u, q1, q⟩ := bind_some' q
          obtain ⟨v, q2, q⟩ := bind_some' q
          obtain ⟨t, q3, q⟩ := bind_some' q
          cases q
          exact (cmp_ok (by have := ox.room.un; omega) ((W.1 _ _ h1).1 X j G c ms _ _ _ ox hc hm q1) ((W.1 _ _ h2).1 X j G c ms _ _ _ ox hc hm q2) q3 hb).2
    · split at h
      · cases h
      · rename_i hb
        have hb := Bool.eq_false_iff.mpr hb
        obtain ⟨A, h1, h⟩ := bind_some' h
        obtain ⟨B, h2, h⟩ := bind_some' h
        obtain ⟨Dd, h3, h⟩ := bind_some' h
        cases h
        refine ⟨fun X j G c ms ρ ρ' r ox hc hm q => (by simp only [evE] at q; cases q), fun X j G c ms ρ ρ' r ox hc hm q => ?_, noC fun _ _ _ _ h => by cases h⟩
        simp only [evT] at q
        obtain ⟨u, q1, q⟩ := bind_some' q
        obtain ⟨v, q2, q⟩ := bind_some' q
        obtain ⟨t, q3, q⟩ := bind_some' q
        obtain ⟨_, E1⟩ := ed_dat ((W.1 _ _ h1).1 X j G c ms _ _ _ ox hc hm q1)
        obtain ⟨_, E2⟩ := ed_dat ((W.1 _ _ h2).1 X j G c ms _ _ _ ox hc hm q2)
        cases t with
        | true =>
          rw [if_pos rfl] at q
          obtain ⟨w, q4, q⟩ := bind_some' q
          obtain ⟨q5, q⟩ := chk_some q
          obtain ⟨y, q6, q⟩ := bind_some' q
          have E3 := (W.1 _ _ h3).1 X j G c ms _ _ _ ox hc hm q4
          rw [q5] at E3
          obtain ⟨_, E3⟩ := ed_dat E3
          cases q
          exact et_chain (l := r) E1 E2 (cmpD_ok q3) (fun _ => E3) (fun _ => cmpD_ok q6) hb
        | false =>
          rw [if_neg Bool.false_ne_true] at q
          cases q
          exact et_chain (l := true) (k3 := true) (w := .non) E1 E2 (cmpD_ok q3) (fun h => by cases h) (fun h => by cases h) hb
    · obtain ⟨T, h1, h⟩ := bind_some' h
      obtain ⟨A, h2, h⟩ := bind_some' h
      obtain ⟨B, h3, h⟩ := bind_some' h
      cases h
      refine ⟨fun X j G c ms ρ ρ' r ox hc hm q => ?_, noT fun c ms ρ => by simp only [evT], noC fun _ _ _ _ h => by cases h⟩
      simp only [evE] at q
      obtain ⟨u, q1, q⟩ := bind_some' q
      have E1 := (W.1 _ _ h1).2 X j G c ms _ _ _ ox hc hm q1
      cases hk : u.1 with
      | true => rw [hk] at q E1; exact ed_ifT E1 ((W.1 _ _ h2).1 X j G c ms _ _ _ ox hc hm q)
      | false => rw [hk] at q E1; exact ed_ifF E1 ((W.1 _ _ h3).1 X j G c ms _ _ _ ox hc hm q)
    · obtain ⟨A, h1, h⟩ := bind_some' h
      obtain ⟨L, h2, h⟩ := bind_some' h
      obtain ⟨Hh, h3, h⟩ := bind_some' h
      cases h
      refine ⟨fun X j G c ms ρ ρ' r ox hc hm q => ?_, noT fun c ms ρ => by simp only [evT], noC fun _ _ _ _ h => by cases h⟩
      simp only [evE] at q
      obtain ⟨u, q1, q⟩ := bind_some' q
      obtain ⟨l, q2, q⟩ := bind_some' q
      obtain ⟨hh, q3, q⟩ := bind_some' q
      have E1 := (W.1 _ _ h1).1 X j G c ms _ _ _ ox hc hm q1
      have E2 := cOpt_ok W ox hc hm h2 q2
      have E3 := cOpt_ok W ox hc hm h3 q3
      obtain ⟨z, q4, q⟩ := bind_some' q
      cases q
      exact sl_ok E1 E2 E3 q4
    · obtain ⟨h0, h⟩ := ite_some h
      obtain ⟨A, h1, h⟩ := bind_some' h
      obtain ⟨B, h2, h⟩ := bind_some' h
      cases h
      refine ⟨fun X j G c ms ρ ρ' r ox hc hm q => ?_, noT fun c ms ρ => by simp only [evT], noC fun _ _ _ _ h => by cases h⟩
      simp only [evE] at q
      split at q
      · rename_i i hi
        obtain ⟨rfl, ds, hd⟩ := ownVar_ok hi
        obtain ⟨x, px, rfl, hx⟩ := W.2 _ _ h1
        obtain ⟨g1, g2, g3, g4⟩ := ox.var hx
        obtain ⟨v, q2, q⟩ := bind_some' q
        obtain ⟨jj, q3, q⟩ := bind_some' q
        obtain ⟨es, q4, q⟩ := bind_some' q
        obtain ⟨d, q5, q⟩ := bind_some' q
        obtain ⟨_, E2⟩ := ed_intS ((W.1 _ _ h2).1 X j G c ms _ _ _ ox hc hm q2) q3
        cases q
        exact ed_ixO g1 g2 hd E2 (getO_ok q4) q5 (plain_ok h0) g3 g4
      · obtain ⟨u, q1, q⟩ := bind_some' q
        obtain ⟨v, q2, q⟩ := bind_some' q
        obtain ⟨jj, q3, q⟩ := bind_some' q
        obtain ⟨t, q4, q⟩ := bind_some' q
        obtain ⟨_, E2⟩ := ed_intS ((W.1 _ _ h2).1 X j G c ms _ _ _ ox hc hm q2) q3
        cases q
        exact ed_ix (ed_fixS ((W.1 _ _ h1).1 X j G c ms _ _ _ ox hc hm q1)) E2 (idxS_ok q4) (plain_ok h0)
    · cases h
      refine ⟨fun X j G c ms ρ ρ' r ox hc hm q => ?_, noT fun c ms ρ => by simp only [evT], noC fun _ _ _ _ h => by cases h⟩
      simp only [evE] at q
      cases q
      exact ed_dk0
    · obtain ⟨A, h1, rfl⟩ := map_some' h
      refine ⟨fun X j G c ms ρ ρ' r ox hc hm q => ?_, noT fun c ms ρ => by simp only [evT], noC fun _ _ _ _ h => by cases h⟩
      simp only [evE] at q
      obtain ⟨u, q1, q⟩ := bind_some' q
      obtain ⟨q2, q⟩ := chk_some q
      cases q
      exact ed_lst (cDisp_ok W ox hc hm h1 q1) q2
    · obtain ⟨A, h1, rfl⟩ := map_some' h
      refine ⟨fun X j G c ms ρ ρ' r ox hc hm q => ?_, noT fun c ms ρ => by simp only [evT], noC fun _ _ _ _ h => by cases h⟩
      simp only [evE] at q
      obtain ⟨u, q1, q⟩ := bind_some' q
      obtain ⟨q2, q⟩ := chk_some q
      cases q
      exact ed_tup (cDisp_ok W ox hc hm h1 q1) q2
    · -- a comprehension
      split at h
      · rename_i hcnd
        obtain ⟨hia, hblk⟩ := hcnd
        subst hia
        obtain ⟨w, h1, h⟩ := bind_some' h
        obtain ⟨g, h2, h⟩ := bind_some' h
        obtain ⟨E, h3, h⟩ := bind_some' h
        obtain ⟨hix, h⟩ := ite_some h
        split at h
        · cases h
          refine ⟨fun X j G c ms ρ ρ' r ox hc hm q => ?_, noT fun c ms ρ => by simp only [evT], fun elt gs sc pos he X j G c ms ρ ρ' r ox hc hm q => comp_main W ox hc hm hblk h1 h2 hix (ih _ _ _ h3).1 q⟩
          obtain ⟨acc, rfl, k⟩ := comp_main (pos := _) W ox hc hm hblk h1 h2 hix (ih _ _ _ h3).1 q
          exact ed_of k
        · obtain ⟨T, h4, h⟩ := bind_some' h
          cases h
          refine ⟨fun X j G c ms ρ ρ' r ox hc hm q => ?_, noT fun c ms ρ => by simp only [evT], fun elt gs sc pos he X j G c ms ρ ρ' r ox hc hm q => compI_main W ox hc hm hblk h1 h2 hix (ih _ _ _ h3).1 (ih _ _ _ h4).2.1 q⟩
          obtain ⟨acc, rfl, k⟩ := compI_main (pos := _) W ox hc hm hblk h1 h2 hix (ih _ _ _ h3).1 (ih _ _ _ h4).2.1 q
          exact ed_of k
        · cases h
      · cases h
    · split at h
      · rename_i hcnd
        obtain ⟨hia, hib, hblk⟩ := hcnd
        subst hia
        subst hib
        obtain ⟨w, h1, h⟩ := bind_some' h
        obtain ⟨g, h2, h⟩ := bind_some' h
        obtain ⟨w1, h3, h⟩ := bind_some' h
        obtain ⟨g1, h4, h⟩ := bind_some' h
        obtain ⟨E, h5, h⟩ := bind_some' h
        obtain ⟨hix, h⟩ := ite_some h
        cases h
        have W' : ∀ Γ', Parts M tab Γ' (compE m Γ') := fun Γ' => ⟨fun e a h => ⟨(ih Γ' e a h).1, (ih Γ' e a h).2.1⟩, fun e i h => comp_var h⟩
        refine ⟨fun X j G c ms ρ ρ' r ox hc hm q => ?_, noT fun c ms ρ => by simp only [evT], fun elt gs sc pos he X j G c ms ρ ρ' r ox hc hm q => comp2_main W ox hc hm (W' _) hblk h1 h2 h3 h4 hix (ih _ _ _ h5).1 q⟩
        obtain ⟨acc, rfl, k⟩ := comp2_main (pos := _) W ox hc hm (W' _) hblk h1 h2 h3 h4 hix (ih _ _ _ h5).1 q
        exact ed_of k
      · cases h
    · refine ⟨fun X j G c ms ρ ρ' r ox hc hm q => (cCall_ok W ox hc hm h).1 _ _ q, fun X j G c ms ρ ρ' r ox hc hm q => ?_, noC fun _ _ _ _ h => by cases h⟩
      obtain ⟨k, E1⟩ := (cCall_ok W ox hc hm h).2 _ _ q
      exact et_val E1
    · obtain ⟨hl, h⟩ := ite_some h
      exact ⟨fun X j G c ms ρ ρ' r ox hc hm q => (cMeth_ok W ox hc hm hl h).1 _ _ q, fun X j G c ms ρ ρ' r ox hc hm q => ((cMeth_ok W ox hc hm (apos := _) hl h).2 _ _ q).elim, noC fun _ _ _ _ h => by cases h⟩
    · cases h
end
end RL
/-! RL7: statements, blocks, defs. -/
namespace RL
open PySem L2 DL PyProof.Rows PySem.W
inductive CS where
  | nil
  | seq (s r : CS)
  | set (fx : Bool) (i : Nat) (e : CE)
  | setIx (i : Nat) (b e : CE)
  | set2 (i j : Nat) (a b : CE)
  | expr (e : CE)
  | ret (e : CE)
  | retN
  | ife (t : CE) (a b : CS)
  | for (tg : Tgt) (w : CE) (b : CS)
  | pass
  | brk
  | cont
  | raise (k : Nat) (a : CE)
/-- a value that is given away: a name's own list goes with it -/
noncomputable def evM (c : Cs) (ms : List Bool) (e : CE) (ρ : DL.Env) : Option (Slot × DL.Env) :=
  match ownVar e ρ with
  | some i => chk (frB ms i = true) ((getO ρ i).bind fun ds => some (.own ds, ρ.set i none))
  | none => evE c ms e ρ
def forL (f : Nat → DL.Env → Option Out) : Nat → Nat → DL.Env → Option Out
  | _, 0, ρ => some (.nx ρ)
  | t, k + 1, ρ => (f t ρ).bind fun o => match o with
    | .nx ρ' => forL f (t + 1) k ρ'
    | .ct ρ' => forL f (t + 1) k ρ'
    | .bk ρ' => some (.nx ρ')
    | .ret r ρ' => some (.ret r ρ')
def nvS : Slot → Slot
  | .v k d => .v (k || isSc d) d
  | .own ds => .own ds
noncomputable def evB (c : Cs) (ms : List Bool) : CS → DL.Env → Option Out
  | .nil, ρ => some (.nx ρ)
  | .seq s r, ρ => (evB c ms s ρ).bind fun o => match o with
    | .nx ρ' => evB c ms r ρ'
    | .ct ρ' => some (.ct ρ')
    | .bk ρ' => some (.bk ρ')
    | .ret v ρ' => some (.ret v ρ')
  | .set fx i e, ρ => (evM c ms e ρ).bind fun p => chk (frB ms i = true) (some (.nx (p.2.set i (some (if fx then fixS p.1 else p.1)))))
  | .setIx i b e, ρ => (evE c ms e ρ).bind fun p => (toV p.1).bind fun d => (evE c ms b p.2).bind fun q => chk (q.2 = p.2) ((intS q.1).bind fun jj => (getO p.2 i).bind fun ds => (ixN ds.length jj).bind fun k => some (.nx (p.2.set i (some (.own (ds.set k d))))))
  | .set2 i j a b, ρ => (evE c ms a ρ).bind fun p => (evE c ms b p.2).bind fun q => chk (frB ms i = true ∧ frB ms j = true) (some (.nx ((q.2.set i (some (fixS p.1))).set j (some (fixS q.1)))))
  | .expr e, ρ => (evE c ms e ρ).bind fun p => some (.nx p.2)
  | .ret e, ρ => (evM c ms e ρ).bind fun p => some (.ret (nvS p.1) p.2)
  | .retN, ρ => some (.ret (.val .non) ρ)
  | .ife t a b, ρ => (evT c ms t ρ).bind fun p => if p.1 then evB c ms a p.2 else evB c ms b p.2
  | .for tg w b, ρ => (evW c ms w ρ).bind fun p => chk (tg.ix.all (frB ms) = true) (forL (fun t ρ' => (bindY tg (p.1.it t)).bind fun g => evB c ms b (g ρ')) 0 p.1.m p.2)
  | .pass, ρ => some (.nx ρ)
  | .brk, ρ => some (.bk ρ)
  | .cont, ρ => some (.ct ρ)
  | .raise _ _, _ => none
/-! ### from the text -/
def lcB : Expr → Bool
  | .ListComp .. => true
  | .SetComp .. => true
  | .DictComp .. => true
  | _ => false
def loB (Γ : Ga) (n : Str) : Bool := match Γ.sc.names.lookup n with
  | some .local => true
  | _ => false
def cBlk (f : Stmt → Option CS) : List Stmt → Option CS
  | [] => some .nil
  | s :: r => (f s).bind fun a => (cBlk f r).bind fun b => some (.seq a b)
def sameLine (p q : Pos) : Bool := p.line == q.line
def compS (mu : List Nat) : Nat → Ga → Stmt → Option CS
  | 0, _, _ => none
  | m + 1, Γ, st => match st with
    | .Assign [.Name x p] e _ => if stB Γ x && (!(lcB e) || (loB Γ x && (match e with | .ListComp .. => true | _ => false))) then (ixOf Γ.N x).bind fun i => (compE m Γ e).bind fun a => some (.set (!(mu.contains i)) i a) else none
    | .Assign [.Subscript (.Name x _) b _] e _ => if lcB e then none else if plainB b then (cVar Γ x).bind fun i => (compE m Γ e).bind fun a => (compE m Γ b).bind fun b' => some (.setIx i b' a) else none
    | .Assign [.Tuple [.Name x px, .Name y py] _ _] (.Tuple [a, b] _ _) _ =>
      if loB Γ x && loB Γ y && nsB a && nsB b && !(x == y) && sameLine px py && !(foldedForSure 8 a && foldedForSure 8 b) && !(constantsAlone 8 a && constantsAlone 8 b) then
        (ixOf Γ.N x).bind fun i => (ixOf Γ.N y).bind fun j => (compE m Γ a).bind fun a' => (compE m Γ b).bind fun b' => some (.set2 i j a' b') else none
    | .Expr e _ => if lcB e then none else (compE m Γ e).map .expr
    | .Return (some e) _ => (compE m Γ e).map .ret
    | .Return none _ => some .retN
    | .If t a b _ => (compE m Γ t).bind fun t' => (cBlk (compS mu m Γ) a).bind fun a' => (cBlk (compS mu m Γ) b).bind fun b' => some (.ife t' a' b')
    | .For tg it b [] _ => (cWalk (compE m Γ) Γ.sc tg it).bind fun w => (cTgt Γ tg).bind fun g => (cBlk (compS mu m Γ) b).bind fun b' => some (.for g w b')
    | .Pass _ => some .pass
    | .Break _ => some .brk
    | .Continue _ => some .cont
    | .Raise (some (.Call (.Name x _) es [] _)) none _ => if glB Γ.sc x && okN x then (Γ.cls x).bind fun k => (cList (compE m Γ) es).map (.raise k) else none
    | _ => none
section
variable {M : Mo} {tab : Nat → Option (Str × List Str)} {Γ : Ga} {jr : Nat}
variable {X : Cx} {G : Gx} {e a b d o : Expr} {ρ ρ' ρ1 ρ2 ρ3 : DL.Env} {r s z s1 s2 : Slot} {x y : D} {ds es : List D} {pos p p2 apos cpos : Pos} {k l k1 k2 k3 : Bool} {n : Str} {xs rest : List Expr} {i j : Nat}
variable {f : Expr → Option CE} {c : Cs} {ms : List Bool} {A : CE} {P : Out → Prop} {u : Out} {mu : List Nat}
/-- what a def's own frame bears besides -/
structure OkT (M : Mo) (tab : Nat → Option (Str × List Str)) (Γ : Ga) (j : Nat) (X : Cx) : Prop extends OkX M tab Γ j X where
  top : Γ.top = true
  pass : PassesOwn (model X.prog X.w) X.A X.env X.xe
  bk : X.env.blockKind = .function
def SS (M : Mo) (tab : Nat → Option (Str × List Str)) (Γ : Ga) (st : Stmt) (a : CS) : Prop :=
  ∀ (X : Cx) (j : Nat) (G : Gx) (c : Cs) (ms : List Bool) (ρ : DL.Env) (u : Out) (P : Out → Prop), OkT M tab Γ j X → CalOk M tab j c → MsOk G ms → evB c ms a ρ = some u → P u → SD X G st ρ P
def SB (M : Mo) (tab : Nat → Option (Str × List Str)) (Γ : Ga) (st : List Stmt) (a : CS) : Prop :=
  ∀ (X : Cx) (j : Nat) (G : Gx) (c : Cs) (ms : List Bool) (ρ : DL.Env) (u : Out) (P : Out → Prop), OkT M tab Γ j X → CalOk M tab j c → MsOk G ms → evB c ms a ρ = some u → P u → BD X G st ρ P
theorem evM_ok {m : Nat} (ox : OkX M tab Γ jr X) (hc : CalOk M tab jr c) (hm : MsOk G ms) (h : compE m Γ e = some A) (q : evM c ms A ρ = some (r, ρ')) : ED X G e ρ ρ' r := by
  unfold evM at q
  split at q
  · rename_i i hi
    obtain ⟨rfl, ds, hd⟩ := ownVar_ok hi
    obtain ⟨x, p, rfl, hx⟩ := comp_var h
    obtain ⟨g1, g2, g3, g4⟩ := ox.var hx
    obtain ⟨q1, q⟩ := chk_some q
    obtain ⟨es, q2, q⟩ := bind_some' q
    cases q
    exact ed_varM g1 g2 (getO_ok q2) (hm _ q1) g3 g4
  · exact (all_ok m Γ e A h).1 X jr G c ms _ _ _ ox hc hm q
theorem ed_nv (h : ED X G e ρ ρ' r) : ED X G e ρ ρ' (nvS r) := by
  cases r with
  | own ds => exact h
  | v k d =>
    cases hs : isSc d with
    | true =>
      have : nvS (.v k d) = .val d := by show Slot.v (k || isSc d) d = _; rw [hs, Bool.or_true]
      rw [this]
      exact ed_toV h (.sc hs)
    | false =>
      have : nvS (.v k d) = .v k d := by show Slot.v (k || isSc d) d = _; rw [hs, Bool.or_false]
      rw [this]; exact h
theorem lc_no {line : Nat} {tg : Option Expr} {env : PySem.Env} (h : lcB e = false) : swapsWith e tg line env = pure false := by
  cases e <;> first | rfl | (cases h; done)
theorem lc_pure {elt : Expr} {gs : List Comprehension} {sc : Scope} {pos' pe : Pos} {env : PySem.Env} {line : Nat} : swapsWith (.ListComp elt gs sc pe) (some (.Name n pos')) line env = pure (env.blockKind == .function && env.kindOf n == some .local && pos'.line == pe.line && !(sc.names.any fun (q : Str × NameKind) => q.1 == n && (q.2 == .local || q.2 == .cell))) := rfl
theorem loB_ok (ox : OkX M tab Γ jr X) (h : loB Γ n = true) : X.env.scope.names.lookup n = some .local := by
  unfold loB at h
  rw [ox.sc]
  split at h
  · assumption
  · cases h
theorem blk_ok {f : Stmt → Option CS} (W : ∀ st a, f st = some a → SS M tab Γ st a) : ∀ {sts : List Stmt} {a : CS}, cBlk f sts = some a → SB M tab Γ sts a
  | [], a, h => by
    cases h
    intro X j G c ms ρ u P ox hc hm q hp
    simp only [evB] at q
    cases q
    exact bd_nil hp
  | s :: r, a, h => by
    obtain ⟨A, h1, h⟩ := bind_some' h
    obtain ⟨B, h2, h⟩ := bind_some' h
    cases h
    intro X j G c ms ρ u P ox hc hm q hp
    simp only [evB] at q
    obtain ⟨o, q1, q⟩ := bind_some' q
    refine bd_cons ((W _ _ h1) X j G c ms ρ o _ ox hc hm q1 ?_)
    cases o with
    | nx ρ' => exact blk_ok W h2 X j G c ms ρ' u P ox hc hm q hp
    | ct ρ' => cases q; exact hp
    | bk ρ' => cases q; exact hp
    | ret v ρ' => cases q; exact hp
theorem forL_some {f : Nat → DL.Env → Option Out} : ∀ {k t : Nat} {ρ : DL.Env} {o : Out}, forL f t (k + 1) ρ = some o → ∃ ρ' q, f t ρ' = some q
  | k, t, ρ, o, h => by
    obtain ⟨q, h1, _⟩ := bind_some' h
    exact ⟨_, _, h1⟩
/-- a, b = x, y -/
theorem sd_set2 {x y : Str} {px py pt : Pos} {kt k2 : Nat} {pt2 : Pos} {D1 D2 : DL.D} (hc : X.calm = true) (hN : X.N.Nodup) (hi : X.N[i]? = some x) (hj : X.N[j]? = some y) (hij : i ≠ j) (hx : X.env.scope.names.lookup x = some .local) (hy : X.env.scope.names.lookup y = some .local)
    (ha : ED X G a ρ ρ1 (.v k1 D1)) (hb : ED X G b ρ1 ρ2 (.v l D2)) (na : nsB a = true) (nb : nsB b = true) (hm1 : G.ms[i]? ≠ some true) (hm2 : G.ms[j]? ≠ some true)
    (hw : swappedStores [.Tuple [.Name x px, .Name y py] kt pt] (.Tuple [a, b] k2 pt2) X.env = pure (some [x, y])) (hp : P (.nx ((ρ2.set i (some (.v k1 D1))).set j (some (.v l D2))))) :
    SD X G (.Assign [.Tuple [.Name x px, .Name y py] kt pt] (.Tuple [a, b] k2 pt2) pos) ρ P :=
  ps_mono (ps_par hc hN hi hj hij hx hy (ea_two ha hb (star_ns na) (star_ns nb)) hw) fun D σ H ⟨F, E, q1, _⟩ => ⟨F, E, fun F1 H1 v u e1 E1 r1 r2 => ⟨v, u, rfl, q1 _ F1 H1 _ hp e1 ((E1.put (r := .v k1 D1) r1 hm1).put (r := .v l D2) (show Rep X.K (G.at F1 l) D2 u from r2) hm2)⟩⟩
theorem sw_ok {x y : Str} {px py pt : Pos} {kt k2 : Nat} {pt2 : Pos} {env : PySem.Env} (hbk : env.blockKind = .function) (hx : env.kindOf x = some .local) (hy : env.kindOf y = some .local) (na : nsB a = true) (nb : nsB b = true) (hxy : (x == y) = false) (hl : px.line = py.line)
    (h1 : (foldedForSure 8 a && foldedForSure 8 b) = false) (h2 : (constantsAlone 8 a && constantsAlone 8 b) = false) : swappedStores [.Tuple [.Name x px, .Name y py] kt pt] (.Tuple [a, b] k2 pt2) env = pure (some [x, y]) := by
  have hs : ([a, b].any fun | .Starred .. => true | _ => false) = false := by
    cases a <;> cases b <;> first | rfl | (cases na; done) | (cases nb; done)
  have e1 : (py.line == px.line) = true := by rw [hl]; exact beq_self_eq_true _
  have e2 : ([x, y].eraseDups.length != [x, y].length) = false := by
    have : (y == x) = false := by rw [Bool.eq_false_iff] at hxy ⊢; intro q; exact hxy (by rw [eq_of_beq q]; exact beq_self_eq_true _)
    simp [List.eraseDups_cons, this]
  have e3 : (y = x) = False := by
    rw [Bool.eq_false_iff] at hxy
    exact eq_false fun q => hxy (by rw [q]; exact beq_self_eq_true _)
  unfold swappedStores
  simp only [List.length_cons, List.length_nil, hbk, hx, hy, hs]
  simp [h1, h2, hl, hs, hx, hy, hxy, List.filterMap_cons, PySem.Expr.pos, List.eraseDups_cons, e3]
  intro hh
  exfalso
  rcases hh with hh | hh
  · cases a <;> first | (cases na; done) | (cases hh; done)
  · cases b <;> first | (cases nb; done) | (cases hh; done)
/-- x = [..], fixed at once -/
theorem sd_setCF {acc : List D} {y : Str} {py spos : Pos} (hi : X.N[i]? = some y) (hl : X.env.scope.names.lookup y = some .local) (h : CD X G e ρ ρ' acc) (hm : G.ms[i]? ≠ some true) (q : P (.nx (ρ'.set i (some (.val (.lst acc))))))
    (hs : swapsWith e (some (.Name y py)) spos.line X.env = pure true) : SD X G (.Assign [.Name y py] e spos) ρ P :=
  ps_mono (h.set hi hl hs) fun D σ H ⟨F, E, q1, _⟩ => ⟨F, E, fun F1 H1 v e1 E1 r1 => by
    obtain ⟨a, vs, rfl, h2, h3, h4, h5, h6⟩ := r1
    exact q1 _ _ H1 _ q (e1.trans (Ext.lay h3)) ((E1.fix h2 h3 h4 h6).put (r := .val (.lst acc)) (rep_lst.mpr ⟨a, vs, rfl, .inl upd_same, Reps.mono (Ext.lay h3) _ _ h5⟩) hm)⟩
theorem set_ok {m : Nat} {x : Str} {px : Pos} (ox : OkT M tab Γ jr X) (hc : CalOk M tab jr c) (hm : MsOk G ms) (h0 : stB Γ x = true) (h01 : (!(lcB e) || (loB Γ x && (match e with | .ListComp .. => true | _ => false))) = true)
    (h1 : ixOf Γ.N x = some i) (h2 : compE m Γ e = some A) {v : Slot × DL.Env} (q1 : evM c ms A ρ = some v) {fx : Bool} (q2 : frB ms i = true) (hp : P (.nx (v.2.set i (some (if fx then fixS v.1 else v.1))))) : SD X G (.Assign [.Name x px] e pos) ρ P := by
  obtain ⟨l1, l2⟩ := st_ok ox.toOkX h0
  have hi : X.N[i]? = some x := by rw [ox.N]; exact ixOf_ok h1
  have hN : X.N.Nodup := by rw [ox.N]; exact ox.nd
  cases hl : lcB e with
  | false =>
    cases fx with
    | true => exact sd_set hN hi l1 (ed_fixS (evM_ok ox.toOkX hc hm h2 q1)) (hm _ q2) hp (lc_no hl) l2
    | false => exact sd_set hN hi l1 (evM_ok ox.toOkX hc hm h2 q1) (hm _ q2) hp (lc_no hl) l2
  | true =>
    rw [hl] at h01
    simp only [Bool.not_true, Bool.false_or, Bool.and_eq_true] at h01
    obtain ⟨h02, h03⟩ := h01
    split at h03
    · rename_i elt gs sc pe
      have q1' : evE c ms A ρ = some v := by
        unfold evM at q1
        split at q1
        · rename_i i' hi'
          obtain ⟨rfl, _⟩ := ownVar_ok hi'
          obtain ⟨x', p', he, _⟩ := comp_var h2
          cases he
        · exact q1
      obtain ⟨acc, hacc, k⟩ := (all_ok m Γ _ A h2).2.2 _ _ _ _ rfl X jr G c ms ρ v.2 v.1 ox.toOkX hc hm q1'
      rw [hacc] at hp
      have hsw := lc_pure (n := x) (elt := elt) (gs := gs) (sc := sc) (pos' := px) (pe := pe) (env := X.env) (line := pos.line)
      cases hb : (X.env.blockKind == .function && X.env.kindOf x == some .local && px.line == pe.line && !(sc.names.any fun (q : Str × NameKind) => q.1 == x && (q.2 == .local || q.2 == .cell))) with
      | true =>
        cases fx with
        | true => exact sd_setCF hi (loB_ok ox.toOkX h02) k (hm _ q2) hp (by rw [hsw, hb])
        | false => exact sd_setC hi (loB_ok ox.toOkX h02) k (hm _ q2) hp (by rw [hsw, hb])
      | false =>
        cases fx with
        | true => exact sd_set hN hi l1 (ed_fix (ed_of k)) (hm _ q2) hp (by rw [hsw, hb]) l2
        | false => exact sd_set hN hi l1 (ed_of k) (hm _ q2) hp (by rw [hsw, hb]) l2
    · cases h03
theorem setIx_ok {m : Nat} {x : Str} {px ps : Pos} {jj : Int} {B : CE} {k : Nat} (ox : OkT M tab Γ jr X) (hc : CalOk M tab jr c) (hm : MsOk G ms) (hl : lcB e = false) (h0 : plainB b = true)
    (h1 : cVar Γ x = some i) (h2 : compE m Γ e = some A) (h3 : compE m Γ b = some B) {v w : Slot × DL.Env} (q1 : evE c ms A ρ = some v) (q2 : toV v.1 = some y) (q3 : evE c ms B v.2 = some w) (q4 : w.2 = v.2) (q5 : intS w.1 = some jj) (q6 : getO v.2 i = some ds) (q7 : ixN ds.length jj = some k)
    (hp : P (.nx (v.2.set i (some (.own (ds.set k y)))))) : SD X G (.Assign [.Subscript (.Name x px) b ps] e pos) ρ P := by
  obtain ⟨g1, g2, g3, g4⟩ := ox.var h1
  have E2 := (all_ok m Γ b B h3).1 X jr G c ms _ _ _ ox.toOkX hc hm q3
  rw [q4] at E2
  obtain ⟨_, E2⟩ := ed_intS E2 q5
  refine sd_setO g1 g2 ((all_ok m Γ e A h2).1 X jr G c ms _ _ _ ox.toOkX hc hm q1) (toV_ok q2) E2 (getO_ok q6) q7 hp g3 g4 ?_ ?_ ?_
  · exact lc_no (tg := some (.Subscript (.Name x px) b ps)) (line := pos.line) (env := X.env) hl
  · rfl
  · intro v
    cases b <;> first | rfl | (cases h0; done)
theorem set2_ok {m i2 : Nat} {x y : Str} {px py pt : Pos} {kt k2 : Nat} {pt2 : Pos} {B : CE} (ox : OkT M tab Γ jr X) (hc : CalOk M tab jr c) (hm : MsOk G ms) (h01 : loB Γ x = true) (h02 : loB Γ y = true) (h03 : nsB a = true) (h04 : nsB b = true) (h05 : (x == y) = false) (h06 : px.line = py.line)
    (h07 : (foldedForSure 8 a && foldedForSure 8 b) = false) (h08 : (constantsAlone 8 a && constantsAlone 8 b) = false) (h1 : ixOf Γ.N x = some i) (h2 : ixOf Γ.N y = some i2) (h3 : compE m Γ a = some A) (h4 : compE m Γ b = some B) {v w : Slot × DL.Env} (q1 : evE c ms A ρ = some v) (q2 : evE c ms B v.2 = some w) (q3 : frB ms i = true ∧ frB ms i2 = true)
    (hp : P (.nx ((w.2.set i (some (fixS v.1))).set i2 (some (fixS w.1))))) : SD X G (.Assign [.Tuple [.Name x px, .Name y py] kt pt] (.Tuple [a, b] k2 pt2) pos) ρ P := by
  have E1 := ed_fixS ((all_ok m Γ a A h3).1 X jr G c ms _ _ _ ox.toOkX hc hm q1)
  have E2 := ed_fixS ((all_ok m Γ b B h4).1 X jr G c ms _ _ _ ox.toOkX hc hm q2)
  have hN : X.N.Nodup := by rw [ox.N]; exact ox.nd
  have hi : X.N[i]? = some x := by rw [ox.N]; exact ixOf_ok h1
  have hj : X.N[i2]? = some y := by rw [ox.N]; exact ixOf_ok h2
  have hij : i ≠ i2 := fun e => by
    subst e
    rw [hi] at hj
    injection hj with hj
    rw [hj, Bool.eq_false_iff] at h05
    exact h05 (beq_self_eq_true _)
  have lx := loB_ok ox.toOkX h01
  have ly := loB_ok ox.toOkX h02
  have fx : ∀ s : Slot, ∃ k d, fixS s = .v k d := fun s => by
    cases s with
    | v k d => exact ⟨k, d, rfl⟩
    | own ds => exact ⟨true, .lst ds, rfl⟩
  obtain ⟨k1, D1, e1⟩ := fx v.1
  obtain ⟨k2, D2, e2⟩ := fx w.1
  rw [e1] at E1
  rw [e2] at E2
  rw [e1, e2] at hp
  exact sd_set2 ox.calm hN hi hj hij lx ly E1 E2 h03 h04 (hm _ q3.1) (hm _ q3.2) (sw_ok ox.bk lx ly h03 h04 h05 h06 h07 h08) hp
/-- for over anything; only turns that are reached count -/
theorem sd_forW' {sts : List Stmt} {tg iter : Expr} {g : TG} {ix : List Nat} {it : Nat → Yld} {ft : Nat → DL.Env → DL.Env} {m : Nat} (J : Nat → DL.Env → Prop) (hw : WD X G tg iter ρ ρ1 m it) (hg : PG X tg g) (hy : ∀ t ρ', t < m → J t ρ' → TgR X.K G g ix (it t) (ft t)) (h0 : J 0 ρ1)
    (ht : ∀ t ρ', t < m → J t ρ' → BD X G sts (ft t ρ') (turnP (J (t + 1)) P)) (hd : ∀ ρ', J m ρ' → P (.nx ρ')) (hp : PassesOwn (model X.prog X.w) X.A X.env X.xe) (hc : X.calm = true) (hs : ∀ x, foldedSetIterable iter X.env x = pure x) : SD X G (.For tg iter sts [] pos) ρ P := by
  have hb : PSs X sts (tTurnW X.K G m ft J P) := pss_any fun q hq => ht q.1 q.2 hq.1 hq.2
  refine ps_mono (ps_for hp hc hw hg hb hs) fun D σ H ⟨F, E, q1, q2, q3, q4⟩ => ⟨F, E, fun F1 H1 Jt e1 E1 wk => ?_⟩
  obtain ⟨Gd, Y, W, hG, hY⟩ := wk
  refine for_it W (g := g) (tb := tTurnW X.K G m ft J P) (D := D) (fun t σ' H' => ∃ F' ρ', J t ρ' ∧ Ext F1 F' ∧ ER X.K G F' H' σ' ρ') ⟨F1, ρ1, h0, Ext.refl _, E1⟩ ?_ ?_ ?_
  · rintro t σ' H' _ ⟨F', ρ', _, e2, E2⟩
    exact hG H' (e2.trans E2.sub) E2.keep
  · rintro t x σ' H' H2 hx ⟨F', ρ', hj, e2, E2⟩ y
    refine hy t ρ' hx hj F1 F' H' H2 σ' ρ' x _ e2 E2 (hY t H' x H2 hx (e2.trans E2.sub) E2.keep y) fun H3 ws _ E3 => ?_
    refine ⟨(t, ρ'), ⟨hx, hj⟩, F', E3, ?_, ?_, ?_, ?_⟩
    · exact fun ρ4 F4 H4 σ4 h4 e4 E4 => ⟨F4, ρ4, h4, e2.trans e4, E4⟩
    · exact fun r ρ4 F4 H4 σ4 v h4 e4 E4 r4 => q2 r ρ4 F4 H4 σ4 v h4 ((e1.trans e2).trans e4) E4 r4
    · exact fun ρ4 F4 H4 σ4 h4 e4 E4 => q1 ρ4 F4 H4 σ4 h4 ((e1.trans e2).trans e4) E4
    · exact fun ρ4 F4 H4 σ4 h4 e4 E4 => ⟨F4, ρ4, h4, e2.trans e4, E4⟩
  · rintro σ' H' ⟨F', ρ', hj, e2, E2⟩
    exact q1 ρ' F' H' σ' (hd ρ' hj) (e1.trans e2) E2
theorem for_ok {sts : List Stmt} {tg it : Expr} {w : Wk} {g : Tgt} {f : DL.Env → Option Out} (ox : OkT M tab Γ jr X) (W1 : WD X G tg it ρ ρ1 w.m w.it) (W2 : ∀ x, foldedSetIterable it X.env x = pure x) (ht : PG X tg (gOf X.K g)) (hmv : ∀ i ∈ g.ix, G.ms[i]? ≠ some true)
    (hb : ∀ ρ u (P : Out → Prop), f ρ = some u → P u → BD X G sts ρ P) (q : forL (fun t ρ' => (bindY g (w.it t)).bind fun g => f (g ρ')) 0 w.m ρ1 = some u) (hp : P u) : SD X G (.For tg it sts [] pos) ρ P := by
  refine sd_forW' (g := gOf X.K g) (ix := g.ix) (ft := fun t => (bindY g (w.it t)).getD id) (J := fun t ρ' => forL (fun t ρ' => (bindY g (w.it t)).bind fun g => f (g ρ')) t (w.m - t) ρ' = some u) W1 ht (fun t ρ' h hj => ?_) q (fun t ρ' h hj => ?_) (fun ρ' hj => ?_) ox.pass ox.calm W2
  · rw [show w.m - t = (w.m - (t + 1)) + 1 by omega] at hj
    obtain ⟨o, h1, _⟩ := bind_some' hj
    obtain ⟨gf, h2, _⟩ := bind_some' h1
    simp only [h2, Option.getD_some]
    exact (bindY_ok h2 hmv).1
  · rw [show w.m - t = (w.m - (t + 1)) + 1 by omega] at hj
    obtain ⟨o, h1, h3⟩ := bind_some' hj
    obtain ⟨gf, h2, h1⟩ := bind_some' h1
    simp only [h2, Option.getD_some]
    refine hb _ o _ h1 ?_
    cases o with
    | nx ρ2 => exact h3
    | ct ρ2 => exact h3
    | bk ρ2 => cases h3; exact hp
    | ret r ρ2 => cases h3; exact hp
  · rw [Nat.sub_self] at hj
    cases hj
    exact hp
theorem stm_ok (mu : List Nat) : ∀ (m : Nat) (Γ : Ga) (st : Stmt) (a : CS), compS mu m Γ st = some a → SS M tab Γ st a := by
  intro m
  induction m with
  | zero => intro Γ st a h; cases h
  | succ m ih =>
    intro Γ st a h
    have W : Parts M tab Γ (compE m Γ) := ⟨fun e a h => ⟨(all_ok m Γ e a h).1, (all_ok m Γ e a h).2.1⟩, fun e i h => comp_var h⟩
    unfold compS at h
    split at h
    · -- a name is set
      obtain ⟨h0, h⟩ := ite_some h
      rw [Bool.and_eq_true] at h0
      obtain ⟨i, h1, h⟩ := bind_some' h
      obtain ⟨A, h2, h⟩ := bind_some' h
      cases h
      intro X j G c ms ρ u P ox hc hm q hp
      simp only [evB] at q
      obtain ⟨v, q1, q⟩ := bind_some' q
      obtain ⟨q2, q⟩ := chk_some q
      cases q
      exact set_ok ox hc hm h0.1 h0.2 h1 h2 q1 q2 hp
    · -- an item is set
      split at h
      · cases h
      · rename_i hl
        have hl := Bool.eq_false_iff.mpr hl
        obtain ⟨h0, h⟩ := ite_some h
        obtain ⟨i, h1, h⟩ := bind_some' h
        obtain ⟨A, h2, h⟩ := bind_some' h
        obtain ⟨B, h3, h⟩ := bind_some' h
        cases h
        intro X j G c ms ρ u P ox hc hm q hp
        simp only [evB] at q
        obtain ⟨v, q1, q⟩ := bind_some' q
        obtain ⟨d, q2, q⟩ := bind_some' q
        obtain ⟨w, q3, q⟩ := bind_some' q
        obtain ⟨q4, q⟩ := chk_some q
        obtain ⟨jj, q5, q⟩ := bind_some' q
        obtain ⟨ds, q6, q⟩ := bind_some' q
        obtain ⟨k, q7, q⟩ := bind_some' q
        cases q
        exact setIx_ok ox hc hm hl h0 h1 h2 h3 q1 q2 q3 q4 q5 q6 q7 hp
    · -- two names
      obtain ⟨h0, h⟩ := ite_some h
      simp only [Bool.and_eq_true, Bool.not_eq_true'] at h0
      obtain ⟨⟨⟨⟨⟨⟨⟨h01, h02⟩, h03⟩, h04⟩, h05⟩, h06⟩, h07⟩, h08⟩ := h0
      obtain ⟨i, h1, h⟩ := bind_some' h
      obtain ⟨i2, h2, h⟩ := bind_some' h
      obtain ⟨A, h3, h⟩ := bind_some' h
      obtain ⟨B, h4, h⟩ := bind_some' h
      cases h
      intro X j G c ms ρ u P ox hc hm q hp
      simp only [evB] at q
      obtain ⟨v, q1, q⟩ := bind_some' q
      obtain ⟨w, q2, q⟩ := bind_some' q
      obtain ⟨q3, q⟩ := chk_some q
      cases q
      exact set2_ok ox hc hm h01 h02 h03 h04 h05 (eq_of_beq h06) h07 h08 h1 h2 h3 h4 q1 q2 q3 hp
    · split at h
      · cases h
      · rename_i hl
        have hl := Bool.eq_false_iff.mpr hl
        obtain ⟨A, h1, rfl⟩ := map_some' h
        intro X j G c ms ρ u P ox hc hm q hp
        simp only [evB] at q
        obtain ⟨v, q1, q⟩ := bind_some' q
        cases q
        exact sd_expr ((W.1 _ _ h1).1 X j G c ms _ _ _ ox.toOkX hc hm q1) hp (lc_no hl)
    · obtain ⟨A, h1, rfl⟩ := map_some' h
      intro X j G c ms ρ u P ox hc hm q hp
      simp only [evB] at q
      obtain ⟨v, q1, q⟩ := bind_some' q
      cases q
      exact sd_ret (ed_nv (evM_ok ox.toOkX hc hm h1 q1)) hp
    · cases h
      intro X j G c ms ρ u P ox hc hm q hp
      simp only [evB] at q
      cases q
      exact sd_retN hp
    · obtain ⟨T, h1, h⟩ := bind_some' h
      obtain ⟨A, h2, h⟩ := bind_some' h
      obtain ⟨B, h3, h⟩ := bind_some' h
      cases h
      intro X j G c ms ρ u P ox hc hm q hp
      simp only [evB] at q
      obtain ⟨v, q1, q⟩ := bind_some' q
      refine sd_if ((W.1 _ _ h1).2 X j G c ms _ _ _ ox.toOkX hc hm q1) (fun hk => ?_) fun hk => ?_
      · rw [hk, if_pos rfl] at q
        exact blk_ok (ih Γ) h2 X j G c ms _ u P ox hc hm q hp
      · rw [hk, if_neg Bool.false_ne_true] at q
        exact blk_ok (ih Γ) h3 X j G c ms _ u P ox hc hm q hp
    · obtain ⟨w, h1, h⟩ := bind_some' h
      obtain ⟨g, h2, h⟩ := bind_some' h
      obtain ⟨B, h3, h⟩ := bind_some' h
      cases h
      intro X j G c ms ρ u P ox hc hm q hp
      simp only [evB] at q
      obtain ⟨v, q1, q⟩ := bind_some' q
      obtain ⟨q2, q⟩ := chk_some q
      obtain ⟨W1, W2⟩ := cWalk_ok W ox.toOkX hc hm h1 q1
      exact for_ok ox W1 W2 (cTgt_ok ox.toOkX h2) (fun i hi => hm i (List.all_eq_true.mp q2 i hi)) (fun ρ u P h hp => blk_ok (ih Γ) h3 X j G c ms _ u P ox hc hm h hp) q hp
    · cases h
      intro X j G c ms ρ u P ox hc hm q hp
      simp only [evB] at q
      cases q
      exact sd_pass hp
    · cases h
      intro X j G c ms ρ u P ox hc hm q hp
      simp only [evB] at q
      cases q
      exact sd_brk hp
    · cases h
      intro X j G c ms ρ u P ox hc hm q hp
      simp only [evB] at q
      cases q
      exact sd_ct hp
    · obtain ⟨h0, h⟩ := ite_some h
      obtain ⟨k, h1, h⟩ := bind_some' h
      obtain ⟨A, h2, rfl⟩ := map_some' h
      intro X j G c ms ρ u P ox hc hm q hp
      simp only [evB] at q
      cases q
    · cases h
end
end RL
/-! RL8: the defs of a program, and their calls. -/
namespace RL
open PySem L2 DL PyProof.Rows PySem.W
structure De where
  name : Str
  ps : List Str
  N : List Str
  st : Stmt
  own : List Bool
  mu : List Nat
  cs : CS
  sp : Option (Cs → Cs → List Slot → Option (Slot × List Slot)) := none
def outsS (ρ : DL.Env) : Nat → List Slot → Option (List Slot)
  | _, [] => some []
  | i, .own _ :: as => (getO ρ i).bind fun es => (outsS ρ (i + 1) as).bind fun r => some (.own es :: r)
  | i, .v k d :: as => (outsS ρ (i + 1) as).bind fun r => some (.v k d :: r)
def resB : Slot → Bool
  | .v k _ => k
  | .own _ => true
noncomputable def runD (c : Cs) (d : De) (args : List Slot) : Option (Slot × List Slot) :=
  chk (args.length = d.ps.length) ((evB c (args.map isOwn) d.cs (startE d.N args)).bind fun o => match o with
    | .ret r ρ' => chk (resB r = true) ((outsS ρ' 0 args).bind fun outs => some (r, outs))
    | .nx ρ' => (outsS ρ' 0 args).bind fun outs => some (.val .non, outs)
    | _ => none)
def modes (T : List De) (f : Nat) : List Bool := ((T[f]?).map (·.own)).getD []
/-- one def's call; a def with a hook (sp) is told by it, from the calls of two levels below -/
noncomputable def stepD (T : List De) (n : Nat) (c c' : CC) (d : De) (args : List Slot) : Option (Slot × List Slot) :=
  match d.sp, n with
  | none, _ => runD ⟨c, modes T⟩ d args
  | some _, 0 => none
  | some _, 1 => none
  | some _, 2 => none
  | some h, _ + 3 => h ⟨c, modes T⟩ ⟨c', modes T⟩ args
theorem step_none {T : List De} {n : Nat} {c c' : CC} {d : De} {args : List Slot} (h : d.sp = none) : stepD T n c c' d args = runD ⟨c, modes T⟩ d args := by
  unfold stepD; rw [h]
theorem step_low {T : List De} {n : Nat} {c c' : CC} {d : De} {args : List Slot} {k : Cs → Cs → List Slot → Option (Slot × List Slot)} (h : d.sp = some k) (hn : n < 3) : stepD T n c c' d args = none := by
  match n, hn with
  | 0, _ => unfold stepD; rw [h]
  | 1, _ => unfold stepD; rw [h]
  | 2, _ => unfold stepD; rw [h]
theorem step_hook {T : List De} {n : Nat} {c c' : CC} {d : De} {args : List Slot} {k : Cs → Cs → List Slot → Option (Slot × List Slot)} (h : d.sp = some k) : stepD T (n + 3) c c' d args = k ⟨c, modes T⟩ ⟨c', modes T⟩ args := by
  unfold stepD; rw [h]
/-- calls up to a level, and up to the one below -/
noncomputable def callP (T : List De) : Nat → CC × CC
  | 0 => (fun _ _ => none, fun _ _ => none)
  | n + 1 => (fun f args => (T[f]?).bind fun d => stepD T n (callP T n).1 (callP T n).2 d args, (callP T n).1)
noncomputable def callT (T : List De) (n : Nat) : CC := (callP T n).1
noncomputable def csT (T : List De) (n : Nat) : Cs := ⟨callT T n, modes T⟩
def tabOf (T : List De) (i : Nat) : Option (Str × List Str) := (T[i]?).map fun d => (d.name, d.ps)
def fnsOf (T : List De) (x : Str) : Option (Nat × List Str) := (T.findIdx? (fun d => decide (d.name = x))).bind fun i => (T[i]?).map fun d => (i, d.ps)
def gaOf (T : List De) (cst : Str → Option D) (cls : Str → Option Nat) (d : De) : Ga := ⟨d.N, defScope d.st, true, cst, fnsOf T, cls⟩
theorem fnsOf_ok {T : List De} {x : Str} {i : Nat} {ps : List Str} (h : fnsOf T x = some (i, ps)) : tabOf T i = some (x, ps) := by
  unfold fnsOf at h
  obtain ⟨j, h1, h⟩ := bind_some' h
  obtain ⟨d, h2, h⟩ := map_some' h
  cases h
  unfold tabOf
  obtain ⟨k1, k2, _⟩ := List.findIdx?_eq_some_iff_getElem.mp h1
  rw [h2]
  rw [List.getElem?_eq_getElem k1] at h2
  injection h2 with h2
  rw [h2] at k2
  show some (d.name, d.ps) = _
  rw [of_decide_eq_true k2]
structure TabOk (M : Mo) (T : List De) (cst : Str → Option D) (cls : Str → Option Nat) : Prop where
  m : M.Ok
  kst : ∀ x d, cst x = some d → ∃ v u, M.mg x = some u ∧ RelV v u ∧ ∀ F, Rep M.K F d v
  there : ∀ d ∈ T, DefAt M.K M.mg d.name d.st d.ps
  scope : ∀ d ∈ T, FnScope d.N d.ps (defScope d.st)
  comp : ∀ d ∈ T, d.sp = none → cBlk (compS d.mu 60 (gaOf T cst cls d)) (defBody d.st) = some d.cs
  hook : ∀ d ∈ T, ∀ h, d.sp = some h → ∀ (n : Nat) (c c' : Cs), CalOk M (tabOf T) (n + 3) c → CalOk M (tabOf T) (n + 2) c' → c.M = modes T → c'.M = modes T → ∀ args r outs, h c c' args = some (r, outs) → CalD M.P M.w M.K M.mg M.base (n + 4) d.name d.ps (spD M.K args r outs) ∧ ResOk r ∧ OwnTo outs args
theorem outsS_ok {ρ : DL.Env} : ∀ {args outs : List Slot} {n : Nat}, outsS ρ n args = some outs →
    outs.length = args.length ∧ ∀ (i : Nat) (s : Slot), args[i]? = some s → (isOwn s = true → ∃ es : List D, outs[i]? = some (.own es) ∧ ρ[n + i]? = some (some (.own es))) ∧ (isOwn s = false → outs[i]? = some s)
  | [], outs, n, h => by
    cases h
    exact ⟨rfl, fun i s q => by cases q⟩
  | .own ds :: as, outs, n, h => by
    simp only [outsS] at h
    obtain ⟨es, h1, h⟩ := bind_some' h
    obtain ⟨r, h2, h⟩ := bind_some' h
    cases h
    obtain ⟨k1, k2⟩ := outsS_ok h2
    refine ⟨by simp [k1], fun i s q => ?_⟩
    cases i with
    | zero =>
      cases q
      exact ⟨fun _ => ⟨es, rfl, getO_ok h1⟩, fun z => by cases z⟩
    | succ i =>
      obtain ⟨l1, l2⟩ := k2 i s q
      exact ⟨fun z => by
        obtain ⟨es', m1, m2⟩ := l1 z
        exact ⟨es', m1, by rw [show n + (i + 1) = n + 1 + i by omega]; exact m2⟩, l2⟩
  | .v k d :: as, outs, n, h => by
    simp only [outsS] at h
    obtain ⟨r, h2, h⟩ := bind_some' h
    cases h
    obtain ⟨k1, k2⟩ := outsS_ok h2
    refine ⟨by simp [k1], fun i s q => ?_⟩
    cases i with
    | zero =>
      cases q
      exact ⟨fun z => (by cases z), fun z => rfl⟩
    | succ i =>
      obtain ⟨l1, l2⟩ := k2 i s q
      exact ⟨fun z => by
        obtain ⟨es', m1, m2⟩ := l1 z
        exact ⟨es', m1, by rw [show n + (i + 1) = n + 1 + i by omega]; exact m2⟩, l2⟩
theorem outs_own {ρ : DL.Env} {args outs : List Slot} (h : outsS ρ 0 args = some outs) : OwnTo outs args ∧ ∀ (i : Nat) (ds : List D), args[i]? = some (.own ds) → ∃ es : List D, outs[i]? = some (.own es) ∧ ρ[i]? = some (some (.own es)) := by
  obtain ⟨h1, h2⟩ := outsS_ok h
  refine ⟨⟨h1, fun i s q => ⟨fun z => ?_, (h2 i s q).2⟩⟩, fun i ds q => ?_⟩
  · obtain ⟨es, k1, _⟩ := (h2 i s q).1 z
    exact ⟨es, k1⟩
  · obtain ⟨es, k1, k2⟩ := (h2 i _ q).1 rfl
    rw [Nat.zero_add] at k2
    exact ⟨es, k1, k2⟩
theorem res_ok {r : Slot} (h : resB r = true) : ResOk r := by
  cases r with
  | own ds => exact .own
  | v k d =>
    have h : k = true := h
    subst h
    exact .val
theorem callT_ok {M : Mo} {T : List De} {cst : Str → Option D} {cls : Str → Option Nat} (H : TabOk M T cst cls) : ∀ n, CalOk M (tabOf T) n (csT T n)
  | 0 => fun f args r outs h => by cases h
  | n + 1 => fun f args r outs h => by
    obtain ⟨d, h1, h⟩ := bind_some' (show ((T[f]?).bind fun d => stepD T n (callP T n).1 (callP T n).2 d args) = some (r, outs) from h)
    have hd : d ∈ T := List.mem_of_getElem? h1
    cases hsp : d.sp with
    | some hk =>
      match n, h with
      | 0, h => rw [step_low hsp (by decide)] at h; cases h
      | 1, h => rw [step_low hsp (by decide)] at h; cases h
      | 2, h => rw [step_low hsp (by decide)] at h; cases h
      | n + 3, h =>
        rw [step_hook hsp] at h
        obtain ⟨k1, k2, k3⟩ := H.hook d hd hk hsp n _ _ (callT_ok H (n + 3)) (callT_ok H (n + 2)) rfl rfl args r outs h
        exact ⟨d.name, d.ps, by unfold tabOf; rw [h1]; rfl, k1, k2, k3⟩
    | none =>
    rw [step_none hsp] at h
    have ih := callT_ok H n
    have h : runD (csT T n) d args = some (r, outs) := h
    unfold runD at h
    obtain ⟨h2, h⟩ := chk_some h
    obtain ⟨o, h3, h⟩ := bind_some' h
    have key : ∃ (hr : ResOk r) (ho : OwnTo outs args), EndP args r outs o := by
      cases o with
      | ret r' ρ' =>
        obtain ⟨h4, h⟩ := chk_some h
        obtain ⟨os, h5, h⟩ := bind_some' h
        cases h
        obtain ⟨k1, k2⟩ := outs_own h5
        exact ⟨res_ok h4, k1, rfl, k2⟩
      | nx ρ' =>
        obtain ⟨os, h5, h⟩ := bind_some' h
        cases h
        obtain ⟨k1, k2⟩ := outs_own h5
        exact ⟨.val, k1, rfl, k2⟩
      | bk _ => cases h
      | ct _ => cases h
    obtain ⟨hres, hown, hend⟩ := key
    refine ⟨d.name, d.ps, by unfold tabOf; rw [h1]; rfl, calD (H.there d hd) (H.scope d hd) h2 hown fun f cdv A outer s H' F0 vs E hroom => ?_, hres, hown⟩
    have S := H.scope d hd
    have ox : OkT M (tabOf T) (gaOf T cst cls d) n (cxOf CX0 M.P M.w M.K M.mg M.base d.N d.name (defScope d.st) f cdv A outer s H' E).nox :=
      { m := H.m, prog := rfl, w := rfl, K := rfl, mg := rfl, base := rfl, N := rfl, sc := rfl, calm := rfl, nd := S.nd, room := hroom, fn := fun _ _ => rfl, fns := fun _ _ _ h => fnsOf_ok h, cst := H.kst, top := rfl, pass := PassesOwn.never, bk := by
          show PySem.Env.blockKind _ = _
          unfold PySem.Env.blockKind
          have : (defScope d.st).kind = .function := S.kind
          show (if (defScope d.st).kind.isAnnotationScope = true then _ else (defScope d.st).kind) = _
          rw [this]; rfl }
    refine blk_ok (fun st a h => stm_ok d.mu 60 _ st a h) (H.comp d hd hsp) _ n _ (csT T n) (args.map isOwn) _ o _ ox ih ?_ h3 hend
    intro i hi e
    have e : (args.map isOwn)[i]? = some true := e
    unfold frB at hi
    rw [List.getD_eq_getElem?_getD, e] at hi
    cases hi
end RL
/-! RL9: single equations, for frames that stand there; so that what comes behind waits. -/
namespace RL
open PySem L2 DL PyProof.Rows PySem.W
section
variable {c : Cs} {ms : List Bool} {x : Option Slot} {r : DL.Env} {i j : Nat} {a b d e w : CE} {k : Bool} {dd : D} {ds : List D} {vs : List Nat} {tg : Tgt}
theorem e_cst : evE c ms (.cst dd) (x :: r) = some (.val dd, x :: r) := by simp only [evE]
theorem e_varV (h : (x :: r)[i]? = some (some (.v k dd))) : evE c ms (.var i) (x :: r) = some (.v k dd, x :: r) := by simp only [evE, h]
theorem e_varO (h : (x :: r)[i]? = some (some (.own ds))) (hm : frB ms i = true) : evE c ms (.var i) (x :: r) = some (.val (.lst ds), (x :: r).set i (some (.val (.lst ds)))) := by simp only [evE, h, chk_pos hm]
def varE (ms : List Bool) (i : Nat) (ρ : DL.Env) : Option Slot → Option (Slot × DL.Env)
  | some (.v k d) => some (.v k d, ρ)
  | some (.own ds) => if frB ms i = true then some (.val (.lst ds), ρ.set i (some (.val (.lst ds)))) else none
  | none => none
theorem e_var : evE c ms (.var i) (x :: r) = ((x :: r)[i]?).bind (varE ms i (x :: r)) := by
  simp only [evE]
  cases (x :: r)[i]? with
  | none => rfl
  | some o =>
    cases o with
    | none => rfl
    | some s =>
      cases s with
      | v k d => rfl
      | own ds =>
        show chk _ _ = _
        unfold chk
        show _ = if frB ms i = true then _ else none
        by_cases h : frB ms i = true
        · rw [if_pos h, if_pos h]
        · rw [if_neg h, if_neg h]
theorem e_bin {op : Operator} : evE c ms (.bin op a b) (x :: r) = (evE c ms a (x :: r)).bind fun p => (evE c ms b p.2).bind fun q => (binS op p.1 q.1).bind fun z => some (z, q.2) := by simp only [evE]
theorem e_neg : evE c ms (.neg a) (x :: r) = (evE c ms a (x :: r)).bind fun p => (intS p.1).bind fun i => some (.val (.int (-i)), p.2) := by simp only [evE]
theorem e_no : evE c ms (.no a) (x :: r) = (evE c ms a (x :: r)).bind fun p => (blS p.1).bind fun k => some (.val (.bl (!k)), p.2) := by simp only [evE]
theorem e_one : evE c ms (.one a) (x :: r) = evE c ms a (x :: r) := by simp only [evE]
theorem e_conj : evE c ms (.conj a b) (x :: r) = (evE c ms a (x :: r)).bind fun p => (blS p.1).bind fun k => if k then evE c ms b p.2 else some (.val (.bl false), p.2) := by simp only [evE]
theorem e_disj : evE c ms (.disj a b) (x :: r) = (evE c ms a (x :: r)).bind fun p => (blS p.1).bind fun k => if k then some (.val (.bl true), p.2) else evE c ms b p.2 := by simp only [evE]
theorem e_cmp {op : CmpOp} : evE c ms (.cmp op a b) (x :: r) = (evE c ms a (x :: r)).bind fun p => (evE c ms b p.2).bind fun q => (cmpS op p.1 q.1).bind fun z => some (.val (.bl z), q.2) := by simp only [evE]
theorem e_ite : evE c ms (.ite d a b) (x :: r) = (evT c ms d (x :: r)).bind fun p => if p.1 then evE c ms a p.2 else evE c ms b p.2 := by simp only [evE]
def isVar : CE → Bool
  | .var _ => true
  | _ => false
theorem own_no (h : isVar a = false) {ρ : DL.Env} : ownVar a ρ = none := by
  cases a <;> first | rfl | (cases h; done)
def ownB (ρ : DL.Env) (i : Nat) : Bool := (getO ρ i).isSome
theorem own_yes {ρ : DL.Env} (h : ownB ρ i = true) : ownVar (.var i) ρ = some i := by
  unfold ownB getO at h
  unfold ownVar
  dsimp only
  split at h
  · rfl
  · cases h
theorem own_not {ρ : DL.Env} (h : ownB ρ i = false) : ownVar (.var i) ρ = none := by
  unfold ownB getO at h
  unfold ownVar
  dsimp only
  split at h
  · cases h
  · rename_i hd
    cases he : ρ[i]? with
    | none => rfl
    | some o =>
      cases o with
      | none => rfl
      | some s =>
        cases s with
        | v k d => rfl
        | own ds => exact (hd ds he).elim
theorem e_idxO (h : ownB (x :: r) i = true) : evE c ms (.idx (.var i) b) (x :: r) = (evE c ms b (x :: r)).bind fun q => (intS q.1).bind fun j => (getO q.2 i).bind fun ds => (atI ds j).bind fun d => some (.val d, q.2) := by simp only [evE, own_yes h]
theorem e_idxV (h : ownB (x :: r) i = false) : evE c ms (.idx (.var i) b) (x :: r) = (evE c ms (.var i) (x :: r)).bind fun p => (evE c ms b p.2).bind fun q => (intS q.1).bind fun j => (idxS (fixS p.1) j).bind fun z => some (z, q.2) := by rw [evE.eq_def]; simp only [own_not h]
theorem e_idx (h : isVar a = false) : evE c ms (.idx a b) (x :: r) = (evE c ms a (x :: r)).bind fun p => (evE c ms b p.2).bind fun q => (intS q.1).bind fun j => (idxS (fixS p.1) j).bind fun z => some (z, q.2) := by rw [evE.eq_def]; simp only [own_no h]
theorem e_sl {lo hi : CE} : evE c ms (.sl a lo hi) (x :: r) = (evE c ms a (x :: r)).bind fun p => (evO c ms lo p.2).bind fun l => (evO c ms hi l.2).bind fun h => (slS p.1 l.1 h.1).bind fun z => some (z, h.2) := by simp only [evE]
theorem e_dk0 : evE c ms .dk0 (x :: r) = some (.val (.dk [] []), x :: r) := by simp only [evE]
theorem e_lst : evE c ms (.lst a) (x :: r) = (evA c ms a (x :: r)).bind fun p => chk (p.1.length ≤ sizeLine) (some (.own p.1, p.2)) := by simp only [evE]
theorem e_tup : evE c ms (.tup a) (x :: r) = (evA c ms a (x :: r)).bind fun p => chk (p.1.length ≤ sizeLine) (some (.val (.tup p.1), p.2)) := by simp only [evE]
theorem e_lenO (h : ownB (x :: r) i = true) : evE c ms (.fn .len (.var i)) (x :: r) = (getO (x :: r) i).bind fun ds => some (.val (.int (ds.length : Nat)), x :: r) := by rw [evE.eq_def]; simp only [own_yes h]
theorem e_fnV {f : Bf} (h : ownB (x :: r) i = false) : evE c ms (.fn f (.var i)) (x :: r) = (evE c ms (.var i) (x :: r)).bind fun p => (fnS f p.1).bind fun z => some (z, p.2) := by
  rw [evE.eq_def]
  simp only [own_not h]
theorem e_fnL {f : Bf} (h : f ≠ .len) : evE c ms (.fn f a) (x :: r) = (evE c ms a (x :: r)).bind fun p => (fnS f p.1).bind fun z => some (z, p.2) := by
  rw [evE.eq_def]
  cases f <;> first | rfl | exact (h rfl).elim
theorem e_fn {f : Bf} (h : isVar a = false) : evE c ms (.fn f a) (x :: r) = (evE c ms a (x :: r)).bind fun p => (fnS f p.1).bind fun z => some (z, p.2) := by
  rw [evE.eq_def]
  simp only [own_no h]
theorem e_isi {Ts : List String} : evE c ms (.isi a Ts) (x :: r) = (evE c ms a (x :: r)).bind fun p => chk (plainD (datS p.1) = true) (some (.val (.bl (isiL (datS p.1) Ts)), p.2)) := by simp only [evE]
theorem e_call {f : Nat} : evE c ms (.call f a) (x :: r) = (evS c ms a (x :: r)).bind fun q => callS c f q := by simp only [evE]
theorem e_app : evE c ms (.app i a) (x :: r) = (getO (x :: r) i).bind fun _ => (evE c ms a (x :: r)).bind fun p => (toV p.1).bind fun d => (getO p.2 i).bind fun ds => chk (ds.length < sizeLine) (some (.val .non, p.2.set i (some (.own (ds ++ [d]))))) := by simp only [evE]
noncomputable def extS (ρ : DL.Env) (i : Nat) (ds : List D) : D → Option (Slot × DL.Env)
  | .lst es => chk (ds.length + es.length ≤ sizeLine) (some (.val .non, ρ.set i (some (.own (ds ++ es)))))
  | _ => none
theorem e_ext : evE c ms (.ext i a) (x :: r) = (getO (x :: r) i).bind fun _ => (evE c ms a (x :: r)).bind fun p => (toV p.1).bind fun d => (getO p.2 i).bind fun ds => extS p.2 i ds d := by
  rw [evE.eq_def]; dsimp only
  congr 1
theorem e_pop : evE c ms (.pop i a) (x :: r) = (getO (x :: r) i).bind fun _ => (evE c ms a (x :: r)).bind fun p => (intS p.1).bind fun j => (getO p.2 i).bind fun ds => chk (0 ≤ j ∧ j < 9223372036854775808) ((ds[j.toNat]?).bind fun d => some (.val d, p.2.set i (some (.own (ds.eraseIdx j.toNat))))) := by
  have e1 : (2 : Int) ^ 63 = 9223372036854775808 := by decide
  simp only [evE, e1]
theorem e_rev : evE c ms (.rev i) (x :: r) = (getO (x :: r) i).bind fun ds => some (.val .non, (x :: r).set i (some (.own ds.reverse))) := by simp only [evE]
theorem e_count : evE c ms (.count a b) (x :: r) = (evE c ms a (x :: r)).bind fun p => (evE c ms b p.2).bind fun q => (seqS p.1).bind fun w => chk (flatD (datS q.1) = true ∧ w.2.all flatD = true) (some (.val (.int (w.2.countP (fun y => eqF y (datS q.1)) : Nat)), q.2)) := by simp only [evE]
theorem e_join : evE c ms (.join a b) (x :: r) = (evE c ms a (x :: r)).bind fun p => (evE c ms b p.2).bind fun q => (strS p.1).bind fun t => (lstS q.1).bind fun ds => (strsOf ds).bind fun ss => chk ((ss.map (·.length)).sum + ss.length * t.length ≤ 16777216) (some (.val (.str (Txt.join t ss)), q.2)) := by simp only [evE]
theorem e_comp : evE c ms (.comp e w tg vs) (x :: r) = (evW c ms w (x :: r)).bind fun p => chk (p.1.m ≤ sizeLine ∧ vs.all (frB ms) = true) ((compL (compF c e tg vs p.1.it) 0 p.1.m p.2 []).bind fun z => some (.own z.1, z.2)) := by simp only [evE]; rfl
theorem e_compI {t : CE} : evE c ms (.compI e t w tg vs) (x :: r) = (evW c ms w (x :: r)).bind fun p => chk (p.1.m ≤ sizeLine ∧ vs.all (frB ms) = true) ((compL (compIF c e t tg vs p.1.it) 0 p.1.m p.2 []).bind fun z => some (.own z.1, z.2)) := by simp only [evE]; rfl
theorem t_no : evT c ms (.no a) (x :: r) = (evT c ms a (x :: r)).bind fun p => some (!p.1, p.2) := by simp only [evT]
theorem t_one : evT c ms (.one a) (x :: r) = evT c ms a (x :: r) := by simp only [evT]
theorem t_conj : evT c ms (.conj a b) (x :: r) = (evT c ms a (x :: r)).bind fun p => if p.1 then evT c ms b p.2 else some (false, p.2) := by simp only [evT]
theorem t_disj : evT c ms (.disj a b) (x :: r) = (evT c ms a (x :: r)).bind fun p => if p.1 then some (true, p.2) else evT c ms b p.2 := by simp only [evT]
theorem t_cmp {op : CmpOp} : evT c ms (.cmp op a b) (x :: r) = (evE c ms a (x :: r)).bind fun p => (evE c ms b p.2).bind fun q => (cmpS op p.1 q.1).bind fun z => some (z, q.2) := by simp only [evT]
theorem t_chain {o1 o2 : CmpOp} : evT c ms (.chain o1 o2 a b d) (x :: r) = (evE c ms a (x :: r)).bind fun p => (evE c ms b p.2).bind fun q => (cmpD o1 (datS p.1) (datS q.1)).bind fun z => if z then (evE c ms d q.2).bind fun w => chk (w.2 = q.2) ((cmpD o2 (datS q.1) (datS w.1)).bind fun y => some (y, q.2)) else some (false, q.2) := by simp only [evT]
theorem t_varB {bb : Bool} (h : (x :: r)[i]? = some (some (.v k (.bl bb)))) : evT c ms (.var i) (x :: r) = some (bb, x :: r) := by simp only [evT, h]
theorem t_fn {f : Bf} : evT c ms (.fn f a) (x :: r) = (evE c ms a (x :: r)).bind fun p => (fnS f p.1).bind fun z => (blS z).bind fun b => some (b, p.2) := by simp only [evT]
theorem t_isi {Ts : List String} : evT c ms (.isi a Ts) (x :: r) = (evE c ms a (x :: r)).bind fun p => chk (plainD (datS p.1) = true) (some (isiL (datS p.1) Ts, p.2)) := by simp only [evT]
theorem t_call {f : Nat} : evT c ms (.call f a) (x :: r) = (evS c ms a (x :: r)).bind fun q => (callS c f q).bind fun p => (blS p.1).bind fun b => some (b, p.2) := by simp only [evT]
theorem o_nil : evO c ms .nil (x :: r) = some (none, x :: r) := by simp only [evO]
theorem o_one : evO c ms (.one a) (x :: r) = (evE c ms a (x :: r)).bind fun p => (intS p.1).bind fun i => some (some i, p.2) := by simp only [evO]
theorem a_nil : evA c ms .nil (x :: r) = some ([], x :: r) := by simp only [evA]
theorem a_cons : evA c ms (.cons a b) (x :: r) = (evE c ms a (x :: r)).bind fun p => (toV p.1).bind fun d => (evA c ms b p.2).bind fun q => some (d :: q.1, q.2) := by simp only [evA]
theorem a_star : evA c ms (.star a b) (x :: r) = (evE c ms a (x :: r)).bind fun p => (itemsS p.1).bind fun ds => (evA c ms b p.2).bind fun q => some (ds ++ q.1, q.2) := by simp only [evA]
theorem s_nil : evS c ms .nil (x :: r) = some ([], x :: r) := by simp only [evS]
theorem s_own (h : ownB (x :: r) i = true) : evS c ms (.cons (.var i) b) (x :: r) = (evS c ms b (x :: r)).bind fun q => some (.var i :: q.1, q.2) := by simp only [evS, own_yes h]
theorem s_var (h : ownB (x :: r) i = false) : evS c ms (.cons (.var i) b) (x :: r) = (evE c ms (.var i) (x :: r)).bind fun p => (evS c ms b p.2).bind fun q => some (argOf p.1 :: q.1, q.2) := by rw [evS.eq_def]; simp only [own_not h]
theorem s_cons (h : isVar a = false) : evS c ms (.cons a b) (x :: r) = (evE c ms a (x :: r)).bind fun p => (evS c ms b p.2).bind fun q => some (argOf p.1 :: q.1, q.2) := by rw [evS.eq_def]; simp only [own_no h]
theorem w_range : evW c ms (.wrange a) (x :: r) = (evE c ms a (x :: r)).bind fun p => (intS p.1).bind fun h => chk (-4611686018427387904 ≤ h ∧ h < 4611686018427387904) (some (⟨h.toNat, fun t => .one (.val (.int (t : Int)))⟩, p.2)) := by
  have e1 : (2 : Int) ^ 62 = 4611686018427387904 := by decide
  simp only [evW, e1]
theorem w_zip : evW c ms (.wzip a b) (x :: r) = (evE c ms a (x :: r)).bind fun p => (evE c ms b p.2).bind fun q => (seqS p.1).bind fun x => (seqS q.1).bind fun y => some (⟨min x.2.length y.2.length, fun t => .two x.1 (x.2.getD t .non) y.1 (y.2.getD t .non)⟩, q.2) := by simp only [evW]
theorem w_enum : evW c ms (.wenum a) (x :: r) = (evE c ms a (x :: r)).bind fun p => (seqS p.1).bind fun x => some (⟨x.2.length, fun t => .two true (.int (t : Int)) x.1 (x.2.getD t .non)⟩, p.2) := by simp only [evW]
theorem w_one : evW c ms (.one a) (x :: r) = (evE c ms a (x :: r)).bind fun p => (wkS p.1).bind fun w => some (w, p.2) := by simp only [evW]
theorem m_own (h : ownB (x :: r) i = true) (hm : frB ms i = true) : evM c ms (.var i) (x :: r) = (getO (x :: r) i).bind fun ds => some (.own ds, (x :: r).set i none) := by
  unfold evM; simp only [own_yes h, chk_pos hm]
theorem m_var (h : ownB (x :: r) i = false) : evM c ms (.var i) (x :: r) = evE c ms (.var i) (x :: r) := by
  unfold evM; simp only [own_not h]
theorem m_any (h : isVar a = false) : evM c ms a (x :: r) = evE c ms a (x :: r) := by
  unfold evM; simp only [own_no h]
/-! statements -/
variable {s t s1 s2 : CS}
def seqO (f : DL.Env → Option Out) : Out → Option Out
  | .nx ρ' => f ρ'
  | .ct ρ' => some (.ct ρ')
  | .bk ρ' => some (.bk ρ')
  | .ret v ρ' => some (.ret v ρ')
theorem b_nil : evB c ms .nil (x :: r) = some (.nx (x :: r)) := by simp only [evB]
theorem b_seq : evB c ms (.seq s t) (x :: r) = (evB c ms s (x :: r)).bind (seqO (evB c ms t)) := by
  simp only [evB]; congr 1
theorem b_seq_any {ρ : DL.Env} : evB c ms (.seq s t) ρ = (evB c ms s ρ).bind (seqO (evB c ms t)) := by
  simp only [evB]; congr 1
theorem b_set {fx : Bool} : evB c ms (.set fx i e) (x :: r) = (evM c ms e (x :: r)).bind fun p => chk (frB ms i = true) (some (.nx (p.2.set i (some (if fx then fixS p.1 else p.1))))) := by simp only [evB]
theorem b_setIx : evB c ms (.setIx i b e) (x :: r) = (evE c ms e (x :: r)).bind fun p => (toV p.1).bind fun d => (evE c ms b p.2).bind fun q => chk (q.2 = p.2) ((intS q.1).bind fun jj => (getO p.2 i).bind fun ds => (ixN ds.length jj).bind fun k => some (.nx (p.2.set i (some (.own (ds.set k d)))))) := by simp only [evB]
theorem b_set2 : evB c ms (.set2 i j a b) (x :: r) = (evE c ms a (x :: r)).bind fun p => (evE c ms b p.2).bind fun q => chk (frB ms i = true ∧ frB ms j = true) (some (.nx ((q.2.set i (some (fixS p.1))).set j (some (fixS q.1))))) := by simp only [evB]
theorem b_expr : evB c ms (.expr e) (x :: r) = (evE c ms e (x :: r)).bind fun p => some (.nx p.2) := by simp only [evB]
theorem b_ret : evB c ms (.ret e) (x :: r) = (evM c ms e (x :: r)).bind fun p => some (.ret (nvS p.1) p.2) := by simp only [evB]
theorem b_retN : evB c ms .retN (x :: r) = some (.ret (.val .non) (x :: r)) := by simp only [evB]
theorem b_ife : evB c ms (.ife e s1 s2) (x :: r) = (evT c ms e (x :: r)).bind fun p => if p.1 then evB c ms s1 p.2 else evB c ms s2 p.2 := by simp only [evB]
noncomputable def forF (c : Cs) (ms : List Bool) (tg : Tgt) (it : Nat → Yld) (b : CS) (t : Nat) (ρ' : DL.Env) : Option Out := (bindY tg (it t)).bind fun g => evB c ms b (g ρ')
theorem b_for : evB c ms (.for tg w s) (x :: r) = (evW c ms w (x :: r)).bind fun p => chk (tg.ix.all (frB ms) = true) (forL (forF c ms tg p.1.it s) 0 p.1.m p.2) := by simp only [evB]; rfl
theorem b_pass : evB c ms .pass (x :: r) = some (.nx (x :: r)) := by simp only [evB]
theorem b_brk : evB c ms .brk (x :: r) = some (.bk (x :: r)) := by simp only [evB]
theorem b_cont : evB c ms .cont (x :: r) = some (.ct (x :: r)) := by simp only [evB]
end
end RL
/-! RL10: single equations for values. -/
namespace RL
open PySem L2 DL PyProof.Rows PySem.W
section
variable {k k1 k2 b b2 : Bool} {i j : Int} {s t : Str} {d d2 : D} {ds es : List D} {ρ r : DL.Env} {x : Option Slot} {n m : Nat} {f : DL.Env → Option Out} {ms : List Bool} {sl : Slot}
theorem qv_int : intS (.v k (.int i)) = some i := rfl
theorem qv_bl : blS (.v k (.bl b)) = some b := rfl
theorem qv_str : strS (.v k (.str s)) = some s := rfl
theorem qv_toT : toV (.v true d) = some d := by simp [toV]
theorem qv_toO : toV (.own ds) = some (.lst ds) := rfl
theorem qv_toI : toV (.v k (.int i)) = some (.int i) := by simp [toV, isSc]
theorem qv_toS : toV (.v k (.str s)) = some (.str s) := by simp [toV, isSc]
theorem qv_toB : toV (.v k (.bl b)) = some (.bl b) := by simp [toV, isSc]
theorem qv_toN : toV (.v k .non) = some .non := by simp [toV, isSc]
theorem qv_fixV : fixS (.v k d) = .v k d := rfl
theorem qv_fixO : fixS (.own ds) = .val (.lst ds) := rfl
theorem qv_datV : datS (.v k d) = d := rfl
theorem qv_datO : datS (.own ds) = .lst ds := rfl
theorem qv_add (a c : Slot) : binS .Add a c = addS (fixS a) (fixS c) := rfl
theorem qv_addI : addS (.v k1 (.int i)) (.v k2 (.int j)) = some (.val (.int (i + j))) := rfl
theorem qv_addS : addS (.v k1 (.str s)) (.v k2 (.str t)) = chk (s.length + t.length ≤ sizeLine) (some (.val (.str (s ++ t)))) := rfl
theorem qv_addL : addS (.v true (.lst ds)) (.v true (.lst es)) = chk (ds.length + es.length ≤ sizeLine) (some (.own (ds ++ es))) := rfl
theorem qv_sub : binS .Sub (.v k1 (.int i)) (.v k2 (.int j)) = some (.val (.int (i - j))) := rfl
theorem qv_mul : binS .Mult (.v k1 (.int i)) (.v k2 (.int j)) = chk (CMul i j) (some (.val (.int (i * j)))) := rfl
theorem qv_fdiv : binS .FloorDiv (.v k1 (.int i)) (.v k2 (.int j)) = chk (CDiv i j) (some (.val (.int (i / j)))) := rfl
theorem qv_mod : binS .Mod (.v k1 (.int i)) (.v k2 (.int j)) = chk (0 < j) (some (.val (.int (i % j)))) := rfl
theorem qv_pow : binS .Pow (.v k1 (.int i)) (.v k2 (.int j)) = chk (CPow i j) (some (.val (.int (i ^ j.toNat)))) := rfl
theorem qv_in (a c : Slot) : cmpS .In a c = inS (fixS a) (fixS c) := rfl
theorem qv_nin (a c : Slot) : cmpS .NotIn a c = (inS (fixS a) (fixS c)).map (!·) := rfl
theorem qv_is (a : Slot) : cmpS .Is a (.v k .non) = some (isNon (datS a)) := rfl
theorem qv_isnt (a : Slot) : cmpS .IsNot a (.v k .non) = some (!isNon (datS a)) := rfl
theorem qv_eq (a c : Slot) : cmpS .Eq a c = eqX (datS a) (datS c) := rfl
theorem qv_ne (a c : Slot) : cmpS .NotEq a c = (eqX (datS a) (datS c)).map (!·) := rfl
theorem qv_eqI : eqX (.int i) (.int j) = some (decide (i = j)) := rfl
theorem qv_eqS : eqX (.str s) (.str t) = some (decide (s = t)) := rfl
theorem qv_eqB : eqX (.bl b) (.bl b2) = some (decide (b = b2)) := rfl
theorem qv_lt : cmpS .Lt (.v k1 (.int i)) (.v k2 (.int j)) = some (decide (i < j)) := rfl
theorem qv_le : cmpS .LtE (.v k1 (.int i)) (.v k2 (.int j)) = some (decide (i ≤ j)) := rfl
theorem qv_gt : cmpS .Gt (.v k1 (.int i)) (.v k2 (.int j)) = some (decide (j < i)) := rfl
theorem qv_ge : cmpS .GtE (.v k1 (.int i)) (.v k2 (.int j)) = some (decide (j ≤ i)) := rfl
theorem qv_dle : cmpD .LtE (.int i) (.int j) = some (decide (i ≤ j)) := rfl
theorem qv_inS : inS (.v k1 (.str s)) (.v k2 (.str t)) = chk (s.cps.size = 1) (some (decide (s.cps.getD 0 0 ∈ t.cps.toList))) := rfl
theorem qv_inL (h : flatD d = true ∧ ds.all flatD = true) : inS (.v k1 d) (.v k2 (.lst ds)) = some (inD d ds) := by
  cases d <;> simp only [inS, chk_pos h]
theorem qv_inT (h : flatD d = true ∧ ds.all flatD = true) : inS (.v k1 d) (.v k2 (.tup ds)) = some (inD d ds) := by
  cases d <;> simp only [inS, chk_pos h]
theorem qv_ixL : idxS (.v k (.lst ds)) j = (atI ds j).map (.v k) := rfl
theorem qv_ixT : idxS (.v k (.tup ds)) j = (atI ds j).map (.v k) := rfl
theorem qv_ixS : idxS (.v k (.str s)) j = (atI s.cps.toList j).bind fun c => chk (s.length ≤ sizeLine) (some (.val (.str ⟨#[c]⟩))) := rfl
theorem qv_lenL : lenS (.v k (.lst ds)) = some ds.length := rfl
theorem qv_lenT : lenS (.v k (.tup ds)) = some ds.length := rfl
theorem qv_lenO : lenS (.own ds) = some ds.length := rfl
theorem qv_lenS : lenS (.v k (.str s)) = chk (s.length ≤ sizeLine) (some s.length) := rfl
theorem qv_itO : itemsS (.own ds) = some ds := rfl
theorem qv_itL : itemsS (.v true (.lst ds)) = some ds := by simp [itemsS, chk]
theorem qv_itT : itemsS (.v true (.tup ds)) = some ds := by simp [itemsS, chk]
theorem qv_itL' (h : ds.all isSc = true) : itemsS (.v k (.lst ds)) = some ds := by simp [itemsS, chk, h]
theorem qv_itT' (h : ds.all isSc = true) : itemsS (.v k (.tup ds)) = some ds := by simp [itemsS, chk, h]
theorem qv_sqO : seqS (.own ds) = some (true, ds) := rfl
theorem qv_sqL : seqS (.v k (.lst ds)) = some (k, ds) := rfl
theorem qv_sqT : seqS (.v k (.tup ds)) = some (k, ds) := rfl
theorem qv_lsO : lstS (.own ds) = some ds := rfl
theorem qv_lsV : lstS (.v k (.lst ds)) = some ds := rfl
theorem qv_lkO : lstK (.own ds) = some ds := rfl
theorem qv_lkT : lstK (.v true (.lst ds)) = some ds := by simp [lstK, chk]
theorem qv_lkS (h : ds.all isSc = true) : lstK (.v k (.lst ds)) = some ds := by simp [lstK, chk, h]
theorem qv_len (a : Slot) : fnS .len a = (lenS a).bind fun n => some (.val (.int (n : Nat))) := rfl
theorem qv_intf (a : Slot) : fnS .int a = (intS a).bind fun i => some (.val (.int i)) := rfl
theorem qv_strf (a : Slot) : fnS .str a = (intS a).bind fun i => chk (i.natAbs.log2 < 1920) (some (.val (.str (Str.ofString (toString i))))) := rfl
theorem qv_list (a : Slot) : fnS .list a = (itemsS a).bind fun ds => some (.own ds) := rfl
theorem qv_tupleT : fnS .tuple (.v k (.tup ds)) = some (.v k (.tup ds)) := rfl
theorem qv_tupleL : fnS .tuple (.v k (.lst ds)) = (lstK (.v k (.lst ds))).bind fun ds => some (.val (.tup ds)) := rfl
theorem qv_tupleO : fnS .tuple (.own ds) = some (.val (.tup ds)) := rfl
theorem qv_sum (a : Slot) : fnS .sum a = (seqS a).bind fun q => (intsOf q.2).bind fun ns => some (.val (.int ns.sum)) := rfl
theorem qv_all (a : Slot) : fnS .all a = (lstS a).bind fun ds => (blsOf ds).bind fun bs => some (.val (.bl (bs.all id))) := rfl
theorem qv_any (a : Slot) : fnS .any a = (lstS a).bind fun ds => (blsOf ds).bind fun bs => some (.val (.bl (bs.any id))) := rfl
theorem qv_sorted (a : Slot) : fnS .sorted a = (lstK a).bind fun ds => chk (ds.all dataD = true ∧ AllAlike (ds.map pyD) ∧ Sortable (ds.map pyD) ∧ ∀ d ∈ ds, (pyD d).depth ≤ 60) (some (.own (ds.mergeSort leD))) := rfl
theorem qv_lenSet (a : Slot) : fnS .lenSet a = (seqS a).bind fun q => (keysOf q.2).bind fun ks => chk (ks.length + 1 < scanBound) (some (.val (.int ((metK ks).length : Nat)))) := rfl
theorem qv_slS {l h : Option Int} : slS (.v k (.str s)) l h = chk (s.length ≤ sizeLine) (some (.val (.str (cutS s l h)))) := rfl
theorem qv_slL {l h : Option Int} : slS (.v k (.lst ds)) l h = (lstK (.v k (.lst ds))).bind fun ds => some (.own (cutD ds l h)) := rfl
theorem qv_slO {l h : Option Int} : slS (.own ds) l h = some (.own (cutD ds l h)) := rfl
theorem qv_wkO : wkS (.own ds) = some ⟨ds.length, fun t => .one (.v true (ds.getD t .non))⟩ := rfl
theorem qv_wkL : wkS (.v k (.lst ds)) = some ⟨ds.length, fun t => .one (.v k (ds.getD t .non))⟩ := rfl
theorem qv_wkT : wkS (.v k (.tup ds)) = some ⟨ds.length, fun t => .one (.v k (ds.getD t .non))⟩ := rfl
theorem qv_wkS : wkS (.v k (.str s)) = some ⟨s.cps.size, fun t => .one (.val (.str ⟨#[s.cps.getD t 0]⟩))⟩ := rfl
theorem qv_getO0 : getO (some (.own ds) :: r) 0 = some ds := rfl
theorem qv_getOS : getO (x :: r) (n + 1) = getO r n := rfl
theorem qv_varV : varE ms n ρ (some (.v k d)) = some (.v k d, ρ) := rfl
theorem qv_varO (h : frB ms n = true) : varE ms n ρ (some (.own ds)) = some (.val (.lst ds), ρ.set n (some (.val (.lst ds)))) := by
  show (if frB ms n = true then _ else none) = _
  rw [if_pos h]
theorem qv_nvT : nvS (.v true d) = .v true d := rfl
theorem qv_nvI : nvS (.v k (.int i)) = .v true (.int i) := by show Slot.v (k || true) _ = _; rw [Bool.or_true]
theorem qv_nvS : nvS (.v k (.str s)) = .v true (.str s) := by show Slot.v (k || true) _ = _; rw [Bool.or_true]
theorem qv_nvB : nvS (.v k (.bl b)) = .v true (.bl b) := by show Slot.v (k || true) _ = _; rw [Bool.or_true]
theorem qv_nvN : nvS (.v k .non) = .v true .non := by show Slot.v (k || true) _ = _; rw [Bool.or_true]
theorem qv_nvO : nvS (.own ds) = .own ds := rfl
theorem qv_argV : argOf (.v k d) = .ex k d := rfl
theorem qv_argO : argOf (.own ds) = .ex true (.lst ds) := rfl
theorem qv_nx : seqO f (.nx ρ) = f ρ := rfl
theorem qv_ct : seqO f (.ct ρ) = some (.ct ρ) := rfl
theorem qv_bk : seqO f (.bk ρ) = some (.bk ρ) := rfl
theorem qv_ret : seqO f (.ret sl ρ) = some (.ret sl ρ) := rfl
theorem qv_atp (h0 : 0 ≤ j) (h : j < (ds.length : Int)) : atI ds j = ds[j.toNat]? := by
  unfold atI ixN
  rw [if_pos h0, if_pos h]; rfl
theorem qv_ixp (h0 : 0 ≤ j) (h : j < (n : Int)) : ixN n j = some j.toNat := by
  unfold ixN
  rw [if_pos h0, if_pos h]
theorem qv_isi1 {T : String} : isiL d [T] = isiD d T := rfl
theorem qv_isi2 {T T2 : String} : isiL d [T, T2] = (isiD d T || isiD d T2) := rfl
/-! calls -/
theorem qv_call {c : Cs} {f : Nat} {as : List ArgS} : callS c f (as, ρ) = (argsTo ρ (c.M f) as).bind fun args => chk ((varsOf as).Nodup) ((c.C f args).bind fun w => some (w.1, backE ρ as w.2)) := rfl
theorem qv_aNil : argsTo ρ [] [] = some [] := rfl
theorem qv_aCons {a : ArgS} {mm : List Bool} {as : List ArgS} : argsTo ρ (b :: mm) (a :: as) = (argTo ρ b a).bind fun s => (argsTo ρ mm as).bind fun r => some (s :: r) := rfl
theorem qv_aEx : argTo ρ false (.ex k d) = some (.v (k || isSc d) d) := rfl
theorem qv_aOwn : argTo ρ true (.var n) = (getO ρ n).map .own := by
  simp only [argTo, getO]
  cases ρ[n]? with
  | none => rfl
  | some o =>
    cases o with
    | none => rfl
    | some s => cases s <;> rfl
theorem qv_aBor : argTo ρ false (.var n) = (getO ρ n).map fun ds => .v false (.lst ds) := by
  simp only [argTo, getO]
  cases ρ[n]? with
  | none => rfl
  | some o =>
    cases o with
    | none => rfl
    | some s => cases s <;> rfl
theorem qv_backV {as : List ArgS} {outs : List Slot} {o : Slot} : backE ρ (.ex k d :: as) (o :: outs) = backE ρ as outs := rfl
theorem qv_backO {as : List ArgS} {outs : List Slot} : backE ρ (.var n :: as) (.own ds :: outs) = backE (ρ.set n (some (.own ds))) as outs := rfl
theorem qv_backB {as : List ArgS} {outs : List Slot} : backE ρ (.var n :: as) (.v k d :: outs) = backE ρ as outs := rfl
theorem qv_backN : backE ρ [] [] = ρ := rfl
end
end RL
namespace RL
open PySem L2 DL
section
variable {ρ r : DL.Env} {ds : List D} {k : Bool} {d : D} {x : Option Slot} {n : Nat} {b : Bool} {bs : List Bool}
theorem ob_o : ownB (some (.own ds) :: r) 0 = true := id rfl
theorem ob_v : ownB (some (.v k d) :: r) 0 = false := id rfl
theorem ob_n : ownB (none :: r) 0 = false := id rfl
theorem ob_s : ownB (x :: r) (n + 1) = ownB r n := id rfl
theorem fr_nil : frB [] n = true := by simp [frB]
theorem fr_0 : frB (b :: bs) 0 = !b := by simp [frB]
theorem fr_s : frB (b :: bs) (n + 1) = frB bs n := by simp [frB]
theorem nt_t : (!true) = false := id rfl
theorem nt_f : (!false) = true := id rfl
variable {a c e w : CE} {op op2 : Operator} {co c2 : CmpOp} {f : Bf} {Ts : List String} {i : Nat} {tg tg1 : Tgt} {vs vs1 : List Nat}
theorem iv_cst : isVar (.cst d) = false := id rfl
theorem iv_bin : isVar (.bin op a c) = false := id rfl
theorem iv_neg : isVar (.neg a) = false := id rfl
theorem iv_no : isVar (.no a) = false := id rfl
theorem iv_one : isVar (.one a) = false := id rfl
theorem iv_conj : isVar (.conj a c) = false := id rfl
theorem iv_disj : isVar (.disj a c) = false := id rfl
theorem iv_cmp : isVar (.cmp co a c) = false := id rfl
theorem iv_ite : isVar (.ite w a c) = false := id rfl
theorem iv_idx : isVar (.idx a c) = false := id rfl
theorem iv_sl : isVar (.sl a c w) = false := id rfl
theorem iv_lst : isVar (.lst a) = false := id rfl
theorem iv_tup : isVar (.tup a) = false := id rfl
theorem iv_fn : isVar (.fn f a) = false := id rfl
theorem iv_isi : isVar (.isi a Ts) = false := id rfl
theorem iv_call : isVar (.call i a) = false := id rfl
theorem iv_app : isVar (.app i a) = false := id rfl
theorem iv_ext : isVar (.ext i a) = false := id rfl
theorem iv_pop : isVar (.pop i a) = false := id rfl
theorem iv_rev : isVar (.rev i) = false := id rfl
theorem iv_count : isVar (.count a c) = false := id rfl
theorem iv_join : isVar (.join a c) = false := id rfl
theorem iv_comp : isVar (.comp a c tg vs) = false := id rfl
theorem iv_compI : isVar (.compI a e c tg vs) = false := id rfl
theorem iv_comp2 : isVar (.comp2 a e c tg tg1 vs vs1) = false := id rfl
theorem iv_dk0 : isVar .dk0 = false := id rfl
theorem bf_int : Bf.int ≠ .len := by decide
theorem bf_str : Bf.str ≠ .len := by decide
theorem bf_list : Bf.list ≠ .len := by decide
theorem bf_tuple : Bf.tuple ≠ .len := by decide
theorem bf_sum : Bf.sum ≠ .len := by decide
theorem bf_all : Bf.all ≠ .len := by decide
theorem bf_any : Bf.any ≠ .len := by decide
theorem bf_sorted : Bf.sorted ≠ .len := by decide
theorem bf_lenSet : Bf.lenSet ≠ .len := by decide
theorem qv_atN {j : Nat} : atI ds (j : Int) = ds[j]? := by
  by_cases h : j < ds.length
  · rw [List.getElem?_eq_getElem h]
    exact atI_nat (List.getElem?_eq_getElem h)
  · rw [List.getElem?_eq_none (by omega)]
    unfold atI ixN
    rw [if_pos (by omega), if_neg (by omega)]; rfl
theorem qv_atL {j : Nat} : atI ds (no_index (@OfNat.ofNat Int j instOfNat)) = ds[(OfNat.ofNat j : Nat)]? := by
  have : (@OfNat.ofNat Int j instOfNat) = ((j : Nat) : Int) := rfl
  rw [this]; exact qv_atN
theorem qv_ixLit {j m : Nat} : ixN m (no_index (@OfNat.ofNat Int j instOfNat)) = if (OfNat.ofNat j : Nat) < m then some (OfNat.ofNat j) else none := by
  have : (@OfNat.ofNat Int j instOfNat) = ((j : Nat) : Int) := rfl
  rw [this]
  show _ = if j < m then some j else none
  unfold ixN
  rw [if_pos (by omega)]
  by_cases h : j < m
  · rw [if_pos h, if_pos (by omega)]; rfl
  · rw [if_neg h, if_neg (by omega)]
theorem cmul_lit {i : Int} {j : Nat} (h : (OfNat.ofNat j : Nat) < 18446744073709551616) : CMul i (no_index (@OfNat.ofNat Int j instOfNat)) := by
  have : (@OfNat.ofNat Int j instOfNat) = ((j : Nat) : Int) := rfl
  rw [this]
  have h : j < 18446744073709551616 := h
  exact .inr ⟨by omega, by omega⟩
theorem cdiv_lit {i : Int} {j : Nat} (h0 : 0 < (OfNat.ofNat j : Nat)) (h : (OfNat.ofNat j : Nat) < 1073741824) : CDiv i (no_index (@OfNat.ofNat Int j instOfNat)) := by
  have : (@OfNat.ofNat Int j instOfNat) = ((j : Nat) : Int) := rfl
  rw [this]
  have h : j < 1073741824 := h
  have h0 : 0 < j := h0
  exact ⟨by omega, by omega⟩
theorem cpow_lit {i j : Nat} (h0 : (OfNat.ofNat i : Nat) < 18446744073709551616) (h : (OfNat.ofNat j : Nat) < 1000000) : CPow (no_index (@OfNat.ofNat Int i instOfNat)) (no_index (@OfNat.ofNat Int j instOfNat)) := by
  have e : (@OfNat.ofNat Int j instOfNat) = ((j : Nat) : Int) := rfl
  have e2 : (@OfNat.ofNat Int i instOfNat) = ((i : Nat) : Int) := rfl
  rw [e, e2]
  have h : j < 1000000 := h
  have h0 : i < 18446744073709551616 := h0
  exact ⟨by omega, by omega, by simpa using h0⟩
theorem chk_true {α : Type} {x : Option α} : chk True x = x := chk_pos trivial
end
end RL
/-! RL11: comprehensions and loops over what stands there; calls of the table's defs. -/
namespace RL
open PySem L2 DL PyProof.Rows PySem.W
section
variable {ρ r r3 ρ3 : DL.Env} {ds : List D} {k k1 k2 : Bool} {d d1 d2 : D} {x y : Option Slot} {n i j : Nat} {b : Bool} {vs ix : List Nat} {sl : Slot}
theorem wp_nil : wipeE ρ [] = ρ := rfl
theorem wp_cons : wipeE ρ (i :: vs) = (wipeE ρ vs).set i none := rfl
theorem mk_nil : maskE [] = [] := rfl
theorem mk_o : maskE (some (.own ds) :: r) = true :: maskE r := rfl
theorem mk_v : maskE (some (.v k d) :: r) = false :: maskE r := rfl
theorem mk_n : maskE (none :: r) = false :: maskE r := rfl
theorem mg_nil : mergeE j [] [] vs = [] := rfl
theorem mg_cons : mergeE j (x :: r) (y :: r3) vs = mg1 (vs.contains j) x y :: mergeE (j + 1) r r3 vs := rfl
theorem mg_t : mg1 true x y = keepV x := rfl
theorem mg_f : mg1 false x y = backV x y := rfl
theorem kp_v : keepV (some (.v k d)) = some (.v k d) := rfl
theorem kp_n : keepV none = none := rfl
theorem kp_o : keepV (some (.own ds)) = none := rfl
theorem bk_o : backV x (some (.own ds)) = some (.own ds) := rfl
theorem bk_t : backV x (some (.v true d)) = some (.v true d) := rfl
theorem bk_f : backV x (some (.v false d)) = keepV x := rfl
theorem bk_n : backV x none = none := rfl
theorem bk_same : backV (some (.v k d)) (some (.v k d)) = some (.v k d) := by cases k <;> rfl
theorem by_nm : bindY (.nm i) (.one (.v k d)) = some fun ρ => ρ.set i (some (.v k d)) := rfl
theorem by_two : bindY (.tp [i, j]) (.two k1 d1 k2 d2) = some fun ρ => (ρ.set i (some (.v k1 d1))).set j (some (.v k2 d2)) := rfl
theorem by_tp (h : ix.length = ds.length) : bindY (.tp ix) (.one (.v k (.tup ds))) = some fun ρ => setE ρ ix k ds := by simp only [bindY, chk_pos h]
theorem no_nil : noOwn [] = [] := rfl
theorem no_o : noOwn (some (.own ds) :: r) = none :: noOwn r := rfl
theorem no_v : noOwn (some (.v k d) :: r) = some (.v k d) :: noOwn r := rfl
theorem no_n : noOwn (none :: r) = none :: noOwn r := rfl
theorem rb_v : resB (.v k d) = k := rfl
theorem rb_o : resB (.own ds) = true := rfl
theorem os_nil : outsS ρ n [] = some [] := rfl
theorem os_o {as : List Slot} : outsS ρ n (.own ds :: as) = (getO ρ n).bind fun es => (outsS ρ (n + 1) as).bind fun r => some (.own es :: r) := rfl
theorem os_v {as : List Slot} : outsS ρ n (.v k d :: as) = (outsS ρ (n + 1) as).bind fun r => some (.v k d :: r) := rfl
end
/-! ### comprehensions -/
section
variable {f : Nat → DL.Env → Option (Option D × DL.Env)} {ρ : DL.Env} {ds : List D}
theorem compL_ind (J : Nat → DL.Env → List D → Prop) : ∀ {m s : Nat} {ρ : DL.Env} {acc : List D}, J s ρ acc → (∀ t ρ acc, s ≤ t → t < s + m → J t ρ acc → ∃ o ρ', f t ρ = some (o, ρ') ∧ J (t + 1) ρ' (match o with | some x => acc ++ [x] | none => acc)) →
    ∃ acc' ρ', compL f s m ρ acc = some (acc', ρ') ∧ J (s + m) ρ' acc'
  | 0, s, ρ, acc, h0, _ => ⟨acc, ρ, rfl, h0⟩
  | m + 1, s, ρ, acc, h0, h => by
    obtain ⟨o, ρ1, h1, h2⟩ := h s ρ acc (Nat.le_refl _) (by omega) h0
    obtain ⟨acc', ρ', h3, h4⟩ := compL_ind J (m := m) (s := s + 1) h2 fun t ρ acc a b c => h t ρ acc (by omega) (by omega) c
    refine ⟨acc', ρ', ?_, by rw [show s + (m + 1) = s + 1 + m by omega]; exact h4⟩
    show ((f s ρ).bind fun q => compL f (s + 1) m q.2 (match q.1 with | some x => acc ++ [x] | none => acc)) = _
    rw [h1]; exact h3
theorem compL_map {m : Nat} (g : Nat → D) (h : ∀ t, t < m → f t ρ = some (some (g t), ρ)) : compL f 0 m ρ [] = some ((List.range m).map g, ρ) := by
  obtain ⟨acc, ρ', h1, h2, h3⟩ := compL_ind (f := f) (fun t ρ' acc => ρ' = ρ ∧ acc = (List.range t).map g) (m := m) (s := 0) (ρ := ρ) (acc := []) ⟨rfl, rfl⟩ fun t ρ' acc _ ht hj => by
    obtain ⟨rfl, rfl⟩ := hj
    refine ⟨_, _, h t (by omega), rfl, ?_⟩
    simp [List.range_succ]
  rw [h1, h2, h3, Nat.zero_add]
theorem compL_list (g : D → D) (h : ∀ t d, ds[t]? = some d → f t ρ = some (some (g d), ρ)) : compL f 0 ds.length ρ [] = some (ds.map g, ρ) := by
  rw [compL_map (fun t => g (ds.getD t .non)) fun t ht => ?_, range_getD ds .non g]
  have e : ds[t]? = some (ds.getD t .non) := by rw [List.getD_eq_getElem?_getD, List.getElem?_eq_getElem ht]; rfl
  exact h t _ e
theorem compL_filter (b : D → Bool) (g : D → D) (h : ∀ t d, ds[t]? = some d → f t ρ = some (if b d then some (g d) else none, ρ)) : compL f 0 ds.length ρ [] = some ((ds.filter b).map g, ρ) := by
  obtain ⟨acc, ρ', h1, h2, h3⟩ := compL_ind (f := f) (fun t ρ' acc => ρ' = ρ ∧ acc = ((ds.take t).filter b).map g) (m := ds.length) (s := 0) (ρ := ρ) (acc := []) ⟨rfl, by simp⟩ fun t ρ' acc _ ht hj => by
    obtain ⟨rfl, rfl⟩ := hj
    have ht : t < ds.length := by omega
    have e : ds[t]? = some ds[t] := List.getElem?_eq_getElem ht
    refine ⟨_, _, h t _ e, rfl, ?_⟩
    rw [List.take_add_one, e, List.filter_append, List.map_append]
    cases hb : b ds[t] with
    | true => simp [hb]
    | false => simp [hb]
  rw [h1, h2, h3, Nat.zero_add, List.take_of_length_le (Nat.le_refl _)]
end
/-! ### loops -/
theorem forL_ind {f : Nat → DL.Env → Option Out} (J : Nat → DL.Env → Prop) : ∀ {m s : Nat} {ρ : DL.Env}, J s ρ → (∀ t ρ, s ≤ t → t < s + m → J t ρ → ∃ ρ', f t ρ = some (.nx ρ') ∧ J (t + 1) ρ') → ∃ ρ', forL f s m ρ = some (.nx ρ') ∧ J (s + m) ρ'
  | 0, s, ρ, h0, _ => ⟨ρ, rfl, h0⟩
  | m + 1, s, ρ, h0, h => by
    obtain ⟨ρ1, h1, h2⟩ := h s ρ (Nat.le_refl _) (by omega) h0
    obtain ⟨ρ', h3, h4⟩ := forL_ind J (m := m) (s := s + 1) h2 fun t ρ a b c => h t ρ (by omega) (by omega) c
    refine ⟨ρ', ?_, by rw [show s + (m + 1) = s + 1 + m by omega]; exact h4⟩
    show ((f s ρ).bind _) = _
    rw [h1]; exact h3
/-- a loop that may return -/
theorem forL_ret {f : Nat → DL.Env → Option Out} (J : Nat → DL.Env → Prop) (R : Slot → DL.Env → Prop) : ∀ {m s : Nat} {ρ : DL.Env}, J s ρ → (∀ t ρ, s ≤ t → t < s + m → J t ρ → (∃ ρ', f t ρ = some (.nx ρ') ∧ J (t + 1) ρ') ∨ ∃ v ρ', f t ρ = some (.ret v ρ') ∧ R v ρ') →
    (∃ ρ', forL f s m ρ = some (.nx ρ') ∧ J (s + m) ρ') ∨ ∃ v ρ', forL f s m ρ = some (.ret v ρ') ∧ R v ρ'
  | 0, s, ρ, h0, _ => .inl ⟨ρ, rfl, h0⟩
  | m + 1, s, ρ, h0, h => by
    rcases h s ρ (Nat.le_refl _) (by omega) h0 with ⟨ρ1, h1, h2⟩ | ⟨v, ρ1, h1, h2⟩
    · rcases forL_ret J R (m := m) (s := s + 1) h2 fun t ρ a b c => h t ρ (by omega) (by omega) c with ⟨ρ', h3, h4⟩ | ⟨v, ρ', h3, h4⟩
      · refine .inl ⟨ρ', ?_, by rw [show s + (m + 1) = s + 1 + m by omega]; exact h4⟩
        show ((f s ρ).bind _) = _
        rw [h1]; exact h3
      · refine .inr ⟨v, ρ', ?_, h4⟩
        show ((f s ρ).bind _) = _
        rw [h1]; exact h3
    · refine .inr ⟨v, ρ1, ?_, h2⟩
      show ((f s ρ).bind _) = _
      rw [h1]; rfl
/-! ### the table's defs -/
noncomputable def finS (args : List Slot) : Out → Option (Slot × List Slot)
  | .ret r ρ' => chk (resB r = true) ((outsS ρ' 0 args).bind fun outs => some (r, outs))
  | .nx ρ' => (outsS ρ' 0 args).bind fun outs => some (.val .non, outs)
  | _ => none
theorem call_eq {T : List De} {f n : Nat} {d : De} {args : List Slot} (h : T[f]? = some d) (hl : args.length = d.ps.length) (hs : d.sp = none := by rfl) : (csT T (n + 1)).C f args = (evB (csT T n) (args.map isOwn) d.cs (startE d.N args)).bind (finS args) := by
  show ((T[f]?).bind fun d => stepD T n (callP T n).1 (callP T n).2 d args) = _
  rw [h]
  show stepD T n (callP T n).1 (callP T n).2 d args = _
  rw [step_none hs]
  show runD ⟨callT T n, modes T⟩ d args = _
  unfold runD
  rw [chk_pos hl]
  show (evB (csT T n) (args.map isOwn) d.cs (startE d.N args)).bind _ = _
  congr 1
theorem call_hook {T : List De} {f n : Nat} {d : De} {args : List Slot} {hk : Cs → Cs → List Slot → Option (Slot × List Slot)} (h : T[f]? = some d) (hs : d.sp = some hk) : (csT T (n + 4)).C f args = hk (csT T (n + 3)) (csT T (n + 2)) args := by
  show ((T[f]?).bind fun d => stepD T (n + 3) (callP T (n + 3)).1 (callP T (n + 3)).2 d args) = _
  rw [h]
  show stepD T (n + 3) (callP T (n + 3)).1 (callP T (n + 3)).2 d args = _
  rw [step_hook hs]; rfl
theorem fin_ret {args : List Slot} {r : Slot} {ρ : DL.Env} : finS args (.ret r ρ) = chk (resB r = true) ((outsS ρ 0 args).bind fun outs => some (r, outs)) := rfl
theorem fin_nx {args : List Slot} {ρ : DL.Env} : finS args (.nx ρ) = (outsS ρ 0 args).bind fun outs => some (.val .non, outs) := rfl
theorem cs_M {T : List De} {f n : Nat} {d : De} (h : T[f]? = some d) : (csT T n).M f = d.own := by
  show ((T[f]?).map (·.own)).getD [] = _
  rw [h]; rfl
end RL
namespace RL
open PySem L2 DL
section
variable {k1 k2 : Bool} {i : Int} {j m : Nat}
theorem qv_mulL : binS .Mult (.v k1 (.int i)) (.v k2 (.int (no_index (@OfNat.ofNat Int j instOfNat)))) = if (OfNat.ofNat j : Nat) < 18446744073709551616 then some (.val (.int (i * @OfNat.ofNat Int j instOfNat))) else chk (CMul i (@OfNat.ofNat Int j instOfNat)) (some (.val (.int (i * @OfNat.ofNat Int j instOfNat)))) := by
  split
  · rename_i h; rw [qv_mul, chk_pos (cmul_lit h)]
  · rfl
theorem qv_fdivL : binS .FloorDiv (.v k1 (.int i)) (.v k2 (.int (no_index (@OfNat.ofNat Int j instOfNat)))) = if 0 < (OfNat.ofNat j : Nat) ∧ (OfNat.ofNat j : Nat) < 1073741824 then some (.val (.int (i / @OfNat.ofNat Int j instOfNat))) else chk (CDiv i (@OfNat.ofNat Int j instOfNat)) (some (.val (.int (i / @OfNat.ofNat Int j instOfNat)))) := by
  split
  · rename_i h; rw [qv_fdiv, chk_pos (cdiv_lit h.1 h.2)]
  · rfl
theorem qv_modL : binS .Mod (.v k1 (.int i)) (.v k2 (.int (no_index (@OfNat.ofNat Int j instOfNat)))) = if 0 < (OfNat.ofNat j : Nat) then some (.val (.int (i % @OfNat.ofNat Int j instOfNat))) else chk (0 < (@OfNat.ofNat Int j instOfNat)) (some (.val (.int (i % @OfNat.ofNat Int j instOfNat)))) := by
  split
  · rename_i h0
    rw [qv_mod, chk_pos]
    have : (@OfNat.ofNat Int j instOfNat) = ((j : Nat) : Int) := rfl
    rw [this]
    have h0 : 0 < j := h0
    omega
  · rfl
theorem qv_powL : binS .Pow (.v k1 (.int (no_index (@OfNat.ofNat Int m instOfNat)))) (.v k2 (.int (no_index (@OfNat.ofNat Int j instOfNat)))) = if (OfNat.ofNat m : Nat) < 18446744073709551616 ∧ (OfNat.ofNat j : Nat) < 1000000 then some (.val (.int ((@OfNat.ofNat Int m instOfNat) ^ (OfNat.ofNat j : Nat)))) else chk (CPow (@OfNat.ofNat Int m instOfNat) (@OfNat.ofNat Int j instOfNat)) (some (.val (.int ((@OfNat.ofNat Int m instOfNat) ^ (@OfNat.ofNat Int j instOfNat : Int).toNat)))) := by
  split
  · rename_i h; rw [qv_pow, chk_pos (cpow_lit h.1 h.2)]; rfl
  · rfl
theorem qv_mulC {i j : Int} (h : CMul i j) : binS .Mult (.v k1 (.int i)) (.v k2 (.int j)) = some (.val (.int (i * j))) := by rw [qv_mul, chk_pos h]
theorem qv_fdivC {i j : Int} (h : CDiv i j) : binS .FloorDiv (.v k1 (.int i)) (.v k2 (.int j)) = some (.val (.int (i / j))) := by rw [qv_fdiv, chk_pos h]
theorem qv_modC {i j : Int} (h : 0 < j) : binS .Mod (.v k1 (.int i)) (.v k2 (.int j)) = some (.val (.int (i % j))) := by rw [qv_mod, chk_pos h]
theorem qv_powC {i j : Int} (h : CPow i j) : binS .Pow (.v k1 (.int i)) (.v k2 (.int j)) = some (.val (.int (i ^ j.toNat))) := by rw [qv_pow, chk_pos h]
end
end RL
namespace RL
open PySem L2 DL PyProof.Rows PySem.W
section
variable {c : Cs} {ms : List Bool} {x : Option Slot} {r : DL.Env} {e w w1 : CE} {tg tg1 : Tgt} {vs vs1 : List Nat}
noncomputable def pairF (c : Cs) (e w1 : CE) (tg tg1 : Tgt) (vs vs1 : List Nat) (ρ : DL.Env) (it : Nat → Yld) (t : Nat) : Option (List D) :=
  (bindY tg (it t)).bind fun g => (evWF c w1 (noOwn (g (wipeE ρ vs)))).bind fun q =>
      pairL (fun j => (bindY tg1 (q.it j)).bind fun g1 => (evE c [] e (g1 (wipeE (noOwn (g (wipeE ρ vs))) vs1))).bind fun u => chk (u.2 = g1 (wipeE (noOwn (g (wipeE ρ vs))) vs1)) ((toV u.1).bind fun d => some [d])) q.m
theorem e_comp2 : evE c ms (.comp2 e w w1 tg tg1 vs vs1) (x :: r) = (evW c ms w (x :: r)).bind fun p => chk (vs.all (frB ms) = true ∧ vs1.all (fun i => decide (i ∈ vs)) = true) ((pairL (pairF c e w1 tg tg1 vs vs1 p.2 p.1.it) p.1.m).bind fun acc => chk (acc.length ≤ sizeLine) (some (.own acc, p.2))) := by simp only [evE]; rfl
theorem f_range {a : CE} : evWF c (.wrange a) (x :: r) = (evE c [] a (x :: r)).bind fun p => chk (p.2 = (x :: r)) ((intS p.1).bind fun h => chk (-4611686018427387904 ≤ h ∧ h < 4611686018427387904) (some ⟨h.toNat, fun t => .one (.val (.int (t : Int)))⟩)) := by
  have e1 : (2 : Int) ^ 62 = 4611686018427387904 := by decide
  simp only [evWF, e1]
theorem pairL_map {f : Nat → Option (List D)} {g : Nat → List D} : ∀ {m : Nat}, (∀ t, t < m → f t = some (g t)) → pairL f m = some ((List.range m).flatMap g)
  | 0, _ => rfl
  | m + 1, h => by
    show ((pairL f m).bind fun l => (f m).bind fun k => some (l ++ k)) = _
    rw [pairL_map fun t ht => h t (by omega), h m (by omega), List.range_succ, List.flatMap_append]
    simp
theorem pairL_list {f : Nat → Option (List D)} {g : D → List D} {ds : List D} (h : ∀ t d, ds[t]? = some d → f t = some (g d)) : pairL f ds.length = some (ds.flatMap g) := by
  rw [pairL_map (g := fun t => g (ds.getD t .non)) fun t ht => ?_]
  · congr 1
    rw [List.flatMap_def, range_getD ds .non g, List.flatMap_def]
  · have e : ds[t]? = some (ds.getD t .non) := by rw [List.getD_eq_getElem?_getD, List.getElem?_eq_getElem ht]; rfl
    exact h t _ e
end
end RL
namespace RL
open PySem L2 DL PyProof.Rows PySem.W
/-- a place that holds a value or nothing -/
def sv (a : Option (Bool × D)) : Option Slot := a.map fun p => .v p.1 p.2
theorem mk_sv {a : Option (Bool × D)} {r : DL.Env} : maskE (sv a :: r) = false :: maskE r := by cases a <;> rfl
theorem kp_sv {a : Option (Bool × D)} : keepV (sv a) = sv a := by cases a <;> rfl
theorem bk_sv {a : Option (Bool × D)} : backV (sv a) (sv a) = sv a := by
  cases a with
  | none => rfl
  | some p => obtain ⟨k, d⟩ := p; cases k <;> rfl
theorem no_sv {a : Option (Bool × D)} {r : DL.Env} : noOwn (sv a :: r) = sv a :: noOwn r := by cases a <;> rfl
theorem x_ext {ρ : DL.Env} {i : Nat} {ds es : List D} (h : ds.length + es.length ≤ sizeLine) : extS ρ i ds (.lst es) = some (.val .non, ρ.set i (some (.own (ds ++ es)))) := chk_pos h
end RL
/-! RL12: isinstance of data, by kinds. -/
namespace RL
open PySem L2 DL
theorem is_non_list  : isiD .non "list" = false := id (by rfl)
theorem is_non_tuple  : isiD .non "tuple" = false := id (by rfl)
theorem is_non_bool  : isiD .non "bool" = false := id (by rfl)
theorem is_non_str  : isiD .non "str" = false := id (by rfl)
theorem is_non_int  : isiD .non "int" = false := id (by rfl)
theorem is_non_dict  : isiD .non "dict" = false := id (by rfl)
theorem pl_non  : plainD .non = true := id (by rfl)
theorem isn_non  : DL.isNon .non = true := id (by rfl)
theorem is_bl_list {b : Bool} : isiD (.bl b) "list" = false := id (by rfl)
theorem is_bl_tuple {b : Bool} : isiD (.bl b) "tuple" = false := id (by rfl)
theorem is_bl_bool {b : Bool} : isiD (.bl b) "bool" = true := id (by rfl)
theorem is_bl_str {b : Bool} : isiD (.bl b) "str" = false := id (by rfl)
theorem is_bl_int {b : Bool} : isiD (.bl b) "int" = true := id (by rfl)
theorem is_bl_dict {b : Bool} : isiD (.bl b) "dict" = false := id (by rfl)
theorem pl_bl {b : Bool} : plainD (.bl b) = true := id (by rfl)
theorem isn_bl {b : Bool} : DL.isNon (.bl b) = false := id (by rfl)
theorem is_int_list {i : Int} : isiD (.int i) "list" = false := id (by rfl)
theorem is_int_tuple {i : Int} : isiD (.int i) "tuple" = false := id (by rfl)
theorem is_int_bool {i : Int} : isiD (.int i) "bool" = false := id (by rfl)
theorem is_int_str {i : Int} : isiD (.int i) "str" = false := id (by rfl)
theorem is_int_int {i : Int} : isiD (.int i) "int" = true := id (by rfl)
theorem is_int_dict {i : Int} : isiD (.int i) "dict" = false := id (by rfl)
theorem pl_int {i : Int} : plainD (.int i) = true := id (by rfl)
theorem isn_int {i : Int} : DL.isNon (.int i) = false := id (by rfl)
theorem is_str_list {s : Str} : isiD (.str s) "list" = false := id (by rfl)
theorem is_str_tuple {s : Str} : isiD (.str s) "tuple" = false := id (by rfl)
theorem is_str_bool {s : Str} : isiD (.str s) "bool" = false := id (by rfl)
theorem is_str_str {s : Str} : isiD (.str s) "str" = true := id (by rfl)
theorem is_str_int {s : Str} : isiD (.str s) "int" = false := id (by rfl)
theorem is_str_dict {s : Str} : isiD (.str s) "dict" = false := id (by rfl)
theorem pl_str {s : Str} : plainD (.str s) = true := id (by rfl)
theorem isn_str {s : Str} : DL.isNon (.str s) = false := id (by rfl)
theorem is_lst_list {ds : List D} : isiD (.lst ds) "list" = true := id (by rfl)
theorem is_lst_tuple {ds : List D} : isiD (.lst ds) "tuple" = false := id (by rfl)
theorem is_lst_bool {ds : List D} : isiD (.lst ds) "bool" = false := id (by rfl)
theorem is_lst_str {ds : List D} : isiD (.lst ds) "str" = false := id (by rfl)
theorem is_lst_int {ds : List D} : isiD (.lst ds) "int" = false := id (by rfl)
theorem is_lst_dict {ds : List D} : isiD (.lst ds) "dict" = false := id (by rfl)
theorem pl_lst {ds : List D} : plainD (.lst ds) = true := id (by rfl)
theorem isn_lst {ds : List D} : DL.isNon (.lst ds) = false := id (by rfl)
theorem is_tup_list {ds : List D} : isiD (.tup ds) "list" = false := id (by rfl)
theorem is_tup_tuple {ds : List D} : isiD (.tup ds) "tuple" = true := id (by rfl)
theorem is_tup_bool {ds : List D} : isiD (.tup ds) "bool" = false := id (by rfl)
theorem is_tup_str {ds : List D} : isiD (.tup ds) "str" = false := id (by rfl)
theorem is_tup_int {ds : List D} : isiD (.tup ds) "int" = false := id (by rfl)
theorem is_tup_dict {ds : List D} : isiD (.tup ds) "dict" = false := id (by rfl)
theorem pl_tup {ds : List D} : plainD (.tup ds) = true := id (by rfl)
theorem isn_tup {ds : List D} : DL.isNon (.tup ds) = false := id (by rfl)
theorem is_dk_list {ks : List Key} {ds : List D} : isiD (.dk ks ds) "list" = false := id (by rfl)
theorem is_dk_tuple {ks : List Key} {ds : List D} : isiD (.dk ks ds) "tuple" = false := id (by rfl)
theorem is_dk_bool {ks : List Key} {ds : List D} : isiD (.dk ks ds) "bool" = false := id (by rfl)
theorem is_dk_str {ks : List Key} {ds : List D} : isiD (.dk ks ds) "str" = false := id (by rfl)
theorem is_dk_int {ks : List Key} {ds : List D} : isiD (.dk ks ds) "int" = false := id (by rfl)
theorem is_dk_dict {ks : List Key} {ds : List D} : isiD (.dk ks ds) "dict" = true := id (by rfl)
theorem pl_dk {ks : List Key} {ds : List D} : plainD (.dk ks ds) = true := id (by rfl)
theorem isn_dk {ks : List Key} {ds : List D} : DL.isNon (.dk ks ds) = false := id (by rfl)
theorem sc_non : isSc .non = true := id rfl
theorem sc_bl {b : Bool} : isSc (.bl b) = true := id rfl
theorem sc_int {i : Int} : isSc (.int i) = true := id rfl
theorem sc_str {i : Str} : isSc (.str i) = true := id rfl
theorem sc_lst {ds : List D} : isSc (.lst ds) = false := id rfl
theorem sc_tup {ds : List D} : isSc (.tup ds) = false := id rfl
theorem sc_dk {ks : List Key} {ds : List D} : isSc (.dk ks ds) = false := id rfl
end RL
/-! K2: the law's defs and the program's, as forms (printed by compS), and their table. -/
namespace K09
open PySem L2 DL RL PyProof.Rows
def top (i : Nat) : Stmt := PySem.Challenge.pw_nearseats_k09_whole_ways_in_order.main.body.getD i (.Pass ⟨0, 0, 0, 0⟩)
def cls0 (x : Str) : Option Nat := if x = "InvalidWishes" then some 0 else if x = "InvalidClause" then some 1 else none
def cs_is_name_e0 : CE := (.disj (.cmp .In (.var 1) (.cst (.str "ABCDEFGHIJKLMNOPQRSTUVWXYZabcdefghijklmnopqrstuvwxyz"))) (.one (.cmp .In (.var 1) (.cst (.str "0123456789")))))
def cs_is_name : CS := (.seq (.ife (.disj (.no (.isi (.var 0) ["str"])) (.one (.no (.chain .LtE .LtE (.cst (.int (1))) (.fn .len (.var 0)) (.cst (.int (12))))))) (.seq (.ret (.cst (.bl false))) .nil) .nil) (.seq (.ret (.conj (.cmp .In (.idx (.var 0) (.cst (.int (0)))) (.cst (.str "ABCDEFGHIJKLMNOPQRSTUVWXYZabcdefghijklmnopqrstuvwxyz"))) (.one (.fn .all (.comp cs_is_name_e0 (.one (.var 0)) (.nm 1) [1]))))) .nil))
def cs_is_listing : CS := (.seq (.ret (.isi (.var 0) ["list", "tuple"])) .nil)
def cs_has_double : CS := (.seq (.ret (.cmp .Lt (.fn .lenSet (.var 0)) (.fn .len (.var 0)))) .nil)
def cs_ways_e0 : CE := (.tup (.cons (.fn .sum (.var 3)) (.cons (.var 3) .nil)))
def cs_ways_e1 : CE := (.call 6 (.cons (.var 0) (.cons (.var 3) .nil)))
def cs_ways_e2 : CE := (.var 6)
def cs_ways_t0 : CE := (.cmp .Lt (.count (.var 6) (.cst (.str "-"))) (.fn .len (.var 6)))
def cs_ways : CS := (.seq (.set true 1 (.call 4 (.cons (.var 0) .nil))) (.seq (.ife (.cmp .IsNot (.var 1) (.cst .non)) (.seq (.raise 0 (.cons (.var 1) .nil)) .nil) .nil) (.seq (.set true 2 (.fn .sorted (.comp cs_ways_e0 (.one (.call 5 (.cons (.var 0) .nil))) (.nm 3) [3]))) (.seq (.set true 4 (.comp cs_ways_e1 (.one (.var 2)) (.tp [5, 3]) [5, 3])) (.seq (.ret (.compI cs_ways_e2 cs_ways_t0 (.one (.var 4)) (.nm 6) [6])) .nil)))))
def cs_wishes_fault_e0 : CE := (.call 0 (.cons (.var 3) .nil))
def cs_wishes_fault_f0 : CS := (.seq (.ife (.disj (.no (.call 1 (.cons (.var 2) .nil))) (.disj (.no (.fn .all (.comp cs_wishes_fault_e0 (.one (.var 2)) (.nm 3) [3]))) (.one (.call 2 (.cons (.var 2) .nil))))) (.seq (.ret (.var 1)) .nil) .nil) .nil)
def cs_wishes_fault : CS := (.seq (.ife (.disj (.no (.call 1 (.cons (.var 0) .nil))) (.one (.cmp .Eq (.fn .len (.var 0)) (.cst (.int (0)))))) (.seq (.ret (.neg (.cst (.int (1))))) .nil) .nil) (.seq (.for (.tp [1, 2]) (.wenum (.var 0)) cs_wishes_fault_f0) (.seq (.ret (.cst .non)) .nil)))
def cs__all_places_e0 : CE := (.tup (.star (.var 3) (.cons (.var 4) .nil)))
def cs__all_places_f0 : CS := (.seq (.set true 1 (.comp2 cs__all_places_e0 (.one (.var 1)) (.wrange (.bin .Add (.fn .len (.var 2)) (.cst (.int (1))))) (.nm 3) (.nm 4) [3, 4] [4])) .nil)
def cs__all_places : CS := (.seq (.set true 1 (.lst (.cons (.tup .nil) .nil))) (.seq (.for (.nm 2) (.one (.var 0)) cs__all_places_f0) (.seq (.ret (.var 1)) .nil)))
def cs__way_at_e0 : CE := (.ite (.cmp .Lt (.var 3) (.fn .len (.var 2))) (.idx (.var 2) (.var 3)) (.cst (.str "-")))
def cs__way_at : CS := (.seq (.ret (.fn .tuple (.comp cs__way_at_e0 (.wzip (.var 0) (.var 1)) (.tp [2, 3]) [2, 3]))) .nil)
def cs__law_bag_f0 : CS := (.seq (.set true 1 (.bin .Mod (.fn .int (.bin .Add (.bin .Add (.bin .Mult (.var 1) (.cst (.int (48271)))) (.bin .Mod (.fn .int (.var 2)) (.cst (.int (2147483587))))) (.cst (.int (311))))) (.cst (.int (2147483629))))) .nil)
def cs__law_bag : CS := (.seq (.set true 1 (.bin .Add (.cst (.int (1397600))) (.cst (.int (9))))) (.seq (.for (.nm 2) (.one (.sl (.var 0) .nil (.one (.cst (.int (63)))))) cs__law_bag_f0) (.seq (.ret (.lst (.cons (.fn .list (.sl (.var 0) .nil (.one (.cst (.int (63)))))) (.cons (.cst (.int (0))) (.cons (.cst (.int (0))) (.cons (.var 1) (.cons (.cst (.int (0))) .nil))))))) .nil)))
def cs__law_draw : CS := (.seq (.setIx 0 (.cst (.int (4))) (.bin .Add (.idx (.var 0) (.cst (.int (4)))) (.cst (.int (1))))) (.seq (.ife (.conj (.cmp .Eq (.idx (.var 0) (.cst (.int (2)))) (.cst (.int (0)))) (.one (.cmp .Lt (.idx (.var 0) (.cst (.int (1)))) (.fn .len (.idx (.var 0) (.cst (.int (0)))))))) (.seq (.set true 2 (.idx (.idx (.var 0) (.cst (.int (0)))) (.idx (.var 0) (.cst (.int (1)))))) (.seq (.setIx 0 (.cst (.int (1))) (.bin .Add (.idx (.var 0) (.cst (.int (1)))) (.cst (.int (1))))) (.seq (.ife (.cmp .GtE (.var 2) (.bin .Pow (.cst (.int (10))) (.cst (.int (18))))) (.seq (.setIx 0 (.cst (.int (2))) (.var 2)) .nil) (.seq (.setIx 0 (.cst (.int (3))) (.bin .Mod (.fn .int (.bin .Add (.bin .Add (.bin .Mult (.idx (.var 0) (.cst (.int (3)))) (.cst (.int (69621)))) (.bin .Mult (.bin .Mod (.fn .int (.var 2)) (.cst (.int (2147483549)))) (.cst (.int (30103))))) (.cst (.int (97))))) (.cst (.int (2147483629))))) .nil)) .nil))) .nil) (.seq (.ife (.cmp .Gt (.idx (.var 0) (.cst (.int (2)))) (.cst (.int (0)))) (.seq (.set true 3 (.bin .Mod (.fn .int (.idx (.var 0) (.cst (.int (2))))) (.var 1))) (.seq (.setIx 0 (.cst (.int (2))) (.bin .FloorDiv (.idx (.var 0) (.cst (.int (2)))) (.var 1))) (.seq (.ret (.var 3)) .nil))) .nil) (.seq (.setIx 0 (.cst (.int (3))) (.bin .Mod (.fn .int (.bin .Add (.bin .Add (.bin .Pow (.idx (.var 0) (.cst (.int (3)))) (.cst (.int (3)))) (.bin .Mult (.idx (.var 0) (.cst (.int (4)))) (.cst (.int (1299709))))) (.cst (.int (60013))))) (.cst (.int (2147483629))))) (.seq (.ret (.bin .Mod (.fn .int (.bin .Add (.bin .FloorDiv (.idx (.var 0) (.cst (.int (3)))) (.cst (.int (97)))) (.bin .Mult (.bin .Mod (.fn .int (.idx (.var 0) (.cst (.int (3))))) (.cst (.int (7901)))) (.cst (.int (67)))))) (.var 1))) .nil)))))
def cs__law_of : CS := (.seq (.ret (.idx (.var 1) (.call 8 (.cons (.var 0) (.cons (.fn .len (.var 1)) .nil))))) .nil)
def cs__law_like_e0 : CE := (.call 10 (.cons (.var 2) (.cons (.var 3) .nil)))
def cs__law_like : CS := (.seq (.ife (.isi (.var 1) ["list", "tuple"]) (.seq (.ife (.disj (.cmp .NotEq (.isi (.var 0) ["list"]) (.isi (.var 1) ["list"])) (.one (.cmp .NotEq (.isi (.var 0) ["tuple"]) (.isi (.var 1) ["tuple"])))) (.seq (.ret (.cst (.bl false))) .nil) .nil) (.seq (.ret (.conj (.cmp .Eq (.fn .len (.var 0)) (.fn .len (.var 1))) (.one (.fn .all (.comp cs__law_like_e0 (.wzip (.var 0) (.var 1)) (.tp [2, 3]) [2, 3]))))) .nil)) .nil) (.seq (.ife (.disj (.cmp .Is (.var 1) (.cst .non)) (.one (.cmp .Is (.var 0) (.cst .non)))) (.seq (.ret (.conj (.cmp .Is (.var 1) (.cst .non)) (.one (.cmp .Is (.var 0) (.cst .non))))) .nil) .nil) (.seq (.ife (.disj (.isi (.var 0) ["list", "tuple"]) (.one (.cmp .NotEq (.isi (.var 0) ["bool"]) (.isi (.var 1) ["bool"])))) (.seq (.ret (.cst (.bl false))) .nil) .nil) (.seq (.ife (.disj (.cmp .NotEq (.isi (.var 0) ["str"]) (.isi (.var 1) ["str"])) (.one (.cmp .NotEq (.isi (.var 0) ["int"]) (.isi (.var 1) ["int"])))) (.seq (.ret (.cst (.bl false))) .nil) .nil) (.seq (.ret (.conj (.cmp .Eq (.isi (.var 0) ["dict"]) (.isi (.var 1) ["dict"])) (.one (.cmp .Eq (.var 0) (.var 1))))) .nil)))))
def cs__law_name_form_e0 : CE := (.cmp .In (.var 1) (.cst (.str "ABCDEFGHIJKLMNOPQRSTUVWXYZabcdefghijklmnopqrstuvwxyz0123456789")))
def cs__law_name_form : CS := (.seq (.ife (.disj (.no (.isi (.var 0) ["str"])) (.disj (.cmp .Eq (.var 0) (.cst (.str ""))) (.one (.cmp .Gt (.fn .len (.var 0)) (.cst (.int (12))))))) (.seq (.ret (.cst (.bl false))) .nil) .nil) (.seq (.ife (.cmp .NotIn (.idx (.var 0) (.cst (.int (0)))) (.cst (.str "ABCDEFGHIJKLMNOPQRSTUVWXYZabcdefghijklmnopqrstuvwxyz"))) (.seq (.ret (.cst (.bl false))) .nil) .nil) (.seq (.ret (.fn .all (.comp cs__law_name_form_e0 (.one (.var 0)) (.nm 1) [1]))) .nil)))
def cs__law_name_e0 : CE := (.call 9 (.cons (.var 0) (.cons (.cst (.str "ABCDEFGHIJKLMNOPQRSTUVWXYZabcdefghijklmnopqrstuvwxyz0123456789")) .nil)))
def cs__law_name_e1 : CE := (.call 9 (.cons (.var 0) (.cons (.cst (.str "abz019AZ")) .nil)))
def cs__law_name_e2 : CE := (.bin .Add (.sl (.var 3) .nil (.one (.cst (.int (9))))) (.fn .str (.var 4)))
def cs__law_name_e3 : CE := (.var 6)
def cs__law_name_t0 : CE := (.cmp .NotIn (.var 6) (.var 1))
def cs__law_name : CS := (.seq (.set true 2 (.call 8 (.cons (.var 0) (.cons (.cst (.int (7))) .nil)))) (.seq (.ife (.cmp .Eq (.var 2) (.cst (.int (0)))) (.seq (.set true 3 (.call 9 (.cons (.var 0) (.cons (.lst (.cons (.cst (.str "book")) (.cons (.cst (.str "room")) (.cons (.cst (.str "family")) (.cons (.cst (.str "order")) (.cons (.cst (.str "end")) (.cons (.cst (.str "by")) (.cons (.cst (.str "any")) (.cons (.cst (.str "drop")) (.cons (.cst (.str "within")) (.cons (.cst (.str "together")) (.cons (.cst (.str "member")) (.cons (.cst (.str "points")) (.cons (.cst (.str "road")) (.cons (.cst (.str "rules")) .nil))))))))))))))) .nil)))) .nil) (.seq (.ife (.cmp .Eq (.var 2) (.cst (.int (1)))) (.seq (.set true 3 (.call 9 (.cons (.var 0) (.cons (.cst (.str "ABCDEFGHIJKLMNOPQRSTUVWXYZabcdefghijklmnopqrstuvwxyz")) .nil)))) (.seq (.set true 3 (.bin .Add (.var 3) (.join (.cst (.str "")) (.comp cs__law_name_e0 (.wrange (.cst (.int (11)))) (.nm 4) [4])))) .nil)) (.seq (.set true 3 (.bin .Add (.call 9 (.cons (.var 0) (.cons (.cst (.str "abcxyzABCXYZ")) .nil))) (.join (.cst (.str "")) (.comp cs__law_name_e1 (.wrange (.call 9 (.cons (.var 0) (.cons (.lst (.cons (.cst (.int (0))) (.cons (.cst (.int (0))) (.cons (.cst (.int (1))) (.cons (.cst (.int (2))) (.cons (.cst (.int (0))) (.cons (.cst (.int (1))) (.cons (.cst (.int (3))) .nil)))))))) .nil)))) (.nm 4) [4])))) .nil)) .nil)) (.seq (.ife (.cmp .NotIn (.var 3) (.var 1)) (.seq (.ret (.var 3)) .nil) .nil) (.seq (.set true 5 (.comp cs__law_name_e2 (.wrange (.bin .Add (.fn .len (.var 1)) (.cst (.int (1))))) (.nm 4) [4])) (.seq (.ret (.idx (.compI cs__law_name_e3 cs__law_name_t0 (.one (.var 5)) (.nm 6) [6]) (.cst (.int (0))))) .nil)))))
def cs__law_ways_e0 : CE := (.bin .Add (.var 4) (.lst (.cons (.var 5) .nil)))
def cs__law_ways_f0 : CS := (.seq (.expr (.ext 3 (.comp cs__law_ways_e0 (.wrange (.bin .Add (.fn .len (.var 2)) (.cst (.int (1))))) (.nm 5) [5]))) .nil)
def cs__law_ways_f1 : CS := (.seq (.set false 3 (.lst .nil)) (.seq (.for (.nm 4) (.one (.var 1)) cs__law_ways_f0) (.seq (.set true 1 (.var 3)) .nil)))
def cs__law_ways_e1 : CE := (.fn .len (.var 2))
def cs__law_ways_e2 : CE := (.cmp .Lt (.idx (.var 4) (.var 8)) (.fn .len (.idx (.var 0) (.var 8))))
def cs__law_ways_e3 : CE := (.ite (.cmp .Lt (.idx (.var 4) (.var 8)) (.fn .len (.idx (.var 0) (.var 8)))) (.idx (.idx (.var 0) (.var 8)) (.idx (.var 4) (.var 8))) (.cst (.str "-")))
def cs__law_ways_f2 : CS := (.seq (.ife (.conj (.cmp .Eq (.fn .sum (.var 4)) (.var 7)) (.one (.fn .any (.comp cs__law_ways_e2 (.wrange (.fn .len (.var 0))) (.nm 8) [8])))) (.seq (.expr (.app 6 (.fn .tuple (.comp cs__law_ways_e3 (.wrange (.fn .len (.var 0))) (.nm 8) [8])))) .nil) .nil) .nil)
def cs__law_ways_f3 : CS := (.seq (.for (.nm 4) (.one (.var 1)) cs__law_ways_f2) .nil)
def cs__law_ways : CS := (.seq (.set true 1 (.lst (.cons (.lst .nil) .nil))) (.seq (.for (.nm 2) (.one (.var 0)) cs__law_ways_f1) (.seq (.set false 6 (.lst .nil)) (.seq (.for (.nm 7) (.wrange (.bin .Add (.fn .sum (.comp cs__law_ways_e1 (.one (.var 0)) (.nm 2) [2])) (.cst (.int (1))))) cs__law_ways_f3) (.seq (.ret (.var 6)) .nil)))))
def cs__law_wants_e0 : CE := (.pop 5 (.call 8 (.cons (.var 0) (.cons (.fn .len (.var 5)) .nil))))
def cs__law_wants_f0 : CS := (.seq (.set false 5 (.fn .list (.var 1))) (.seq (.set true 6 (.comp cs__law_wants_e0 (.wrange (.fn .len (.var 5))) (.nm 7) [7])) (.seq (.expr (.app 3 (.sl (.sl (.var 6) .nil (.one (.call 9 (.cons (.var 0) (.cons (.lst (.cons (.cst (.int (2))) (.cons (.cst (.int (3))) (.cons (.cst (.int (1))) (.cons (.cst (.int (4))) (.cons (.cst (.int (0))) (.cons (.cst (.int (2))) (.cons (.cst (.int (3))) .nil)))))))) .nil))))) .nil (.one (.var 2))))) .nil)))
def cs__law_wants : CS := (.seq (.set false 3 (.lst .nil)) (.seq (.for (.nm 4) (.wrange (.call 9 (.cons (.var 0) (.cons (.lst (.cons (.cst (.int (2))) (.cons (.cst (.int (1))) (.cons (.cst (.int (3))) (.cons (.cst (.int (2))) (.cons (.cst (.int (3))) .nil)))))) .nil)))) cs__law_wants_f0) (.seq (.ret (.var 3)) .nil)))
def cs__law_wants_wrong_e0 : CE := (.call 11 (.cons (.var 2) .nil))
def cs__law_wants_wrong_e1 : CE := (.cmp .Eq (.count (.var 3) (.var 2)) (.cst (.int (1))))
def cs__law_wants_wrong_f0 : CS := (.seq (.ife (.disj (.no (.isi (.idx (.var 0) (.var 1)) ["list", "tuple"])) (.one (.no (.fn .all (.comp cs__law_wants_wrong_e0 (.one (.idx (.var 0) (.var 1))) (.nm 2) [2]))))) (.seq (.ret (.var 1)) .nil) .nil) (.seq (.set true 3 (.fn .list (.idx (.var 0) (.var 1)))) (.seq (.ife (.no (.fn .all (.comp cs__law_wants_wrong_e1 (.one (.var 3)) (.nm 2) [2]))) (.seq (.ret (.var 1)) .nil) .nil) .nil)))
def cs__law_wants_wrong : CS := (.seq (.ife (.disj (.no (.isi (.var 0) ["list", "tuple"])) (.one (.cmp .Eq (.fn .len (.var 0)) (.cst (.int (0)))))) (.seq (.ret (.bin .Sub (.cst (.int (0))) (.cst (.int (1))))) .nil) .nil) (.seq (.for (.nm 1) (.wrange (.fn .len (.var 0))) cs__law_wants_wrong_f0) (.seq (.ret (.cst .non)) .nil)))
def cs__law_bent_wants_e0 : CE := (.fn .tuple (.var 6))
def cs__law_bent_wants : CS := (.seq (.set true 2 (.call 9 (.cons (.var 0) (.cons (.lst (.cons (.cst .non) (.cons (.cst (.bl true)) (.cons (.cst (.int (0))) (.cons (.cst (.str "")) (.cons (.cst (.str "ab")) (.cons (.tup .nil) (.cons .dk0 (.cons (.cst (.str "-")) (.cons (.cst (.str "1a")) (.cons (.cst (.int (7))) .nil))))))))))) .nil)))) (.seq (.set2 3 4 (.call 8 (.cons (.var 0) (.cons (.fn .len (.var 1)) .nil))) (.call 8 (.cons (.var 0) (.cons (.cst (.int (8))) .nil)))) (.seq (.set true 5 (.fn .list (.idx (.var 1) (.var 3)))) (.seq (.ife (.cmp .Eq (.var 4) (.cst (.int (0)))) (.seq (.ret (.call 9 (.cons (.var 0) (.cons (.lst (.cons (.var 2) (.cons (.lst .nil) (.cons (.tup .nil) (.cons (.fn .tuple (.var 1)) (.cons (.comp cs__law_bent_wants_e0 (.one (.var 1)) (.nm 6) [6]) .nil)))))) .nil)))) .nil) .nil) (.seq (.ife (.cmp .Eq (.var 4) (.cst (.int (1)))) (.seq (.ret (.bin .Add (.bin .Add (.sl (.var 1) .nil (.one (.var 3))) (.lst (.cons (.var 2) .nil))) (.sl (.var 1) (.one (.bin .Add (.var 3) (.call 8 (.cons (.var 0) (.cons (.cst (.int (2))) .nil))))) .nil))) .nil) .nil) (.seq (.ife (.conj (.cmp .Eq (.var 4) (.cst (.int (2)))) (.one (.cmp .NotEq (.var 5) (.lst .nil)))) (.seq (.set true 7 (.call 8 (.cons (.var 0) (.cons (.bin .Add (.fn .len (.var 5)) (.cst (.int (1)))) .nil)))) (.seq (.ret (.bin .Add (.bin .Add (.sl (.var 1) .nil (.one (.var 3))) (.lst (.cons (.bin .Add (.bin .Add (.sl (.var 5) .nil (.one (.var 7))) (.lst (.cons (.call 9 (.cons (.var 0) (.cons (.var 5) .nil))) .nil))) (.sl (.var 5) (.one (.var 7)) .nil)) .nil))) (.sl (.var 1) (.one (.bin .Add (.var 3) (.cst (.int (1))))) .nil))) .nil)) .nil) (.seq (.set true 7 (.call 8 (.cons (.var 0) (.cons (.bin .Add (.fn .len (.var 5)) (.cst (.int (1)))) .nil)))) (.seq (.set true 8 (.call 9 (.cons (.var 0) (.cons (.lst (.cons (.var 2) (.cons (.cst (.str "-")) (.cons (.cst (.str "a.1")) (.cons (.cst (.str "abcdefghijklm")) (.cons (.lst .nil) (.cons (.cst (.str "A")) (.cons (.cst (.str "z")) .nil)))))))) .nil)))) (.seq (.ret (.bin .Add (.bin .Add (.sl (.var 1) .nil (.one (.var 3))) (.lst (.cons (.bin .Add (.bin .Add (.sl (.var 5) .nil (.one (.var 7))) (.lst (.cons (.var 8) .nil))) (.sl (.var 5) (.one (.bin .Add (.var 7) (.call 8 (.cons (.var 0) (.cons (.cst (.int (2))) .nil))))) .nil)) .nil))) (.sl (.var 1) (.one (.bin .Add (.var 3) (.cst (.int (1))))) .nil))) .nil)))))))))
def cs__law_wider_so_e0 : CE := (.bin .Add (.fn .list (.var 5)) (.lst (.cons (.var 3) .nil)))
def cs__law_wider_so_e1 : CE := (.var 7)
def cs__law_wider_so_t0 : CE := (.conj (.cmp .NotIn (.var 3) (.var 7)) (.one (.cmp .NotIn (.cst (.str "-")) (.var 7))))
def cs__law_wider_so_e2 : CE := (.var 7)
def cs__law_wider_so_t1 : CE := (.cmp .NotIn (.cst (.str "-")) (.var 7))
def cs__law_wider_so : CS := (.seq (.set true 3 (.call 12 (.cons (.var 0) (.cons (.var 1) .nil)))) (.seq (.set true 4 (.call 3 (.cons (.comp cs__law_wider_so_e0 (.one (.var 2)) (.nm 5) [5]) .nil))) (.seq (.set true 6 (.compI cs__law_wider_so_e1 cs__law_wider_so_t0 (.one (.var 4)) (.nm 7) [7])) (.seq (.ret (.call 10 (.cons (.var 6) (.cons (.compI cs__law_wider_so_e2 cs__law_wider_so_t1 (.one (.call 3 (.cons (.var 2) .nil))) (.nm 7) [7]) .nil)))) .nil))))
def cs_law_f0 : CS := (.seq (.expr (.app 3 (.call 12 (.cons (.var 1) (.cons (.var 3) .nil))))) .nil)
def cs_law_e0 : CE := (.fn .list (.var 8))
def cs_law_e1 : CE := (.fn .tuple (.var 8))
def cs_law_f1 : CS := (.seq (.ife (.no (.call 17 (.cons (.var 1) (.cons (.var 5) .nil)))) (.seq (.ret (.cst (.bl false))) .nil) .nil) .nil)
def cs_law_f2 : CS := (.seq (.set false 3 (.lst .nil)) (.seq (.for (.nm 4) (.wrange (.call 9 (.cons (.var 1) (.cons (.lst (.cons (.cst (.int (3))) (.cons (.cst (.int (2))) (.cons (.cst (.int (4))) (.cons (.cst (.int (1))) (.cons (.cst (.int (5))) .nil)))))) .nil)))) cs_law_f0) (.seq (.set true 5 (.call 14 (.cons (.var 1) (.cons (.var 3) (.cons (.cst (.int (4))) .nil))))) (.seq (.set true 6 (.call 13 (.cons (.var 5) .nil))) (.seq (.set true 7 (.comp cs_law_e0 (.one (.var 5)) (.nm 8) [8])) (.seq (.set false 9 (.call 3 (.cons (.var 7) .nil))) (.seq (.ife (.disj (.no (.call 10 (.cons (.var 9) (.cons (.var 6) .nil)))) (.one (.no (.call 10 (.cons (.var 7) (.cons (.var 5) .nil)))))) (.seq (.ret (.cst (.bl false))) .nil) .nil) (.seq (.expr (.app 9 (.tup (.cons (.cst (.str "-")) .nil)))) (.seq (.expr (.rev 9)) (.seq (.set true 10 (.fn .tuple (.comp cs_law_e1 (.one (.var 5)) (.nm 8) [8]))) (.seq (.ife (.disj (.no (.call 10 (.cons (.call 3 (.cons (.var 7) .nil)) (.cons (.var 6) .nil)))) (.disj (.no (.call 10 (.cons (.call 3 (.cons (.var 10) .nil)) (.cons (.var 6) .nil)))) (.one (.no (.call 18 (.cons (.var 1) (.cons (.var 3) (.cons (.var 5) .nil)))))))) (.seq (.ret (.cst (.bl false))) .nil) .nil) (.seq (.for (.nm 11) (.wrange (.cst (.int (4)))) cs_law_f1) .nil))))))))))))
def cs_law : CS := (.seq (.set false 1 (.call 7 (.cons (.var 0) .nil))) (.seq (.for (.nm 2) (.wrange (.cst (.int (3)))) cs_law_f2) (.seq (.ret (.cst (.bl true))) .nil)))
def cs__law_refused_so : CS := .nil
/-! the def with try: its statements ahead of the try, the try's body, what stands behind it; what the def tells -/
def bendE : CE := (.isi (.var 4) ["list", "tuple"])
def bendS : CS := (.seq (.ife (.conj (.isi (.var 2) ["list"]) (.conj (.cmp .NotEq (.var 2) (.lst .nil)) (.one (.fn .all (.comp bendE (.one (.var 2)) (.nm 4) [4]))))) (.seq (.set true 2 (.call 16 (.cons (.var 0) (.cons (.var 2) .nil)))) .nil) .nil) .nil)
def s17a : CS := .set true 2 (.var 1)
def s17b : CS := .for (.nm 3) (.wrange (.call 9 (.cons (.var 0) (.cons (.lst (.cons (.cst (.int (1))) (.cons (.cst (.int (1))) (.cons (.cst (.int (2))) .nil)))) .nil)))) bendS
def s17c : CS := .set true 5 (.call 15 (.cons (.var 2) .nil))
def q17 : CE := .cmp .Eq (.call 8 (.cons (.var 0) (.cons (.cst (.int (2))) .nil))) (.cst (.int (0)))
def s17d : CS := .set true 6 (.ite q17 (.call 3 (.cons (.var 2) .nil)) (.call 3 (.cons (.var 2) .nil)))
def s17e : CS := .ret (.conj (.cmp .Is (.var 5) (.cst .non)) (.one (.call 10 (.cons (.var 6) (.cons (.call 13 (.cons (.var 2) .nil)) .nil)))))
def gv (ρ : DL.Env) (i : Nat) : Option D := match ρ[i]? with
  | some (some (.v true d)) => some d
  | _ => none
noncomputable def fin17 (c' : Cs) (args : List Slot) (ρ : DL.Env) : Option (Slot × List Slot) :=
  (gv ρ 2).bind fun d => (gv ρ 5).bind fun u => match u, c'.C 4 [.v true d] with
    | .int t, some (.v true (.int i), _) => if i = t ∧ ρ.length = 8 then (outsS ρ 0 args).bind fun outs => some (.val (.bl true), outs) else none
    | _, _ => none
noncomputable def h17 (c c' : Cs) (args : List Slot) : Option (Slot × List Slot) := match args with
  | [.own bs, .v true wd] => (evB c [true, false] (.seq s17a (.seq s17b (.seq s17c .nil))) [some (.own bs), some (.v true wd), none, none, none, none, none, none]).bind fun o => match o with
    | .nx ρ1 => match gv ρ1 5 with
      | some .non => (evB c [true, false] (.seq s17d (.seq s17e .nil)) ρ1).bind (finS args)
      | _ => (evT c [true, false] q17 ρ1).bind fun p => fin17 c' args p.2
    | _ => none
  | _ => none
noncomputable def tab : List De := [
  ⟨"is_name", ["value"], ["value", "sign"], top 4, [false], [], cs_is_name, none⟩,
  ⟨"is_listing", ["value"], ["value"], top 7, [false], [], cs_is_listing, none⟩,
  ⟨"has_double", ["items"], ["items"], top 8, [false], [], cs_has_double, none⟩,
  ⟨"ways", ["wishes"], ["wishes", "at", "ranked", "places", "found", "_", "way"], top 14, [false], [], cs_ways, none⟩,
  ⟨"wishes_fault", ["wishes"], ["wishes", "at", "rooms", "room"], top 15, [false], [], cs_wishes_fault, none⟩,
  ⟨"_all_places", ["wishes"], ["wishes", "rows", "rooms", "row", "place"], top 16, [false], [], cs__all_places, none⟩,
  ⟨"_way_at", ["wishes", "places"], ["wishes", "places", "rooms", "place"], top 17, [false, false], [], cs__way_at, none⟩,
  ⟨"_law_bag", ["script"], ["script", "mix", "item"], top 19, [false], [], cs__law_bag, none⟩,
  ⟨"_law_draw", ["bag", "top"], ["bag", "top", "item", "digit"], top 20, [true, false], [0], cs__law_draw, none⟩,
  ⟨"_law_of", ["bag", "things"], ["bag", "things"], top 21, [true, false], [0], cs__law_of, none⟩,
  ⟨"_law_like", ["told", "due"], ["told", "due", "a", "b"], top 22, [false, false], [], cs__law_like, none⟩,
  ⟨"_law_name_form", ["item"], ["item", "x"], top 23, [false], [], cs__law_name_form, none⟩,
  ⟨"_law_name", ["bag", "taken"], ["bag", "taken", "pick", "mine", "n", "free", "x"], top 24, [true, false], [0], cs__law_name, none⟩,
  ⟨"_law_ways", ["wants"], ["wants", "rows", "want", "longer", "row", "p", "mine", "cost", "n"], top 25, [false], [3, 6], cs__law_ways, none⟩,
  ⟨"_law_wants", ["bag", "names", "top"], ["bag", "names", "top", "mine", "n", "rest", "mixed", "m"], top 26, [true, false, false], [0, 3, 5], cs__law_wants, none⟩,
  ⟨"_law_wants_wrong", ["item"], ["item", "n", "x", "mine"], top 27, [false], [], cs__law_wants_wrong, none⟩,
  ⟨"_law_bent_wants", ["bag", "wants"], ["bag", "wants", "strange", "spot", "pick", "want", "x", "gap", "odd"], top 28, [true, false], [0], cs__law_bent_wants, none⟩,
  ⟨"_law_refused_so", ["bag", "wants"], ["bag", "wants", "mine", "n", "x", "due", "told", "error"], top 29, [true, false], [0], cs__law_refused_so, some h17⟩,
  ⟨"_law_wider_so", ["bag", "names", "wants"], ["bag", "names", "wants", "fresh", "told", "want", "kept", "x"], top 30, [true, false, false], [0], cs__law_wider_so, none⟩,
  ⟨"law", ["script"], ["script", "bag", "lap", "names", "n", "wants", "due", "handed", "want", "told", "flat", "trial"], top 31, [false], [1, 3, 9], cs_law, none⟩]
def cst0 (x : Str) : Option D :=
  if x = "LETTERS" then some (.str "ABCDEFGHIJKLMNOPQRSTUVWXYZabcdefghijklmnopqrstuvwxyz") else
  if x = "DIGITS" then some (.str "0123456789") else
  if x = "LONGEST_NAME" then some (.int 12) else
  if x = "OUT" then some (.str "-") else
  none
end K09
namespace K09
open PySem L2 DL RL PyProof.Rows
local macro_rules | `(tactic| k_whileD _ _ _ "ev") => `(tactic| simp only [*, is_non_list, is_non_tuple, is_non_bool, is_non_str, is_non_int, is_non_dict, pl_non, isn_non, is_bl_list, is_bl_tuple, is_bl_bool, is_bl_str, is_bl_int, is_bl_dict, pl_bl, isn_bl, is_int_list, is_int_tuple, is_int_bool, is_int_str, is_int_int, is_int_dict, pl_int, isn_int, is_str_list, is_str_tuple, is_str_bool, is_str_str, is_str_int, is_str_dict, pl_str, isn_str, is_lst_list, is_lst_tuple, is_lst_bool, is_lst_str, is_lst_int, is_lst_dict, pl_lst, isn_lst, is_tup_list, is_tup_tuple, is_tup_bool, is_tup_str, is_tup_int, is_tup_dict, pl_tup, isn_tup, is_dk_list, is_dk_tuple, is_dk_bool, is_dk_str, is_dk_int, is_dk_dict, pl_dk, isn_dk, qv_atN, qv_atL, qv_ixLit, qv_mulL, qv_fdivL, qv_modL, qv_powL, Nat.reduceLT, Nat.reduceLeDiff, Nat.reduceAdd, Nat.zero_add, Nat.add_zero, Int.reduceLT, Int.reduceLE, Int.reducePow, Int.reduceToNat, Int.reduceEq, Int.reduceNeg, Int.reduceAdd, Int.reduceSub, Int.reduceMul, and_self, and_true, true_and, eq_self, not_true_eq_false, not_false_eq_true,
  ob_o, ob_v, ob_n, ob_s, fr_nil, fr_0, fr_s, nt_t, nt_f, iv_cst, iv_bin, iv_neg, iv_no, iv_one, iv_conj, iv_disj, iv_cmp, iv_ite, iv_idx, iv_sl, iv_lst, iv_tup, iv_fn, iv_isi, iv_call, iv_app, iv_ext, iv_pop, iv_rev, iv_count, iv_join, iv_comp, iv_compI, iv_comp2, iv_dk0, bf_int, bf_str, bf_list, bf_tuple, bf_sum, bf_all, bf_any, bf_sorted, bf_lenSet, chk_true,
  b_nil, b_seq, b_set, b_setIx, b_set2, b_expr, b_ret, b_retN, b_ife, b_for, b_pass, b_brk, b_cont, qv_nx, qv_ct, qv_bk, qv_ret, m_own, m_var, m_any,
  e_cst, e_var, e_bin, e_neg, e_no, e_one, e_conj, e_disj, e_cmp, e_ite, e_idxO, e_idxV, e_idx, e_sl, e_lst, e_tup, e_lenO, e_fnV, e_fnL, e_fn, e_isi, e_call, e_app, e_ext, e_pop, e_rev, e_count, e_join, e_comp, e_compI, e_comp2, e_dk0, f_range,
  t_no, t_one, t_conj, t_disj, t_cmp, t_chain, t_varB, t_fn, t_isi, t_call, o_nil, o_one, a_nil, a_cons, a_star, s_nil, s_own, s_var, s_cons, w_range, w_zip, w_enum, w_one,
  Option.bind_some, Option.bind_none, Option.map_some, List.getElem?_cons_zero, List.getElem?_cons_succ, List.set_cons_zero, List.set_cons_succ, chk_pos, List.length_cons, List.length_nil, List.length_map, List.all_cons, List.all_nil, Bool.and_true, Bool.true_and, Bool.false_and, Bool.and_false, Bool.and_self, Bool.not_false, Bool.not_true,
  qv_int, qv_bl, qv_str, qv_toT, qv_toO, qv_toI, qv_toS, qv_toB, qv_toN, qv_fixV, qv_fixO, qv_datV, qv_datO, qv_add, qv_addI, qv_addS, qv_addL, qv_sub, qv_mulC, qv_fdivC, qv_modC, qv_powC, qv_in, qv_nin, qv_is, qv_isnt, qv_eq, qv_ne, qv_eqI, qv_eqS, qv_eqB, qv_lt, qv_le, qv_gt, qv_ge, qv_dle, qv_inS, qv_inL, qv_inT,
  qv_ixL, qv_ixT, qv_ixS, qv_lenL, qv_lenT, qv_lenO, qv_lenS, qv_itO, qv_itL, qv_itT, qv_itL', qv_itT', qv_sqO, qv_sqL, qv_sqT, qv_lsO, qv_lsV, qv_lkO, qv_lkT, qv_lkS, qv_len, qv_intf, qv_strf, qv_list, qv_tupleT, qv_tupleL, qv_tupleO, qv_sum, qv_all, qv_any, qv_sorted, qv_lenSet, qv_slS, qv_slL, qv_slO, qv_wkO, qv_wkL, qv_wkT, qv_wkS, qv_getO0, qv_getOS, qv_varV, qv_varO,
  qv_nvT, qv_nvI, qv_nvS, qv_nvB, qv_nvN, qv_nvO, qv_argV, qv_argO, qv_atp, qv_ixp, qv_isi1, qv_isi2, qv_call, qv_aNil, qv_aCons, qv_aEx, qv_aOwn, qv_aBor, qv_backV, qv_backO, qv_backB, qv_backN, if_true, if_false, Bool.false_eq_true, reduceIte, decide_true, decide_false, Bool.or_true, Bool.true_or, Bool.or_false, Bool.false_or, sc_non, sc_bl, sc_int, sc_str, sc_lst, sc_tup, sc_dk,
  mk_sv, kp_sv, bk_sv, no_sv, x_ext, wp_nil, wp_cons, mk_nil, mk_o, mk_v, mk_n, mg_nil, mg_cons, mg_t, mg_f, kp_v, kp_n, kp_o, bk_same, bk_o, bk_t, bk_f, bk_n, by_nm, by_two, no_nil, no_o, no_v, no_n, rb_v, rb_o, os_nil, os_o, os_v, fin_ret, fin_nx, List.contains_cons, List.contains_nil, Nat.reduceBEq, Nat.reduceEqDiff, List.nodup_cons, List.nodup_nil, varsOf, List.not_mem_nil, List.mem_cons, List.mem_singleton, or_false, false_or, or_true, true_or, decide_eq_true_eq, Tgt.ix, isOwn, List.map_cons, List.map_nil, List.cons_append, List.nil_append])
/-! ### the bag: draws -/
structure Bag where
  xs : List Int
  at_ : Nat
  rest : Int
  mix : Int
  cnt : Int
def Bag.ds (B : Bag) : List D := [.lst (B.xs.map .int), .int B.at_, .int B.rest, .int B.mix, .int B.cnt]
structure Bag.Ok (B : Bag) : Prop where
  a : B.at_ ≤ B.xs.length
  r : 0 ≤ B.rest
  m : 0 ≤ B.mix ∧ B.mix < 2147483629
  c : 0 ≤ B.cnt
def Bag.fetch (B : Bag) : Bag :=
  if B.rest = 0 ∧ B.at_ < B.xs.length then
    (if 10 ^ 18 ≤ B.xs.getD B.at_ 0 then { B with cnt := B.cnt + 1, at_ := B.at_ + 1, rest := B.xs.getD B.at_ 0 }
     else { B with cnt := B.cnt + 1, at_ := B.at_ + 1, mix := (B.mix * 69621 + B.xs.getD B.at_ 0 % 2147483549 * 30103 + 97) % 2147483629 })
  else { B with cnt := B.cnt + 1 }
def Bag.mixed (B : Bag) : Int := (B.mix ^ 3 + B.cnt * 1299709 + 60013) % 2147483629
def Bag.digit (B : Bag) (t : Int) : Int := if 0 < B.fetch.rest then B.fetch.rest % t else (B.fetch.mixed / 97 + B.fetch.mixed % 7901 * 67) % t
def Bag.next (B : Bag) (t : Int) : Bag := if 0 < B.fetch.rest then { B.fetch with rest := B.fetch.rest / t } else { B.fetch with mix := B.fetch.mixed }
theorem fetch_ok {B : Bag} (h : B.Ok) : B.fetch.Ok := by
  obtain ⟨h1, h2, h3, h4⟩ := h
  unfold Bag.fetch
  split
  · rename_i hc
    split
    · exact ⟨by dsimp only; omega, by dsimp only; omega, h3, by dsimp only; omega⟩
    · exact ⟨by dsimp only; omega, h2, ⟨by dsimp only; omega, by dsimp only; omega⟩, by dsimp only; omega⟩
  · exact ⟨h1, h2, h3, by dsimp only; omega⟩
theorem mixed_ok {B : Bag} : 0 ≤ B.mixed ∧ B.mixed < 2147483629 := by
  unfold Bag.mixed
  exact ⟨Int.emod_nonneg _ (by decide), Int.emod_lt_of_pos _ (by decide)⟩
theorem next_ok {B : Bag} (h : B.Ok) {t : Int} (ht : 0 < t) : (B.next t).Ok := by
  have hf := fetch_ok h
  obtain ⟨h1, h2, h3, h4⟩ := hf
  unfold Bag.next
  split
  · exact ⟨h1, Int.ediv_nonneg h2 (by omega), h3, h4⟩
  · exact ⟨h1, h2, mixed_ok, h4⟩
theorem digit_lt {B : Bag} {t : Int} (ht : 0 < t) : 0 ≤ B.digit t ∧ B.digit t < t := by
  unfold Bag.digit
  split
  · exact ⟨Int.emod_nonneg _ (by omega), Int.emod_lt_of_pos _ ht⟩
  · exact ⟨Int.emod_nonneg _ (by omega), Int.emod_lt_of_pos _ ht⟩
def drawA : CS := (.setIx 0 (.cst (.int (4))) (.bin .Add (.idx (.var 0) (.cst (.int (4)))) (.cst (.int (1)))))
def drawB : CS := (.ife (.conj (.cmp .Eq (.idx (.var 0) (.cst (.int (2)))) (.cst (.int (0)))) (.one (.cmp .Lt (.idx (.var 0) (.cst (.int (1)))) (.fn .len (.idx (.var 0) (.cst (.int (0)))))))) (.seq (.set true 2 (.idx (.idx (.var 0) (.cst (.int (0)))) (.idx (.var 0) (.cst (.int (1))))))
  (.seq (.setIx 0 (.cst (.int (1))) (.bin .Add (.idx (.var 0) (.cst (.int (1)))) (.cst (.int (1)))))
  (.seq (.ife (.cmp .GtE (.var 2) (.bin .Pow (.cst (.int (10))) (.cst (.int (18))))) (.seq (.setIx 0 (.cst (.int (2))) (.var 2))
  .nil) (.seq (.setIx 0 (.cst (.int (3))) (.bin .Mod (.fn .int (.bin .Add (.bin .Add (.bin .Mult (.idx (.var 0) (.cst (.int (3)))) (.cst (.int (69621)))) (.bin .Mult (.bin .Mod (.fn .int (.var 2)) (.cst (.int (2147483549)))) (.cst (.int (30103))))) (.cst (.int (97))))) (.cst (.int (2147483629)))))
  .nil))
  .nil))) .nil)
def drawT : CS := (.seq (.ife (.cmp .Gt (.idx (.var 0) (.cst (.int (2)))) (.cst (.int (0)))) (.seq (.set true 3 (.bin .Mod (.fn .int (.idx (.var 0) (.cst (.int (2))))) (.var 1)))
  (.seq (.setIx 0 (.cst (.int (2))) (.bin .FloorDiv (.idx (.var 0) (.cst (.int (2)))) (.var 1)))
  (.seq (.ret (.var 3))
  .nil))) .nil)
  (.seq (.setIx 0 (.cst (.int (3))) (.bin .Mod (.fn .int (.bin .Add (.bin .Add (.bin .Pow (.idx (.var 0) (.cst (.int (3)))) (.cst (.int (3)))) (.bin .Mult (.idx (.var 0) (.cst (.int (4)))) (.cst (.int (1299709))))) (.cst (.int (60013))))) (.cst (.int (2147483629)))))
  (.seq (.ret (.bin .Mod (.fn .int (.bin .Add (.bin .FloorDiv (.idx (.var 0) (.cst (.int (3)))) (.cst (.int (97)))) (.bin .Mult (.bin .Mod (.fn .int (.idx (.var 0) (.cst (.int (3))))) (.cst (.int (7901)))) (.cst (.int (67)))))) (.var 1)))
  .nil)))
theorem draw_parts : cs__law_draw = .seq drawA (.seq drawB drawT) := rfl
theorem draw_tail (c : Cs) (B : Bag) (hB : B.Ok) (t : Int) (ht : 0 < t) (ht2 : t < 1073741824) (k : Bool) (x : Option Slot) :
    evB c [true, false] drawT [some (.own B.ds), some (.v k (.int t)), x, none] =
    (if 0 < B.rest then some (.ret (.val (.int (B.rest % t))) [some (.own { B with rest := B.rest / t }.ds), some (.v k (.int t)), x, some (.val (.int (B.rest % t)))])
     else some (.ret (.val (.int ((B.mixed / 97 + B.mixed % 7901 * 67) % t))) [some (.own { B with mix := B.mixed }.ds), some (.v k (.int t)), x, none])) := by
  unfold Bag.ds drawT
  have hm := hB.m
  have hc : CPow B.mix 3 := ⟨by omega, by omega, by omega⟩
  have hd : CDiv B.rest t := ⟨ht, ht2⟩
  by_cases h : 0 < B.rest
  · rw [if_pos h]
    k_whileD _ _ _ "ev"
  · rw [if_neg h]
    k_whileD _ _ _ "ev"
    rfl
theorem draw_spec {n : Nat} {B : Bag} (hB : B.Ok) {t : Int} (ht : 0 < t) (ht2 : t < 1073741824) {k : Bool} :
    (csT tab (n + 1)).C 8 [.own B.ds, .v k (.int t)] = some (.val (.int (B.digit t)), [.own (B.next t).ds, .v k (.int t)]) := by
  rw [call_eq (T := tab) (f := 8) rfl rfl]
  show (evB (csT tab n) [true, false] cs__law_draw [some (.own B.ds), some (.v k (.int t)), none, none]).bind _ = _
  have fin : ∀ (x : Option Slot) (B' : Bag), B'.Ok → B' = B.fetch →
    ((if 0 < B'.rest then some (.ret (.val (.int (B'.rest % t))) [some (.own { B' with rest := B'.rest / t }.ds), some (.v k (.int t)), x, some (.val (.int (B'.rest % t)))])
     else some (.ret (.val (.int ((B'.mixed / 97 + B'.mixed % 7901 * 67) % t))) [some (.own { B' with mix := B'.mixed }.ds), some (.v k (.int t)), x, none])) : Option Out).bind (finS [.own B.ds, .v k (.int t)]) = some (.val (.int (B.digit t)), [.own (B.next t).ds, .v k (.int t)]) := by
    intro x B' hB' e
    subst e
    unfold Bag.digit Bag.next
    by_cases h : 0 < B.fetch.rest
    · simp only [if_pos h]
      k_whileD _ _ _ "ev"
    · simp only [if_neg h]
      k_whileD _ _ _ "ev"
  have hm := hB.m
  rw [draw_parts, b_seq]
  have e1 : evB (csT tab n) [true, false] drawA [some (.own B.ds), some (.v k (.int t)), none, none] = some (.nx [some (.own { B with cnt := B.cnt + 1 }.ds), some (.v k (.int t)), none, none]) := by
    unfold Bag.ds drawA
    k_whileD _ _ _ "ev"
  have e2 : ∃ x, evB (csT tab n) [true, false] drawB [some (.own { B with cnt := B.cnt + 1 }.ds), some (.v k (.int t)), none, none] = some (.nx [some (.own B.fetch.ds), some (.v k (.int t)), x, none]) := by
    by_cases h : B.rest = 0 ∧ B.at_ < B.xs.length
    · obtain ⟨h1, h2⟩ := h
      have h3 : (B.at_ : Int) < (B.xs.length : Int) := by omega
      have h4 : (B.xs.map D.int)[B.at_]? = some (.int (B.xs.getD B.at_ 0)) := by
        rw [List.getElem?_map, List.getElem?_eq_getElem h2, List.getD_eq_getElem?_getD, List.getElem?_eq_getElem h2]; rfl
      by_cases h5 : 10 ^ 18 ≤ B.xs.getD B.at_ 0
      · refine ⟨some (.val (.int (B.xs.getD B.at_ 0))), ?_⟩
        have hf : B.fetch = { B with cnt := B.cnt + 1, at_ := B.at_ + 1, rest := B.xs.getD B.at_ 0 } := by unfold Bag.fetch; rw [if_pos ⟨h1, h2⟩, if_pos h5]
        rw [hf]
        have h5 : (1000000000000000000 : Int) ≤ B.xs.getD B.at_ 0 := h5
        unfold Bag.ds drawB
        dsimp only
        clear hf
        k_whileD _ _ _ "ev"
        rfl
      · refine ⟨some (.val (.int (B.xs.getD B.at_ 0))), ?_⟩
        have hf : B.fetch = { B with cnt := B.cnt + 1, at_ := B.at_ + 1, mix := (B.mix * 69621 + B.xs.getD B.at_ 0 % 2147483549 * 30103 + 97) % 2147483629 } := by unfold Bag.fetch; rw [if_pos ⟨h1, h2⟩, if_neg h5]
        rw [hf]
        have h5 : ¬ (1000000000000000000 : Int) ≤ B.xs.getD B.at_ 0 := h5
        unfold Bag.ds drawB
        dsimp only
        clear hf
        k_whileD _ _ _ "ev"
        rfl
    · refine ⟨none, ?_⟩
      have hf : B.fetch = { B with cnt := B.cnt + 1 } := by unfold Bag.fetch; rw [if_neg h]
      rw [hf]
      unfold Bag.ds drawB
      dsimp only
      clear hf
      by_cases h1 : B.rest = 0
      · have h3 : ¬ (B.at_ : Int) < (B.xs.length : Int) := fun q => h ⟨h1, by omega⟩
        k_whileD _ _ _ "ev"
      · clear h
        k_whileD _ _ _ "ev"
  obtain ⟨x, e2⟩ := e2
  rw [e1, Option.bind_some, qv_nx, b_seq_any, e2, Option.bind_some, qv_nx, draw_tail _ _ (fetch_ok hB) t ht ht2]
  exact fin x _ (fetch_ok hB) rfl
theorem of_spec {n : Nat} {B : Bag} (hB : B.Ok) {ds : List D} (h0 : 0 < ds.length) (h1 : ds.length < 1073741824) {k : Bool} (hk : k = true ∨ ds.all isSc = true) :
    (csT tab (n + 2)).C 9 [.own B.ds, .v k (.lst ds)] = some (.val (ds.getD (B.digit ds.length).toNat .non), [.own (B.next ds.length).ds, .v k (.lst ds)]) := by
  rw [call_eq (T := tab) (f := 9) rfl rfl]
  show (evB (csT tab (n + 1)) [true, false] cs__law_of [some (.own B.ds), some (.v k (.lst ds))]).bind _ = _
  have m8 : (csT tab (n + 1)).M 8 = [true, false] := cs_M (T := tab) (f := 8) rfl
  have d8 := draw_spec (n := n) hB (t := ds.length) (by omega) (by omega) (k := true)
  have hd := digit_lt (B := B) (t := ds.length) (by omega)
  have hlt : (B.digit ds.length).toNat < ds.length := by omega
  have hat : atI ds (B.digit ds.length) = some (ds.getD (B.digit ds.length).toNat .non) := by
    have h2 : ((B.digit ds.length).toNat : Int) = B.digit ds.length := by omega
    have h3 := atI_nat (xs := ds) (j := (B.digit ds.length).toNat) (v := ds.getD (B.digit ds.length).toNat .non) (by rw [List.getD_eq_getElem?_getD, List.getElem?_eq_getElem hlt]; rfl)
    rwa [h2] at h3
  have hv : nvS (.v k (ds.getD (B.digit ds.length).toNat .non)) = .v true (ds.getD (B.digit ds.length).toNat .non) := by
    rcases hk with rfl | hk
    · rfl
    · have : isSc (ds.getD (B.digit ds.length).toNat .non) = true := List.all_eq_true.mp hk _ (by rw [List.getD_eq_getElem?_getD, List.getElem?_eq_getElem hlt]; exact List.getElem_mem hlt)
      show Slot.v (k || isSc _) _ = _
      rw [this, Bool.or_true]
  clear hk
  unfold cs__law_of
  k_whileD _ _ _ "ev"
end K09
namespace K09
open PySem L2 DL RL PyProof.Rows
local macro_rules | `(tactic| k_whileD _ _ _ "ev") => `(tactic| simp only [*, is_non_list, is_non_tuple, is_non_bool, is_non_str, is_non_int, is_non_dict, pl_non, isn_non, is_bl_list, is_bl_tuple, is_bl_bool, is_bl_str, is_bl_int, is_bl_dict, pl_bl, isn_bl, is_int_list, is_int_tuple, is_int_bool, is_int_str, is_int_int, is_int_dict, pl_int, isn_int, is_str_list, is_str_tuple, is_str_bool, is_str_str, is_str_int, is_str_dict, pl_str, isn_str, is_lst_list, is_lst_tuple, is_lst_bool, is_lst_str, is_lst_int, is_lst_dict, pl_lst, isn_lst, is_tup_list, is_tup_tuple, is_tup_bool, is_tup_str, is_tup_int, is_tup_dict, pl_tup, isn_tup, is_dk_list, is_dk_tuple, is_dk_bool, is_dk_str, is_dk_int, is_dk_dict, pl_dk, isn_dk, qv_atN, qv_atL, qv_ixLit, qv_mulL, qv_fdivL, qv_modL, qv_powL, Nat.reduceLT, Nat.reduceLeDiff, Nat.reduceAdd, Nat.zero_add, Nat.add_zero, Int.reduceLT, Int.reduceLE, Int.reducePow, Int.reduceToNat, Int.reduceEq, Int.reduceNeg, Int.reduceAdd, Int.reduceSub, Int.reduceMul, and_self, and_true, true_and, eq_self, not_true_eq_false, not_false_eq_true,
  ob_o, ob_v, ob_n, ob_s, fr_nil, fr_0, fr_s, nt_t, nt_f, iv_cst, iv_bin, iv_neg, iv_no, iv_one, iv_conj, iv_disj, iv_cmp, iv_ite, iv_idx, iv_sl, iv_lst, iv_tup, iv_fn, iv_isi, iv_call, iv_app, iv_ext, iv_pop, iv_rev, iv_count, iv_join, iv_comp, iv_compI, iv_comp2, iv_dk0, bf_int, bf_str, bf_list, bf_tuple, bf_sum, bf_all, bf_any, bf_sorted, bf_lenSet, chk_true,
  b_nil, b_seq, b_set, b_setIx, b_set2, b_expr, b_ret, b_retN, b_ife, b_for, b_pass, b_brk, b_cont, qv_nx, qv_ct, qv_bk, qv_ret, m_own, m_var, m_any,
  e_cst, e_var, e_bin, e_neg, e_no, e_one, e_conj, e_disj, e_cmp, e_ite, e_idxO, e_idxV, e_idx, e_sl, e_lst, e_tup, e_lenO, e_fnV, e_fnL, e_fn, e_isi, e_call, e_app, e_ext, e_pop, e_rev, e_count, e_join, e_comp, e_compI, e_comp2, e_dk0, f_range,
  t_no, t_one, t_conj, t_disj, t_cmp, t_chain, t_varB, t_fn, t_isi, t_call, o_nil, o_one, a_nil, a_cons, a_star, s_nil, s_own, s_var, s_cons, w_range, w_zip, w_enum, w_one,
  Option.bind_some, Option.bind_none, Option.map_some, List.getElem?_cons_zero, List.getElem?_cons_succ, List.set_cons_zero, List.set_cons_succ, chk_pos, List.length_cons, List.length_nil, List.length_map, List.all_cons, List.all_nil, Bool.and_true, Bool.true_and, Bool.false_and, Bool.and_false, Bool.and_self, Bool.not_false, Bool.not_true,
  qv_int, qv_bl, qv_str, qv_toT, qv_toO, qv_toI, qv_toS, qv_toB, qv_toN, qv_fixV, qv_fixO, qv_datV, qv_datO, qv_add, qv_addI, qv_addS, qv_addL, qv_sub, qv_mulC, qv_fdivC, qv_modC, qv_powC, qv_in, qv_nin, qv_is, qv_isnt, qv_eq, qv_ne, qv_eqI, qv_eqS, qv_eqB, qv_lt, qv_le, qv_gt, qv_ge, qv_dle, qv_inS, qv_inL, qv_inT,
  qv_ixL, qv_ixT, qv_ixS, qv_lenL, qv_lenT, qv_lenO, qv_lenS, qv_itO, qv_itL, qv_itT, qv_itL', qv_itT', qv_sqO, qv_sqL, qv_sqT, qv_lsO, qv_lsV, qv_lkO, qv_lkT, qv_lkS, qv_len, qv_intf, qv_strf, qv_list, qv_tupleT, qv_tupleL, qv_tupleO, qv_sum, qv_all, qv_any, qv_sorted, qv_lenSet, qv_slS, qv_slL, qv_slO, qv_wkO, qv_wkL, qv_wkT, qv_wkS, qv_getO0, qv_getOS, qv_varV, qv_varO,
  qv_nvT, qv_nvI, qv_nvS, qv_nvB, qv_nvN, qv_nvO, qv_argV, qv_argO, qv_atp, qv_ixp, qv_isi1, qv_isi2, qv_call, qv_aNil, qv_aCons, qv_aEx, qv_aOwn, qv_aBor, qv_backV, qv_backO, qv_backB, qv_backN, if_true, if_false, Bool.false_eq_true, reduceIte, decide_true, decide_false, Bool.or_true, Bool.true_or, Bool.or_false, Bool.false_or, sc_non, sc_bl, sc_int, sc_str, sc_lst, sc_tup, sc_dk,
  mk_sv, kp_sv, bk_sv, no_sv, x_ext, wp_nil, wp_cons, mk_nil, mk_o, mk_v, mk_n, mg_nil, mg_cons, mg_t, mg_f, kp_v, kp_n, kp_o, bk_same, bk_o, bk_t, bk_f, bk_n, by_nm, by_two, no_nil, no_o, no_v, no_n, rb_v, rb_o, os_nil, os_o, os_v, fin_ret, fin_nx, List.contains_cons, List.contains_nil, Nat.reduceBEq, Nat.reduceEqDiff, List.nodup_cons, List.nodup_nil, varsOf, List.not_mem_nil, List.mem_cons, List.mem_singleton, or_false, false_or, or_true, true_or, decide_eq_true_eq, Tgt.ix, isOwn, List.map_cons, List.map_nil, List.cons_append, List.nil_append])
/-! ### _law_like, on equal data -/
def okD : Nat → D → Prop
  | _, .non => True
  | _, .bl _ => True
  | _, .int _ => True
  | _, .str _ => True
  | m + 1, .lst ds => ds.length ≤ sizeLine ∧ ∀ d ∈ ds, okD m d
  | m + 1, .tup ds => ds.length ≤ sizeLine ∧ ∀ d ∈ ds, okD m d
  | _, _ => False
theorem all_true (n : Nat) : ((List.replicate n true).all id) = true := by
  rw [List.all_eq_true]
  intro b hb
  rw [(List.mem_replicate.mp hb).2]; rfl
theorem like_seq {n m : Nat} {ds : List D} (hl : ds.length ≤ sizeLine) (ih : ∀ d ∈ ds, ∀ (k1 k2 : Bool), (csT tab (n + m + 1)).C 10 [.v k1 d, .v k2 d] = some (.val (.bl true), [.v k1 d, .v k2 d])) (k1 k2 : Bool) (D1 D2 : D) :
    compL (compF (csT tab (n + m + 1)) cs__law_like_e0 (.tp [2, 3]) [2, 3] (fun t => .two k1 (ds.getD t .non) k2 (ds.getD t .non))) 0 (min ds.length ds.length) [some (.v k1 D1), some (.v k2 D2), none, none] [] = some (ds.map fun _ => .bl true, [some (.v k1 D1), some (.v k2 D2), none, none]) := by
  rw [Nat.min_self]
  refine compL_list (fun _ => .bl true) fun t d h => ?_
  have e : ds.getD t .non = d := by rw [List.getD_eq_getElem?_getD, h]; rfl
  have hd := ih d (List.mem_of_getElem? h)
  have m10 : (csT tab (n + m + 1)).M 10 = [false, false] := cs_M (T := tab) (f := 10) rfl
  have h1 := hd (k1 || isSc d) (k2 || isSc d)
  unfold compF cs__law_like_e0
  dsimp only
  rw [e]
  clear e h ih hl hd
  k_whileD _ _ _ "ev"
theorem like_spec : ∀ (m : Nat) {n : Nat} {d : D}, okD m d → ∀ (k1 k2 : Bool), (csT tab (n + m + 1)).C 10 [.v k1 d, .v k2 d] = some (.val (.bl true), [.v k1 d, .v k2 d]) := by
  intro m
  induction m with
  | zero =>
    intro n d h k1 k2
    rw [call_eq (T := tab) (f := 10) rfl rfl]
    show (evB (csT tab (n + 0)) [false, false] cs__law_like [some (.v k1 d), some (.v k2 d), none, none]).bind _ = _
    unfold cs__law_like
    cases d with
    | non => k_whileD _ _ _ "ev"
    | bl b => k_whileD _ _ _ "ev"
    | int i => k_whileD _ _ _ "ev"
    | str i => k_whileD _ _ _ "ev"
    | _ => exact h.elim
  | succ m ih =>
    intro n d h k1 k2
    rw [call_eq (T := tab) (f := 10) rfl rfl]
    show (evB (csT tab (n + (m + 1))) [false, false] cs__law_like [some (.v k1 d), some (.v k2 d), none, none]).bind _ = _
    cases d with
    | lst ds =>
      obtain ⟨hl, hd⟩ := h
      have hc := like_seq (n := n) (m := m) hl (fun d hx k1 k2 => ih (hd d hx) k1 k2) k1 k2 (.lst ds) (.lst ds)
      have hb : blsOf (ds.map fun _ => D.bl true) = some (List.replicate ds.length true) := by
        rw [← blsOf_map]; congr 1
        rw [List.map_replicate, List.map_const']
      have ha := all_true ds.length
      have hz : min ds.length ds.length ≤ sizeLine := by omega
      rw [show n + (m + 1) = n + m + 1 by omega]
      clear ih hd
      unfold cs__law_like
      k_whileD _ _ _ "ev"
    | tup ds =>
      obtain ⟨hl, hd⟩ := h
      have hc := like_seq (n := n) (m := m) hl (fun d hx k1 k2 => ih (hd d hx) k1 k2) k1 k2 (.tup ds) (.tup ds)
      have hb : blsOf (ds.map fun _ => D.bl true) = some (List.replicate ds.length true) := by
        rw [← blsOf_map]; congr 1
        rw [List.map_replicate, List.map_const']
      have ha := all_true ds.length
      have hz : min ds.length ds.length ≤ sizeLine := by omega
      rw [show n + (m + 1) = n + m + 1 by omega]
      clear ih hd
      unfold cs__law_like
      k_whileD _ _ _ "ev"
    | non =>
      unfold cs__law_like
      k_whileD _ _ _ "ev"
    | bl b =>
      unfold cs__law_like
      k_whileD _ _ _ "ev"
    | int i =>
      unfold cs__law_like
      k_whileD _ _ _ "ev"
    | str i =>
      unfold cs__law_like
      k_whileD _ _ _ "ev"
    | _ => exact h.elim
end K09
namespace K09
open PySem L2 DL RL PyProof.Rows
local macro_rules | `(tactic| k_whileD _ _ _ "ev") => `(tactic| simp only [*, is_non_list, is_non_tuple, is_non_bool, is_non_str, is_non_int, is_non_dict, pl_non, isn_non, is_bl_list, is_bl_tuple, is_bl_bool, is_bl_str, is_bl_int, is_bl_dict, pl_bl, isn_bl, is_int_list, is_int_tuple, is_int_bool, is_int_str, is_int_int, is_int_dict, pl_int, isn_int, is_str_list, is_str_tuple, is_str_bool, is_str_str, is_str_int, is_str_dict, pl_str, isn_str, is_lst_list, is_lst_tuple, is_lst_bool, is_lst_str, is_lst_int, is_lst_dict, pl_lst, isn_lst, is_tup_list, is_tup_tuple, is_tup_bool, is_tup_str, is_tup_int, is_tup_dict, pl_tup, isn_tup, is_dk_list, is_dk_tuple, is_dk_bool, is_dk_str, is_dk_int, is_dk_dict, pl_dk, isn_dk, qv_atN, qv_atL, qv_ixLit, qv_mulL, qv_fdivL, qv_modL, qv_powL, Nat.reduceLT, Nat.reduceLeDiff, Nat.reduceAdd, Nat.zero_add, Nat.add_zero, Int.reduceLT, Int.reduceLE, Int.reducePow, Int.reduceToNat, Int.reduceEq, Int.reduceNeg, Int.reduceAdd, Int.reduceSub, Int.reduceMul, and_self, and_true, true_and, eq_self, not_true_eq_false, not_false_eq_true,
  ob_o, ob_v, ob_n, ob_s, fr_nil, fr_0, fr_s, nt_t, nt_f, iv_cst, iv_bin, iv_neg, iv_no, iv_one, iv_conj, iv_disj, iv_cmp, iv_ite, iv_idx, iv_sl, iv_lst, iv_tup, iv_fn, iv_isi, iv_call, iv_app, iv_ext, iv_pop, iv_rev, iv_count, iv_join, iv_comp, iv_compI, iv_comp2, iv_dk0, bf_int, bf_str, bf_list, bf_tuple, bf_sum, bf_all, bf_any, bf_sorted, bf_lenSet, chk_true,
  b_nil, b_seq, b_set, b_setIx, b_set2, b_expr, b_ret, b_retN, b_ife, b_for, b_pass, b_brk, b_cont, qv_nx, qv_ct, qv_bk, qv_ret, m_own, m_var, m_any,
  e_cst, e_var, e_bin, e_neg, e_no, e_one, e_conj, e_disj, e_cmp, e_ite, e_idxO, e_idxV, e_idx, e_sl, e_lst, e_tup, e_lenO, e_fnV, e_fnL, e_fn, e_isi, e_call, e_app, e_ext, e_pop, e_rev, e_count, e_join, e_comp, e_compI, e_comp2, e_dk0, f_range,
  t_no, t_one, t_conj, t_disj, t_cmp, t_chain, t_varB, t_fn, t_isi, t_call, o_nil, o_one, a_nil, a_cons, a_star, s_nil, s_own, s_var, s_cons, w_range, w_zip, w_enum, w_one,
  Option.bind_some, Option.bind_none, Option.map_some, List.getElem?_cons_zero, List.getElem?_cons_succ, List.set_cons_zero, List.set_cons_succ, chk_pos, List.length_cons, List.length_nil, List.length_map, List.all_cons, List.all_nil, Bool.and_true, Bool.true_and, Bool.false_and, Bool.and_false, Bool.and_self, Bool.not_false, Bool.not_true,
  qv_int, qv_bl, qv_str, qv_toT, qv_toO, qv_toI, qv_toS, qv_toB, qv_toN, qv_fixV, qv_fixO, qv_datV, qv_datO, qv_add, qv_addI, qv_addS, qv_addL, qv_sub, qv_mulC, qv_fdivC, qv_modC, qv_powC, qv_in, qv_nin, qv_is, qv_isnt, qv_eq, qv_ne, qv_eqI, qv_eqS, qv_eqB, qv_lt, qv_le, qv_gt, qv_ge, qv_dle, qv_inS, qv_inL, qv_inT,
  qv_ixL, qv_ixT, qv_ixS, qv_lenL, qv_lenT, qv_lenO, qv_lenS, qv_itO, qv_itL, qv_itT, qv_itL', qv_itT', qv_sqO, qv_sqL, qv_sqT, qv_lsO, qv_lsV, qv_lkO, qv_lkT, qv_lkS, qv_len, qv_intf, qv_strf, qv_list, qv_tupleT, qv_tupleL, qv_tupleO, qv_sum, qv_all, qv_any, qv_sorted, qv_lenSet, qv_slS, qv_slL, qv_slO, qv_wkO, qv_wkL, qv_wkT, qv_wkS, qv_getO0, qv_getOS, qv_varV, qv_varO,
  qv_nvT, qv_nvI, qv_nvS, qv_nvB, qv_nvN, qv_nvO, qv_argV, qv_argO, qv_atp, qv_ixp, qv_isi1, qv_isi2, qv_call, qv_aNil, qv_aCons, qv_aEx, qv_aOwn, qv_aBor, qv_backV, qv_backO, qv_backB, qv_backN, if_true, if_false, Bool.false_eq_true, reduceIte, decide_true, decide_false, Bool.or_true, Bool.true_or, Bool.or_false, Bool.false_or, sc_non, sc_bl, sc_int, sc_str, sc_lst, sc_tup, sc_dk,
  mk_sv, kp_sv, bk_sv, no_sv, x_ext, wp_nil, wp_cons, mk_nil, mk_o, mk_v, mk_n, mg_nil, mg_cons, mg_t, mg_f, kp_v, kp_n, kp_o, bk_same, bk_o, bk_t, bk_f, bk_n, by_nm, by_two, no_nil, no_o, no_v, no_n, rb_v, rb_o, os_nil, os_o, os_v, fin_ret, fin_nx, List.contains_cons, List.contains_nil, Nat.reduceBEq, Nat.reduceEqDiff, List.nodup_cons, List.nodup_nil, varsOf, List.not_mem_nil, List.mem_cons, List.mem_singleton, or_false, false_or, or_true, true_or, decide_eq_true_eq, Tgt.ix, isOwn, List.map_cons, List.map_nil, List.cons_append, List.nil_append])
/-! ### names, and what is wrong with wishes -/
def lettersS : Str := "ABCDEFGHIJKLMNOPQRSTUVWXYZabcdefghijklmnopqrstuvwxyz"
def digitsS : Str := "0123456789"
def l62 : Str := "ABCDEFGHIJKLMNOPQRSTUVWXYZabcdefghijklmnopqrstuvwxyz0123456789"
def isLet (c : Nat) : Bool := decide (c ∈ lettersS.cps.toList)
def isDig (c : Nat) : Bool := decide (c ∈ digitsS.cps.toList)
def nameOk (z : Str) : Bool := (decide (1 ≤ z.length) && decide (z.length ≤ 12)) && (isLet (z.cps.getD 0 0) && z.cps.toList.all fun c => isLet c || isDig c)
def isNameD : D → Bool
  | .str z => nameOk z
  | _ => false
theorem l62_list : l62.cps.toList = lettersS.cps.toList ++ digitsS.cps.toList := by decide +kernel
theorem in62 (c : Nat) : decide (c ∈ l62.cps.toList) = (isLet c || isDig c) := by
  rw [l62_list]
  unfold isLet isDig
  by_cases h1 : c ∈ lettersS.cps.toList <;> by_cases h2 : c ∈ digitsS.cps.toList <;> simp [h1, h2]
theorem in_one {k1 k2 : Bool} {c : Nat} {t : Str} : inS (.v k1 (.str ⟨#[c]⟩)) (.v k2 (.str t)) = some (decide (c ∈ t.cps.toList)) := by
  rw [qv_inS, chk_pos (p := (Str.mk #[c]).cps.size = 1) rfl]; rfl
theorem in_let {k1 k2 : Bool} {c : Nat} : inS (.v k1 (.str ⟨#[c]⟩)) (.v k2 (.str "ABCDEFGHIJKLMNOPQRSTUVWXYZabcdefghijklmnopqrstuvwxyz")) = some (isLet c) := in_one
theorem in_dig {k1 k2 : Bool} {c : Nat} : inS (.v k1 (.str ⟨#[c]⟩)) (.v k2 (.str "0123456789")) = some (isDig c) := in_one
theorem in_62 {k1 k2 : Bool} {c : Nat} : inS (.v k1 (.str ⟨#[c]⟩)) (.v k2 (.str "ABCDEFGHIJKLMNOPQRSTUVWXYZabcdefghijklmnopqrstuvwxyz0123456789")) = some (isLet c || isDig c) := by
  rw [← in62]; exact in_one
theorem all_cps {z : Str} (f : Nat → Bool) : ((List.range z.cps.size).map fun t => f (z.cps.getD t 0)).all id = z.cps.toList.all f := by
  obtain ⟨⟨l⟩⟩ := z
  rw [List.all_map]
  show ((List.range l.length).all fun t => id (f ((⟨l⟩ : Array Nat).getD t 0))) = l.all f
  have h : ∀ n, n ≤ l.length → ((List.range n).all fun t => id (f ((⟨l⟩ : Array Nat).getD t 0))) = (l.take n).all f := by
    intro n
    induction n with
    | zero => intro _; rfl
    | succ n ih =>
      intro hn
      have hlt : n < l.length := hn
      rw [List.range_succ, List.all_append, ih (Nat.le_of_lt hlt), List.take_add_one, List.getElem?_eq_getElem hlt, List.all_append]
      congr 1
      have : (⟨l⟩ : Array Nat).getD n 0 = l[n] := by simp [Array.getD, hlt]
      simp [this, List.getElem?_eq_getElem hlt]
  rw [h _ (Nat.le_refl _), List.take_of_length_le (Nat.le_refl _)]
theorem name_spec {n : Nat} {k : Bool} {z : Str} (hz : z.length ≤ sizeLine) : (csT tab (n + 1)).C 0 [.v k (.str z)] = some (.val (.bl (nameOk z)), [.v k (.str z)]) := by
  rw [call_eq (T := tab) (f := 0) rfl rfl]
  show (evB (csT tab n) [false] cs_is_name [some (.v k (.str z)), none]).bind _ = _
  have hz' : z.cps.size ≤ sizeLine := hz
  by_cases h1 : 1 ≤ z.length
  · have g1 : (1 : Int) ≤ (z.length : Int) := by omega
    by_cases h2 : z.length ≤ 12
    · have g2 : (z.length : Int) ≤ 12 := by omega
      have hat : atI z.cps.toList 0 = some (z.cps.getD 0 0) := by
        have h3 : 0 < z.cps.size := h1
        have : atI z.cps.toList ((0 : Nat) : Int) = some (z.cps.getD 0 0) := atI_nat (by simp [Array.getD, h3])
        exact this
      have hc : compL (compF (csT tab n) cs_is_name_e0 (.nm 1) [1] (fun t => .one (.val (.str ⟨#[z.cps.getD t 0]⟩)))) 0 z.cps.size [some (.v k (.str z)), none] [] = some ((List.range z.cps.size).map fun t => .bl (isLet (z.cps.getD t 0) || isDig (z.cps.getD t 0)), [some (.v k (.str z)), none]) := by
        refine compL_map _ fun t ht => ?_
        unfold compF cs_is_name_e0
        have l1 := in_let (k1 := true) (k2 := true) (c := z.cps.getD t 0)
        have l2 := in_dig (k1 := true) (k2 := true) (c := z.cps.getD t 0)
        cases hl : isLet (z.cps.getD t 0) with
        | true => k_whileD _ _ _ "ev"
        | false => k_whileD _ _ _ "ev"
      have hb : blsOf ((List.range z.cps.size).map fun t => D.bl (isLet (z.cps.getD t 0) || isDig (z.cps.getD t 0))) = some ((List.range z.cps.size).map fun t => isLet (z.cps.getD t 0) || isDig (z.cps.getD t 0)) := by
        rw [← blsOf_map, List.map_map]; rfl
      have ha := all_cps (z := z) fun c => isLet c || isDig c
      have l1 := in_let (k1 := true) (k2 := true) (c := z.cps.getD 0 0)
      have hn : nameOk z = (isLet (z.cps.getD 0 0) && z.cps.toList.all fun c => isLet c || isDig c) := by
        unfold nameOk; rw [decide_eq_true h1, decide_eq_true h2]; rfl
      rw [hn]
      clear hn
      unfold cs_is_name
      cases hl : isLet (z.cps.getD 0 0) with
      | true => k_whileD _ _ _ "ev"
      | false => k_whileD _ _ _ "ev"
    · have g2 : ¬ (z.length : Int) ≤ 12 := by omega
      have hn : nameOk z = false := by unfold nameOk; rw [decide_eq_false h2]; simp
      rw [hn]
      unfold cs_is_name
      k_whileD _ _ _ "ev"
  · have g1 : ¬ (1 : Int) ≤ (z.length : Int) := by omega
    have hn : nameOk z = false := by unfold nameOk; rw [decide_eq_false h1]; simp
    rw [hn]
    unfold cs_is_name
    k_whileD _ _ _ "ev"
end K09
namespace K09
open PySem L2 DL RL PyProof.Rows
local macro_rules | `(tactic| k_whileD _ _ _ "ev") => `(tactic| simp only [*, is_non_list, is_non_tuple, is_non_bool, is_non_str, is_non_int, is_non_dict, pl_non, isn_non, is_bl_list, is_bl_tuple, is_bl_bool, is_bl_str, is_bl_int, is_bl_dict, pl_bl, isn_bl, is_int_list, is_int_tuple, is_int_bool, is_int_str, is_int_int, is_int_dict, pl_int, isn_int, is_str_list, is_str_tuple, is_str_bool, is_str_str, is_str_int, is_str_dict, pl_str, isn_str, is_lst_list, is_lst_tuple, is_lst_bool, is_lst_str, is_lst_int, is_lst_dict, pl_lst, isn_lst, is_tup_list, is_tup_tuple, is_tup_bool, is_tup_str, is_tup_int, is_tup_dict, pl_tup, isn_tup, is_dk_list, is_dk_tuple, is_dk_bool, is_dk_str, is_dk_int, is_dk_dict, pl_dk, isn_dk, qv_atN, qv_atL, qv_ixLit, qv_mulL, qv_fdivL, qv_modL, qv_powL, Nat.reduceLT, Nat.reduceLeDiff, Nat.reduceAdd, Nat.zero_add, Nat.add_zero, Int.reduceLT, Int.reduceLE, Int.reducePow, Int.reduceToNat, Int.reduceEq, Int.reduceNeg, Int.reduceAdd, Int.reduceSub, Int.reduceMul, and_self, and_true, true_and, eq_self, not_true_eq_false, not_false_eq_true,
  ob_o, ob_v, ob_n, ob_s, fr_nil, fr_0, fr_s, nt_t, nt_f, iv_cst, iv_bin, iv_neg, iv_no, iv_one, iv_conj, iv_disj, iv_cmp, iv_ite, iv_idx, iv_sl, iv_lst, iv_tup, iv_fn, iv_isi, iv_call, iv_app, iv_ext, iv_pop, iv_rev, iv_count, iv_join, iv_comp, iv_compI, iv_comp2, iv_dk0, bf_int, bf_str, bf_list, bf_tuple, bf_sum, bf_all, bf_any, bf_sorted, bf_lenSet, chk_true,
  b_nil, b_seq, b_set, b_setIx, b_set2, b_expr, b_ret, b_retN, b_ife, b_for, b_pass, b_brk, b_cont, qv_nx, qv_ct, qv_bk, qv_ret, m_own, m_var, m_any,
  e_cst, e_var, e_bin, e_neg, e_no, e_one, e_conj, e_disj, e_cmp, e_ite, e_idxO, e_idxV, e_idx, e_sl, e_lst, e_tup, e_lenO, e_fnV, e_fnL, e_fn, e_isi, e_call, e_app, e_ext, e_pop, e_rev, e_count, e_join, e_comp, e_compI, e_comp2, e_dk0, f_range,
  t_no, t_one, t_conj, t_disj, t_cmp, t_chain, t_varB, t_fn, t_isi, t_call, o_nil, o_one, a_nil, a_cons, a_star, s_nil, s_own, s_var, s_cons, w_range, w_zip, w_enum, w_one,
  Option.bind_some, Option.bind_none, Option.map_some, List.getElem?_cons_zero, List.getElem?_cons_succ, List.set_cons_zero, List.set_cons_succ, chk_pos, List.length_cons, List.length_nil, List.length_map, List.all_cons, List.all_nil, Bool.and_true, Bool.true_and, Bool.false_and, Bool.and_false, Bool.and_self, Bool.not_false, Bool.not_true,
  qv_int, qv_bl, qv_str, qv_toT, qv_toO, qv_toI, qv_toS, qv_toB, qv_toN, qv_fixV, qv_fixO, qv_datV, qv_datO, qv_add, qv_addI, qv_addS, qv_addL, qv_sub, qv_mulC, qv_fdivC, qv_modC, qv_powC, qv_in, qv_nin, qv_is, qv_isnt, qv_eq, qv_ne, qv_eqI, qv_eqS, qv_eqB, qv_lt, qv_le, qv_gt, qv_ge, qv_dle, qv_inS, qv_inL, qv_inT,
  qv_ixL, qv_ixT, qv_ixS, qv_lenL, qv_lenT, qv_lenO, qv_lenS, qv_itO, qv_itL, qv_itT, qv_itL', qv_itT', qv_sqO, qv_sqL, qv_sqT, qv_lsO, qv_lsV, qv_lkO, qv_lkT, qv_lkS, qv_len, qv_intf, qv_strf, qv_list, qv_tupleT, qv_tupleL, qv_tupleO, qv_sum, qv_all, qv_any, qv_sorted, qv_lenSet, qv_slS, qv_slL, qv_slO, qv_wkO, qv_wkL, qv_wkT, qv_wkS, qv_getO0, qv_getOS, qv_varV, qv_varO,
  qv_nvT, qv_nvI, qv_nvS, qv_nvB, qv_nvN, qv_nvO, qv_argV, qv_argO, qv_atp, qv_ixp, qv_isi1, qv_isi2, qv_call, qv_aNil, qv_aCons, qv_aEx, qv_aOwn, qv_aBor, qv_backV, qv_backO, qv_backB, qv_backN, if_true, if_false, Bool.false_eq_true, reduceIte, decide_true, decide_false, Bool.or_true, Bool.true_or, Bool.or_false, Bool.false_or, sc_non, sc_bl, sc_int, sc_str, sc_lst, sc_tup, sc_dk,
  mk_sv, kp_sv, bk_sv, no_sv, x_ext, wp_nil, wp_cons, mk_nil, mk_o, mk_v, mk_n, mg_nil, mg_cons, mg_t, mg_f, kp_v, kp_n, kp_o, bk_same, bk_o, bk_t, bk_f, bk_n, by_nm, by_two, no_nil, no_o, no_v, no_n, rb_v, rb_o, os_nil, os_o, os_v, fin_ret, fin_nx, List.contains_cons, List.contains_nil, Nat.reduceBEq, Nat.reduceEqDiff, List.nodup_cons, List.nodup_nil, varsOf, List.not_mem_nil, List.mem_cons, List.mem_singleton, or_false, false_or, or_true, true_or, decide_eq_true_eq, Tgt.ix, isOwn, List.map_cons, List.map_nil, List.cons_append, List.nil_append])
def seqOf : D → Option (List D)
  | .lst ds => some ds
  | .tup ds => some ds
  | _ => none
structure ItOk (y : D) : Prop where
  pl : plainD y = true
  sh : ∀ z, y = .str z → z.length ≤ sizeLine
structure RowOk (x : D) : Prop where
  pl : plainD x = true
  it : ∀ ys, seqOf x = some ys → ys.length + 1 < scanBound ∧ ∀ y ∈ ys, ItOk y
structure WishOk (d : D) : Prop where
  pl : plainD d = true
  it : ∀ ds, seqOf d = some ds → ds.length ≤ sizeLine ∧ ∀ x ∈ ds, RowOk x
theorem name_specD {n : Nat} {k : Bool} {d : D} (h : ItOk d) : (csT tab (n + 1)).C 0 [.v k d] = some (Slot.val (.bl (isNameD d)), [.v k d]) := by
  cases hd : d with
  | str z => exact name_spec (h.sh z hd)
  | ty _ => have := h.pl; rw [hd] at this; cases this
  | ins _ _ _ => have := h.pl; rw [hd] at this; cases this
  | _ =>
    clear h hd
    rw [call_eq (T := tab) (f := 0) rfl rfl]
    show (evB (csT tab n) [false] cs_is_name [some (.v k _), none]).bind _ = some (Slot.val (.bl false), _)
    unfold cs_is_name
    k_whileD _ _ _ "ev"
theorem form_specD {n : Nat} {k : Bool} {d : D} (h : ItOk d) : (csT tab (n + 1)).C 11 [.v k d] = some (Slot.val (.bl (isNameD d)), [.v k d]) := by
  rw [call_eq (T := tab) (f := 11) rfl rfl]
  show (evB (csT tab n) [false] cs__law_name_form [some (.v k _), none]).bind _ = some (Slot.val (.bl _), _)
  cases hd : d with
  | ty _ => have := h.pl; rw [hd] at this; cases this
  | ins _ _ _ => have := h.pl; rw [hd] at this; cases this
  | str z =>
    have hz := h.sh z hd
    have hz' : z.cps.size ≤ sizeLine := hz
    clear h hd
    show _ = some (Slot.val (.bl (nameOk z)), _)
    by_cases h0 : z = ""
    · have hn : nameOk z = false := by subst h0; decide +kernel
      rw [hn]
      unfold cs__law_name_form
      k_whileD _ _ _ "ev"
    · by_cases h2 : 12 < z.length
      · have g2 : (12 : Int) < (z.length : Int) := by omega
        have hn : nameOk z = false := by unfold nameOk; rw [decide_eq_false (p := z.length ≤ 12) (by omega)]; simp
        rw [hn]
        unfold cs__law_name_form
        k_whileD _ _ _ "ev"
      · have g2 : ¬ (12 : Int) < (z.length : Int) := by omega
        have h3 : 0 < z.cps.size := by
          rcases Nat.eq_zero_or_pos z.cps.size with q | q
          · exfalso
            apply h0
            obtain ⟨a⟩ := z
            have : a = #[] := Array.eq_empty_of_size_eq_zero q
            subst this; rfl
          · exact q
        have h1 : 1 ≤ z.length := h3
        have hat : atI z.cps.toList 0 = some (z.cps.getD 0 0) := by
          have : atI z.cps.toList ((0 : Nat) : Int) = some (z.cps.getD 0 0) := atI_nat (by simp [Array.getD, h3])
          exact this
        have l1 := in_let (k1 := true) (k2 := true) (c := z.cps.getD 0 0)
        have hc : compL (compF (csT tab n) cs__law_name_form_e0 (.nm 1) [1] (fun t => .one (.val (.str ⟨#[z.cps.getD t 0]⟩)))) 0 z.cps.size [some (.v k (.str z)), none] [] = some ((List.range z.cps.size).map fun t => .bl (isLet (z.cps.getD t 0) || isDig (z.cps.getD t 0)), [some (.v k (.str z)), none]) := by
          refine compL_map _ fun t ht => ?_
          unfold compF cs__law_name_form_e0
          have l1 := in_62 (k1 := true) (k2 := true) (c := z.cps.getD t 0)
          k_whileD _ _ _ "ev"
        have hb : blsOf ((List.range z.cps.size).map fun t => D.bl (isLet (z.cps.getD t 0) || isDig (z.cps.getD t 0))) = some ((List.range z.cps.size).map fun t => isLet (z.cps.getD t 0) || isDig (z.cps.getD t 0)) := by
          rw [← blsOf_map, List.map_map]; rfl
        have ha := all_cps (z := z) fun c => isLet c || isDig c
        have hn : nameOk z = (isLet (z.cps.getD 0 0) && z.cps.toList.all fun c => isLet c || isDig c) := by
          unfold nameOk; rw [decide_eq_true h1, decide_eq_true (p := z.length ≤ 12) (by omega)]; rfl
        rw [hn]
        clear hn
        unfold cs__law_name_form
        cases hl : isLet (z.cps.getD 0 0) with
        | true => k_whileD _ _ _ "ev"
        | false => k_whileD _ _ _ "ev"
  | _ =>
    clear h hd
    show _ = some (Slot.val (.bl false), _)
    unfold cs__law_name_form
    k_whileD _ _ _ "ev"
theorem listing_spec {n : Nat} {k : Bool} {d : D} (h : plainD d = true) : (csT tab (n + 1)).C 1 [.v k d] = some (Slot.val (.bl (seqOf d).isSome), [.v k d]) := by
  rw [call_eq (T := tab) (f := 1) rfl rfl]
  show (evB (csT tab n) [false] cs_is_listing [some (.v k _)]).bind _ = _
  unfold cs_is_listing
  cases d with
  | ty _ => cases h
  | ins _ _ _ => cases h
  | _ => 
    clear h
    show _ = some (Slot.val (.bl _), _)
    first
      | (show _ = some (Slot.val (.bl true), _); k_whileD _ _ _ "ev"; done)
      | (show _ = some (Slot.val (.bl false), _); k_whileD _ _ _ "ev"; done)
theorem nodup_key {zs : List Str} : ((zs.map (Sum.inr : Str → Key))).Nodup ↔ zs.Nodup := by
  unfold List.Nodup
  rw [List.pairwise_map]
  constructor
  · exact List.Pairwise.imp fun h e => h (by rw [e])
  · exact List.Pairwise.imp fun h e => h (Sum.inr.inj e)
theorem double_spec {n : Nat} {k : Bool} {d : D} {zs : List Str} (h : seqOf d = some (zs.map .str)) (hz : zs.length + 1 < scanBound) : (csT tab (n + 1)).C 2 [.v k d] = some (Slot.val (.bl (!decide zs.Nodup)), [.v k d]) := by
  rw [call_eq (T := tab) (f := 2) rfl rfl]
  show (evB (csT tab n) [false] cs_has_double [some (.v k _)]).bind _ = _
  unfold cs_has_double
  have hk := keysOf_map zs
  have hr : decide (((metK (zs.map (Sum.inr : Str → Key))).length : Int) < (zs.length : Int)) = !decide zs.Nodup := by
    have h1 := metK_le (zs.map (Sum.inr : Str → Key))
    have h2 := metK_nodup (zs.map (Sum.inr : Str → Key))
    rw [List.length_map] at h1 h2
    by_cases hn : zs.Nodup
    · rw [decide_eq_true hn, decide_eq_false]; rfl
      rw [h2.mpr (nodup_key.mpr hn)]; omega
    · rw [decide_eq_false hn, decide_eq_true]; rfl
      have : (metK (zs.map (Sum.inr : Str → Key))).length ≠ zs.length := fun q => hn (nodup_key.mp (h2.mp q))
      omega
  cases d with
  | lst ds =>
    injection h with h; subst h
    k_whileD _ _ _ "ev"
  | tup ds =>
    injection h with h; subst h
    k_whileD _ _ _ "ev"
  | _ => cases h
end K09
namespace K09
open PySem L2 DL RL PyProof.Rows
local macro_rules | `(tactic| k_whileD _ _ _ "ev") => `(tactic| simp only [*, is_non_list, is_non_tuple, is_non_bool, is_non_str, is_non_int, is_non_dict, pl_non, isn_non, is_bl_list, is_bl_tuple, is_bl_bool, is_bl_str, is_bl_int, is_bl_dict, pl_bl, isn_bl, is_int_list, is_int_tuple, is_int_bool, is_int_str, is_int_int, is_int_dict, pl_int, isn_int, is_str_list, is_str_tuple, is_str_bool, is_str_str, is_str_int, is_str_dict, pl_str, isn_str, is_lst_list, is_lst_tuple, is_lst_bool, is_lst_str, is_lst_int, is_lst_dict, pl_lst, isn_lst, is_tup_list, is_tup_tuple, is_tup_bool, is_tup_str, is_tup_int, is_tup_dict, pl_tup, isn_tup, is_dk_list, is_dk_tuple, is_dk_bool, is_dk_str, is_dk_int, is_dk_dict, pl_dk, isn_dk, qv_atN, qv_atL, qv_ixLit, qv_mulL, qv_fdivL, qv_modL, qv_powL, Nat.reduceLT, Nat.reduceLeDiff, Nat.reduceAdd, Nat.zero_add, Nat.add_zero, Int.reduceLT, Int.reduceLE, Int.reducePow, Int.reduceToNat, Int.reduceEq, Int.reduceNeg, Int.reduceAdd, Int.reduceSub, Int.reduceMul, and_self, and_true, true_and, eq_self, not_true_eq_false, not_false_eq_true,
  ob_o, ob_v, ob_n, ob_s, fr_nil, fr_0, fr_s, nt_t, nt_f, iv_cst, iv_bin, iv_neg, iv_no, iv_one, iv_conj, iv_disj, iv_cmp, iv_ite, iv_idx, iv_sl, iv_lst, iv_tup, iv_fn, iv_isi, iv_call, iv_app, iv_ext, iv_pop, iv_rev, iv_count, iv_join, iv_comp, iv_compI, iv_comp2, iv_dk0, bf_int, bf_str, bf_list, bf_tuple, bf_sum, bf_all, bf_any, bf_sorted, bf_lenSet, chk_true,
  b_nil, b_seq, b_set, b_setIx, b_set2, b_expr, b_ret, b_retN, b_ife, b_for, b_pass, b_brk, b_cont, qv_nx, qv_ct, qv_bk, qv_ret, m_own, m_var, m_any,
  e_cst, e_var, e_bin, e_neg, e_no, e_one, e_conj, e_disj, e_cmp, e_ite, e_idxO, e_idxV, e_idx, e_sl, e_lst, e_tup, e_lenO, e_fnV, e_fnL, e_fn, e_isi, e_call, e_app, e_ext, e_pop, e_rev, e_count, e_join, e_comp, e_compI, e_comp2, e_dk0, f_range,
  t_no, t_one, t_conj, t_disj, t_cmp, t_chain, t_varB, t_fn, t_isi, t_call, o_nil, o_one, a_nil, a_cons, a_star, s_nil, s_own, s_var, s_cons, w_range, w_zip, w_enum, w_one,
  Option.bind_some, Option.bind_none, Option.map_some, List.getElem?_cons_zero, List.getElem?_cons_succ, List.set_cons_zero, List.set_cons_succ, chk_pos, List.length_cons, List.length_nil, List.length_map, List.all_cons, List.all_nil, Bool.and_true, Bool.true_and, Bool.false_and, Bool.and_false, Bool.and_self, Bool.not_false, Bool.not_true,
  qv_int, qv_bl, qv_str, qv_toT, qv_toO, qv_toI, qv_toS, qv_toB, qv_toN, qv_fixV, qv_fixO, qv_datV, qv_datO, qv_add, qv_addI, qv_addS, qv_addL, qv_sub, qv_mulC, qv_fdivC, qv_modC, qv_powC, qv_in, qv_nin, qv_is, qv_isnt, qv_eq, qv_ne, qv_eqI, qv_eqS, qv_eqB, qv_lt, qv_le, qv_gt, qv_ge, qv_dle, qv_inS, qv_inL, qv_inT,
  qv_ixL, qv_ixT, qv_ixS, qv_lenL, qv_lenT, qv_lenO, qv_lenS, qv_itO, qv_itL, qv_itT, qv_itL', qv_itT', qv_sqO, qv_sqL, qv_sqT, qv_lsO, qv_lsV, qv_lkO, qv_lkT, qv_lkS, qv_len, qv_intf, qv_strf, qv_list, qv_tupleT, qv_tupleL, qv_tupleO, qv_sum, qv_all, qv_any, qv_sorted, qv_lenSet, qv_slS, qv_slL, qv_slO, qv_wkO, qv_wkL, qv_wkT, qv_wkS, qv_getO0, qv_getOS, qv_varV, qv_varO,
  qv_nvT, qv_nvI, qv_nvS, qv_nvB, qv_nvN, qv_nvO, qv_argV, qv_argO, qv_atp, qv_ixp, qv_isi1, qv_isi2, qv_call, qv_aNil, qv_aCons, qv_aEx, qv_aOwn, qv_aBor, qv_backV, qv_backO, qv_backB, qv_backN, if_true, if_false, Bool.false_eq_true, reduceIte, decide_true, decide_false, Bool.or_true, Bool.true_or, Bool.or_false, Bool.false_or, sc_non, sc_bl, sc_int, sc_str, sc_lst, sc_tup, sc_dk,
  mk_sv, kp_sv, bk_sv, no_sv, x_ext, wp_nil, wp_cons, mk_nil, mk_o, mk_v, mk_n, mg_nil, mg_cons, mg_t, mg_f, kp_v, kp_n, kp_o, bk_same, bk_o, bk_t, bk_f, bk_n, by_nm, by_two, no_nil, no_o, no_v, no_n, rb_v, rb_o, os_nil, os_o, os_v, fin_ret, fin_nx, List.contains_cons, List.contains_nil, Nat.reduceBEq, Nat.reduceEqDiff, List.nodup_cons, List.nodup_nil, varsOf, List.not_mem_nil, List.mem_cons, List.mem_singleton, or_false, false_or, or_true, true_or, decide_eq_true_eq, Tgt.ix, isOwn, List.map_cons, List.map_nil, List.cons_append, List.nil_append])
def badRow (x : D) : Bool := match seqOf x with
  | none => true
  | some ys => !(ys.all isNameD) || !decide ((strsOf ys).getD []).Nodup
def faultD (d : D) : D := match seqOf d with
  | none => .int (-1)
  | some ds => if ds.length = 0 then .int (-1) else match ds.findIdx? badRow with
    | some t => .int (t : Nat)
    | none => .non
theorem names_strs : ∀ {ys : List D}, ys.all isNameD = true → ∃ zs : List Str, ys = zs.map .str
  | [], _ => ⟨[], rfl⟩
  | y :: ys, h => by
    rw [List.all_cons, Bool.and_eq_true] at h
    obtain ⟨zs, hz⟩ := names_strs h.2
    cases y <;> first | (cases h.1; done) | skip
    rename_i z
    exact ⟨z :: zs, by rw [hz]; rfl⟩
theorem find_at {ds : List D} {p : D → Bool} {t : Nat} {x : D} (hx : ds[t]? = some x) (hb : p x = true) (hg : ∀ y ∈ ds.take t, p y = false) : ds.findIdx? p = some t := by
  rw [List.findIdx?_eq_some_iff_getElem]
  obtain ⟨h1, h2⟩ := List.getElem?_eq_some_iff.mp hx
  refine ⟨h1, by rw [h2]; exact hb, fun j hj => ?_⟩
  have : ds[j]'(by omega) ∈ ds.take t := by
    rw [List.mem_take_iff_getElem]
    exact ⟨j, by omega, rfl⟩
  rw [hg _ this]; exact Bool.false_ne_true
theorem find_none {ds : List D} {p : D → Bool} (hg : ∀ y ∈ ds.take ds.length, p y = false) : ds.findIdx? p = none := by
  rw [List.take_of_length_le (Nat.le_refl _)] at hg
  exact List.findIdx?_eq_none_iff.mpr hg
theorem take_snoc {ds : List D} {p : D → Bool} {t : Nat} {x : D} (hx : ds[t]? = some x) (hb : p x = false) (hg : ∀ y ∈ ds.take t, p y = false) : ∀ y ∈ ds.take (t + 1), p y = false := fun y hy => by
  rw [List.take_add_one, hx] at hy
  rcases List.mem_append.mp hy with hy | hy
  · exact hg y hy
  · have : y = x := by simpa using hy
    rw [this]; exact hb
/-- all([f(y) for y in ys]) for a def that tells names -/
theorem names_loop {c : Cs} {e : CE} {i : Nat} {vs : List Nat} {it : Nat → Yld} {ys : List D} {ρ : DL.Env} (h : ∀ t y, ys[t]? = some y → compF c e (.nm i) vs it t ρ = some (some (.bl (isNameD y)), ρ)) : compL (compF c e (.nm i) vs it) 0 ys.length ρ [] = some (ys.map (fun y => .bl (isNameD y)), ρ) := compL_list _ h
theorem bls_names (ys : List D) : blsOf (ys.map fun y => D.bl (isNameD y)) = some (ys.map isNameD) := by
  rw [← blsOf_map, List.map_map]; rfl
theorem all_names (ys : List D) : (ys.map isNameD).all id = ys.all isNameD := by rw [List.all_map]; rfl
theorem getD_of {ys : List D} {t : Nat} {y : D} (h : ys[t]? = some y) : ys.getD t .non = y := by rw [List.getD_eq_getElem?_getD, h]; rfl
/-- one row of wishes_fault -/
theorem fault_row {n : Nat} {k k0 : Bool} {D0 x : D} {t : Int} {a : Option Slot} (hx : RowOk x) :
    ∃ ρ', evB (csT tab (n + 1)) [false] cs_wishes_fault_f0 [some (.v k0 D0), some (.val (.int t)), some (.v k x), none] = some (if badRow x then .ret (.val (.int t)) ρ' else .nx [some (.v k0 D0), some (.val (.int t)), some (.v k x), none]) := by
  have m0 : (csT tab (n + 1)).M 0 = [false] := cs_M (T := tab) (f := 0) rfl
  have m1 : (csT tab (n + 1)).M 1 = [false] := cs_M (T := tab) (f := 1) rfl
  have m2 : (csT tab (n + 1)).M 2 = [false] := cs_M (T := tab) (f := 2) rfl
  have l1 := listing_spec (n := n) (k := k || isSc x) hx.pl
  cases hq : seqOf x with
  | none =>
    have hb : badRow x = true := by unfold badRow; rw [hq]
    rw [hq] at l1
    replace l1 : (csT tab (n + 1)).C 1 [.v (k || isSc x) x] = some (.val (.bl false), [.v (k || isSc x) x]) := l1
    refine ⟨[some (.v k0 D0), some (.val (.int t)), some (.v k x), none], ?_⟩
    rw [hb]
    clear hb hq hx
    unfold cs_wishes_fault_f0
    k_whileD _ _ _ "ev"
  | some ys =>
    rw [hq] at l1
    replace l1 : (csT tab (n + 1)).C 1 [.v (k || isSc x) x] = some (.val (.bl true), [.v (k || isSc x) x]) := l1
    obtain ⟨hl, hy⟩ := hx.it ys hq
    have hsz : ys.length ≤ sizeLine := by
      have : scanBound = 4096 := rfl
      have := sizeLine_eq
      omega
    have w1 : ∀ (ρ : DL.Env) (v : Option Slot), evW (csT tab (n + 1)) [false] (.one (.var 2)) [some (.v k0 D0), some (.val (.int t)), some (.v k x), v] = some (⟨ys.length, fun t => .one (.v k (ys.getD t .non))⟩, [some (.v k0 D0), some (.val (.int t)), some (.v k x), v]) := fun ρ v => by
      cases x <;> first | (cases hq; done) | (injection hq with hq; subst hq; clear l1 hx hy hl hsz; k_whileD _ _ _ "ev"; done)
    have hc : compL (compF (csT tab (n + 1)) cs_wishes_fault_e0 (.nm 3) [3] (fun t => .one (.v k (ys.getD t .non)))) 0 ys.length [some (.v k0 D0), some (.val (.int t)), some (.v k x), none] [] = some (ys.map (fun y => .bl (isNameD y)), [some (.v k0 D0), some (.val (.int t)), some (.v k x), none]) := by
      refine names_loop fun t' y h => ?_
      have n1 := name_specD (n := n) (k := k || isSc y) (hy y (List.mem_of_getElem? h))
      unfold compF cs_wishes_fault_e0
      dsimp only
      rw [getD_of h]
      clear h hy hl hsz hx hq w1 l1
      k_whileD _ _ _ "ev"
    have w1 := w1 [] none
    have b1 := bls_names ys
    have b2 := all_names ys
    have hbr : badRow x = (!(ys.all isNameD) || !decide ((strsOf ys).getD []).Nodup) := by unfold badRow; rw [hq]
    cases ha : ys.all isNameD with
    | false =>
      refine ⟨[some (.v k0 D0), some (.val (.int t)), some (.v k x), none], ?_⟩
      rw [hbr, ha]
      clear hbr hq hx hy hl
      unfold cs_wishes_fault_f0
      k_whileD _ _ _ "ev"
    | true =>
      obtain ⟨zs, hzs⟩ := names_strs ha
      have d1 := double_spec (n := n) (k := k || isSc x) (zs := zs) (by rw [hq, hzs]) (by rw [hzs, List.length_map] at hl; exact hl)
      refine ⟨[some (.v k0 D0), some (.val (.int t)), some (.v k x), none], ?_⟩
      rw [hbr, ha, show strsOf ys = some zs by rw [hzs, strsOf_map]]
      clear hbr hq hx hy hl hzs
      show _ = some (if (!true || !decide zs.Nodup) = true then _ else _)
      unfold cs_wishes_fault_f0
      by_cases hn : zs.Nodup
      · rw [decide_eq_true hn] at d1 ⊢
        k_whileD _ _ _ "ev"
      · rw [decide_eq_false hn] at d1 ⊢
        k_whileD _ _ _ "ev"
theorem fault_spec {n : Nat} {k : Bool} {d : D} (hd : WishOk d) : (csT tab (n + 2)).C 4 [.v k d] = some (.val (faultD d), [.v k d]) := by
  rw [call_eq (T := tab) (f := 4) rfl rfl]
  show (evB (csT tab (n + 1)) [false] cs_wishes_fault [some (.v k _), none, none, none]).bind _ = _
  have m1 : (csT tab (n + 1)).M 1 = [false] := cs_M (T := tab) (f := 1) rfl
  have l1 := listing_spec (n := n) (k := k || isSc d) hd.pl
  cases hq : seqOf d with
  | none =>
    rw [hq] at l1
    replace l1 : (csT tab (n + 1)).C 1 [.v (k || isSc d) d] = some (.val (.bl false), [.v (k || isSc d) d]) := l1
    have hf : faultD d = .int (-1) := by unfold faultD; rw [hq]
    rw [hf]
    clear hf hq hd
    unfold cs_wishes_fault
    k_whileD _ _ _ "ev"
  | some ds =>
    rw [hq] at l1
    replace l1 : (csT tab (n + 1)).C 1 [.v (k || isSc d) d] = some (.val (.bl true), [.v (k || isSc d) d]) := l1
    obtain ⟨hl, hx⟩ := hd.it ds hq
    have g1 : lenS (.v k d) = some ds.length := by cases d <;> first | (cases hq; done) | (injection hq with hq; subst hq; rfl)
    have g2 : seqS (.v k d) = some (k, ds) := by cases d <;> first | (cases hq; done) | (injection hq with hq; subst hq; rfl)
    have hf : faultD d = if ds.length = 0 then .int (-1) else match ds.findIdx? badRow with
      | some t => .int (t : Nat)
      | none => .non := by unfold faultD; rw [hq]
    rw [hf]
    clear hf hq
    by_cases h0 : ds.length = 0
    · rw [if_pos h0]
      have h0' : ((ds.length : Nat) : Int) = 0 := by omega
      clear hx hd hl h0
      unfold cs_wishes_fault
      k_whileD _ _ _ "ev"
    · rw [if_neg h0]
      have h0' : ¬ ((ds.length : Nat) : Int) = 0 := by omega
      rcases forL_ret (f := forF (csT tab (n + 1)) [false] (.tp [1, 2]) (fun t => .two true (.int (t : Int)) k (ds.getD t .non)) cs_wishes_fault_f0)
        (fun t ρ => (∀ y ∈ ds.take t, badRow y = false) ∧ ∃ a b, ρ = [some (.v k d), a, b, none]) (fun v ρ => ∃ t : Nat, ds.findIdx? badRow = some t ∧ v = .val (.int t)) (m := ds.length) (s := 0) (ρ := [some (.v k d), none, none, none]) ⟨by simp, none, none, rfl⟩ (fun t ρ _ ht hj => by
          obtain ⟨hg, a, b, rfl⟩ := hj
          have hxt : ds[t]? = some ds[t] := List.getElem?_eq_getElem (by omega)
          obtain ⟨ρ', hr⟩ := fault_row (n := n) (k := k) (k0 := k) (D0 := d) (t := (t : Int)) (a := none) (hx _ (List.mem_of_getElem? hxt))
          have he : forF (csT tab (n + 1)) [false] (.tp [1, 2]) (fun t => .two true (.int (t : Int)) k (ds.getD t .non)) cs_wishes_fault_f0 t [some (.v k d), a, b, none] = evB (csT tab (n + 1)) [false] cs_wishes_fault_f0 [some (.v k d), some (.val (.int t)), some (.v k ds[t]), none] := by
            unfold forF
            dsimp only
            rw [getD_of hxt]; rfl
          rw [he, hr]
          cases hb : badRow ds[t] with
          | true => exact .inr ⟨_, _, rfl, t, find_at hxt hb hg, rfl⟩
          | false => exact .inl ⟨_, rfl, take_snoc hxt hb hg, _, _, rfl⟩) with ⟨ρ', h1, h2, a, b, rfl⟩ | ⟨v, ρ', h1, t, h2, rfl⟩
      · rw [find_none (by rw [Nat.zero_add] at h2; exact h2)]
        clear h2 hx hd hl
        unfold cs_wishes_fault
        k_whileD _ _ _ "ev"
      · rw [h2]
        clear h2 hx hd hl
        unfold cs_wishes_fault
        k_whileD _ _ _ "ev"
end K09
namespace K09
open PySem L2 DL RL PyProof.Rows
local macro_rules | `(tactic| k_whileD _ _ _ "ev") => `(tactic| simp only [*, is_non_list, is_non_tuple, is_non_bool, is_non_str, is_non_int, is_non_dict, pl_non, isn_non, is_bl_list, is_bl_tuple, is_bl_bool, is_bl_str, is_bl_int, is_bl_dict, pl_bl, isn_bl, is_int_list, is_int_tuple, is_int_bool, is_int_str, is_int_int, is_int_dict, pl_int, isn_int, is_str_list, is_str_tuple, is_str_bool, is_str_str, is_str_int, is_str_dict, pl_str, isn_str, is_lst_list, is_lst_tuple, is_lst_bool, is_lst_str, is_lst_int, is_lst_dict, pl_lst, isn_lst, is_tup_list, is_tup_tuple, is_tup_bool, is_tup_str, is_tup_int, is_tup_dict, pl_tup, isn_tup, is_dk_list, is_dk_tuple, is_dk_bool, is_dk_str, is_dk_int, is_dk_dict, pl_dk, isn_dk, qv_atN, qv_atL, qv_ixLit, qv_mulL, qv_fdivL, qv_modL, qv_powL, Nat.reduceLT, Nat.reduceLeDiff, Nat.reduceAdd, Nat.zero_add, Nat.add_zero, Int.reduceLT, Int.reduceLE, Int.reducePow, Int.reduceToNat, Int.reduceEq, Int.reduceNeg, Int.reduceAdd, Int.reduceSub, Int.reduceMul, and_self, and_true, true_and, eq_self, not_true_eq_false, not_false_eq_true,
  ob_o, ob_v, ob_n, ob_s, fr_nil, fr_0, fr_s, nt_t, nt_f, iv_cst, iv_bin, iv_neg, iv_no, iv_one, iv_conj, iv_disj, iv_cmp, iv_ite, iv_idx, iv_sl, iv_lst, iv_tup, iv_fn, iv_isi, iv_call, iv_app, iv_ext, iv_pop, iv_rev, iv_count, iv_join, iv_comp, iv_compI, iv_comp2, iv_dk0, bf_int, bf_str, bf_list, bf_tuple, bf_sum, bf_all, bf_any, bf_sorted, bf_lenSet, chk_true,
  b_nil, b_seq, b_set, b_setIx, b_set2, b_expr, b_ret, b_retN, b_ife, b_for, b_pass, b_brk, b_cont, qv_nx, qv_ct, qv_bk, qv_ret, m_own, m_var, m_any,
  e_cst, e_var, e_bin, e_neg, e_no, e_one, e_conj, e_disj, e_cmp, e_ite, e_idxO, e_idxV, e_idx, e_sl, e_lst, e_tup, e_lenO, e_fnV, e_fnL, e_fn, e_isi, e_call, e_app, e_ext, e_pop, e_rev, e_count, e_join, e_comp, e_compI, e_comp2, e_dk0, f_range,
  t_no, t_one, t_conj, t_disj, t_cmp, t_chain, t_varB, t_fn, t_isi, t_call, o_nil, o_one, a_nil, a_cons, a_star, s_nil, s_own, s_var, s_cons, w_range, w_zip, w_enum, w_one,
  Option.bind_some, Option.bind_none, Option.map_some, List.getElem?_cons_zero, List.getElem?_cons_succ, List.set_cons_zero, List.set_cons_succ, chk_pos, List.length_cons, List.length_nil, List.length_map, List.all_cons, List.all_nil, Bool.and_true, Bool.true_and, Bool.false_and, Bool.and_false, Bool.and_self, Bool.not_false, Bool.not_true,
  qv_int, qv_bl, qv_str, qv_toT, qv_toO, qv_toI, qv_toS, qv_toB, qv_toN, qv_fixV, qv_fixO, qv_datV, qv_datO, qv_add, qv_addI, qv_addS, qv_addL, qv_sub, qv_mulC, qv_fdivC, qv_modC, qv_powC, qv_in, qv_nin, qv_is, qv_isnt, qv_eq, qv_ne, qv_eqI, qv_eqS, qv_eqB, qv_lt, qv_le, qv_gt, qv_ge, qv_dle, qv_inS, qv_inL, qv_inT,
  qv_ixL, qv_ixT, qv_ixS, qv_lenL, qv_lenT, qv_lenO, qv_lenS, qv_itO, qv_itL, qv_itT, qv_itL', qv_itT', qv_sqO, qv_sqL, qv_sqT, qv_lsO, qv_lsV, qv_lkO, qv_lkT, qv_lkS, qv_len, qv_intf, qv_strf, qv_list, qv_tupleT, qv_tupleL, qv_tupleO, qv_sum, qv_all, qv_any, qv_sorted, qv_lenSet, qv_slS, qv_slL, qv_slO, qv_wkO, qv_wkL, qv_wkT, qv_wkS, qv_getO0, qv_getOS, qv_varV, qv_varO,
  qv_nvT, qv_nvI, qv_nvS, qv_nvB, qv_nvN, qv_nvO, qv_argV, qv_argO, qv_atp, qv_ixp, qv_isi1, qv_isi2, qv_call, qv_aNil, qv_aCons, qv_aEx, qv_aOwn, qv_aBor, qv_backV, qv_backO, qv_backB, qv_backN, if_true, if_false, Bool.false_eq_true, reduceIte, decide_true, decide_false, Bool.or_true, Bool.true_or, Bool.or_false, Bool.false_or, sc_non, sc_bl, sc_int, sc_str, sc_lst, sc_tup, sc_dk,
  mk_sv, kp_sv, bk_sv, no_sv, x_ext, wp_nil, wp_cons, mk_nil, mk_o, mk_v, mk_n, mg_nil, mg_cons, mg_t, mg_f, kp_v, kp_n, kp_o, bk_same, bk_o, bk_t, bk_f, bk_n, by_nm, by_two, no_nil, no_o, no_v, no_n, rb_v, rb_o, os_nil, os_o, os_v, fin_ret, fin_nx, List.contains_cons, List.contains_nil, Nat.reduceBEq, Nat.reduceEqDiff, List.nodup_cons, List.nodup_nil, varsOf, List.not_mem_nil, List.mem_cons, List.mem_singleton, or_false, false_or, or_true, true_or, decide_eq_true_eq, Tgt.ix, isOwn, List.map_cons, List.map_nil, List.cons_append, List.nil_append])
/-! ### ways of wishes -/
def seqD (b : Bool) (ds : List D) : D := if b then .tup ds else .lst ds
abbrev Wish := Bool × List Str
def rowD (r : Wish) : D := seqD r.1 (r.2.map .str)
def wishD (b : Bool) (W : List Wish) : D := seqD b (W.map rowD)
def natD (ps : List Nat) : List D := ps.map fun n => .int (n : Nat)
def signAt (r : Wish) (p : Nat) : Str := if p < r.2.length then r.2.getD p "" else "-"
def wayOf (W : List Wish) (ps : List Nat) : List Str := (List.range W.length).map fun t => signAt (W.getD t (false, [])) (ps.getD t 0)
def growP (rows : List (List Nat)) (r : Wish) : List (List Nat) := rows.flatMap fun row => (List.range (r.2.length + 1)).map fun p => row ++ [p]
def allP (W : List Wish) : List (List Nat) := W.foldl growP [[]]
def placeD (rows : List (List Nat)) : List D := rows.map fun row => .tup (natD row)
theorem allP_snoc (W : List Wish) (r : Wish) : allP (W ++ [r]) = growP (allP W) r := by unfold allP; rw [List.foldl_append]; rfl
theorem take_snocW {W : List Wish} {t : Nat} {r : Wish} (h : W[t]? = some r) : allP (W.take (t + 1)) = growP (allP (W.take t)) r := by
  rw [List.take_add_one, h]
  exact allP_snoc _ _
def growG (m : Nat) : D → List D
  | .tup ds => (List.range (m + 1)).map fun (j : Nat) => .tup (ds ++ [.int (j : Nat)])
  | _ => []
theorem grow_out (rows : List (List Nat)) (r : Wish) : (placeD rows).flatMap (growG r.2.length) = placeD (growP rows r) := by
  unfold placeD growP
  rw [List.flatMap_map, List.map_flatMap]
  congr 1
  funext row
  show (List.range (r.2.length + 1)).map _ = ((List.range (r.2.length + 1)).map _).map _
  rw [List.map_map]
  congr 1
  funext j
  show D.tup (natD row ++ [.int (j : Nat)]) = D.tup (natD (row ++ [j]))
  unfold natD
  rw [List.map_append]; rfl
theorem row_len (k : Bool) (r : Wish) : lenS (.v k (rowD r)) = some r.2.length := by
  unfold rowD seqD
  cases r.1 <;> simp [lenS]
theorem row_seq (k : Bool) (r : Wish) : seqS (.v k (rowD r)) = some (k, r.2.map .str) := by
  unfold rowD seqD
  cases r.1 <;> rfl
theorem wish_seq (k b : Bool) (ds : List D) : seqS (.v k (seqD b ds)) = some (k, ds) := by cases b <;> rfl
theorem wish_wk (k b : Bool) (ds : List D) : wkS (.v k (seqD b ds)) = some ⟨ds.length, fun t => .one (.v k (ds.getD t .non))⟩ := by cases b <;> rfl
theorem getD_map {α β : Type} (f : α → β) (xs : List α) (t : Nat) (d : α) (e : β) (h : t < xs.length) : (xs.map f).getD t e = f (xs.getD t d) := by
  rw [List.getD_eq_getElem?_getD, List.getD_eq_getElem?_getD, List.getElem?_map, List.getElem?_eq_getElem h]; rfl
theorem flat_one {α β : Type} (f : α → β) (xs : List α) : (xs.flatMap fun x => [f x]) = xs.map f := by
  induction xs with
  | nil => rfl
  | cons x xs ih => rw [List.flatMap_cons, ih]; rfl
theorem grow_spec {n : Nat} {k k0 : Bool} {D0 : D} {rows : List (List Nat)} {r : Wish} {y : Option Slot} (hR : ∀ row ∈ rows, row.length + 1 ≤ sizeLine) (hz : (growP rows r).length ≤ sizeLine) (hr : r.2.length < 1000000) :
    evB (csT tab n) [false] cs__all_places_f0 [some (.v k0 D0), some (.val (.lst (placeD rows))), some (.v k (rowD r)), none, none] = some (.nx [some (.v k0 D0), some (.val (.lst (placeD (growP rows r)))), some (.v k (rowD r)), none, none]) := by
  have h1 : (placeD (growP rows r)).length ≤ sizeLine := by unfold placeD; rw [List.length_map]; exact hz
  have hp : pairL (pairF (csT tab n) cs__all_places_e0 (.wrange (.bin .Add (.fn .len (.var 2)) (.cst (.int (1))))) (.nm 3) (.nm 4) [3, 4] [4] [some (.v k0 D0), some (.val (.lst (placeD rows))), some (.v k (rowD r)), none, none] (fun t => .one (.v true ((placeD rows).getD t .non)))) (placeD rows).length = some (placeD (growP rows r)) := by
    rw [← grow_out]
    refine pairL_list fun t d h => ?_
    obtain ⟨row, hrow, rfl⟩ : ∃ row ∈ rows, d = .tup (natD row) := by
      unfold placeD at h
      rw [List.getElem?_map] at h
      obtain ⟨row, hm, rfl⟩ := Option.map_eq_some_iff.mp h
      exact ⟨row, List.mem_of_getElem? hm, rfl⟩
    have hs0 := hR row hrow
    have hl := row_len k r
    have hb : (-4611686018427387904 : Int) ≤ ((r.2.length : Nat) : Int) + 1 ∧ ((r.2.length : Nat) : Int) + 1 < 4611686018427387904 := ⟨by omega, by omega⟩
    have ht : (((r.2.length : Nat) : Int) + 1).toNat = r.2.length + 1 := by omega
    have hi : ∀ j, j < r.2.length + 1 → ((bindY (.nm 4) (.one (.val (.int (j : Int))))).bind fun g1 => (evE (csT tab n) [] cs__all_places_e0 (g1 (wipeE [some (.v k0 D0), some (.val (.lst (placeD rows))), some (.v k (rowD r)), some (.v true (.tup (natD row))), none] [4]))).bind fun u => chk (u.2 = g1 (wipeE [some (.v k0 D0), some (.val (.lst (placeD rows))), some (.v k (rowD r)), some (.v true (.tup (natD row))), none] [4])) ((toV u.1).bind fun d => some [d])) = some [.tup (natD row ++ [.int (j : Nat)])] := fun j hj => by
      have hs : (natD row ++ [D.int ↑j]).length ≤ sizeLine := by rw [List.length_append]; unfold natD; rw [List.length_map]; exact hs0
      clear h hz h1 hl hb ht hs0 hrow hR hr hj
      unfold cs__all_places_e0
      k_whileD _ _ _ "ev"
    have hm := pairL_map hi
    unfold pairF
    dsimp only
    rw [getD_of h]
    clear h hz h1 hi hs0 hrow hR hr
    k_whileD _ _ _ "ev"
    exact hm.trans (congrArg some (flat_one _ _))
  clear hz hr hR
  have w1 : wkS (.v true (.lst (placeD rows))) = some ⟨(placeD rows).length, fun t => .one (.v true ((placeD rows).getD t .non))⟩ := rfl
  unfold cs__all_places_f0
  k_whileD _ _ _ "ev"
end K09
namespace K09
open PySem L2 DL RL PyProof.Rows
local macro_rules | `(tactic| k_whileD _ _ _ "ev") => `(tactic| simp only [*, is_non_list, is_non_tuple, is_non_bool, is_non_str, is_non_int, is_non_dict, pl_non, isn_non, is_bl_list, is_bl_tuple, is_bl_bool, is_bl_str, is_bl_int, is_bl_dict, pl_bl, isn_bl, is_int_list, is_int_tuple, is_int_bool, is_int_str, is_int_int, is_int_dict, pl_int, isn_int, is_str_list, is_str_tuple, is_str_bool, is_str_str, is_str_int, is_str_dict, pl_str, isn_str, is_lst_list, is_lst_tuple, is_lst_bool, is_lst_str, is_lst_int, is_lst_dict, pl_lst, isn_lst, is_tup_list, is_tup_tuple, is_tup_bool, is_tup_str, is_tup_int, is_tup_dict, pl_tup, isn_tup, is_dk_list, is_dk_tuple, is_dk_bool, is_dk_str, is_dk_int, is_dk_dict, pl_dk, isn_dk, qv_atN, qv_atL, qv_ixLit, qv_mulL, qv_fdivL, qv_modL, qv_powL, Nat.reduceLT, Nat.reduceLeDiff, Nat.reduceAdd, Nat.zero_add, Nat.add_zero, Int.reduceLT, Int.reduceLE, Int.reducePow, Int.reduceToNat, Int.reduceEq, Int.reduceNeg, Int.reduceAdd, Int.reduceSub, Int.reduceMul, and_self, and_true, true_and, eq_self, not_true_eq_false, not_false_eq_true,
  ob_o, ob_v, ob_n, ob_s, fr_nil, fr_0, fr_s, nt_t, nt_f, iv_cst, iv_bin, iv_neg, iv_no, iv_one, iv_conj, iv_disj, iv_cmp, iv_ite, iv_idx, iv_sl, iv_lst, iv_tup, iv_fn, iv_isi, iv_call, iv_app, iv_ext, iv_pop, iv_rev, iv_count, iv_join, iv_comp, iv_compI, iv_comp2, iv_dk0, bf_int, bf_str, bf_list, bf_tuple, bf_sum, bf_all, bf_any, bf_sorted, bf_lenSet, chk_true,
  b_nil, b_seq, b_set, b_setIx, b_set2, b_expr, b_ret, b_retN, b_ife, b_for, b_pass, b_brk, b_cont, qv_nx, qv_ct, qv_bk, qv_ret, m_own, m_var, m_any,
  e_cst, e_var, e_bin, e_neg, e_no, e_one, e_conj, e_disj, e_cmp, e_ite, e_idxO, e_idxV, e_idx, e_sl, e_lst, e_tup, e_lenO, e_fnV, e_fnL, e_fn, e_isi, e_call, e_app, e_ext, e_pop, e_rev, e_count, e_join, e_comp, e_compI, e_comp2, e_dk0, f_range,
  t_no, t_one, t_conj, t_disj, t_cmp, t_chain, t_varB, t_fn, t_isi, t_call, o_nil, o_one, a_nil, a_cons, a_star, s_nil, s_own, s_var, s_cons, w_range, w_zip, w_enum, w_one,
  Option.bind_some, Option.bind_none, Option.map_some, List.getElem?_cons_zero, List.getElem?_cons_succ, List.set_cons_zero, List.set_cons_succ, chk_pos, List.length_cons, List.length_nil, List.length_map, List.all_cons, List.all_nil, Bool.and_true, Bool.true_and, Bool.false_and, Bool.and_false, Bool.and_self, Bool.not_false, Bool.not_true,
  qv_int, qv_bl, qv_str, qv_toT, qv_toO, qv_toI, qv_toS, qv_toB, qv_toN, qv_fixV, qv_fixO, qv_datV, qv_datO, qv_add, qv_addI, qv_addS, qv_addL, qv_sub, qv_mulC, qv_fdivC, qv_modC, qv_powC, qv_in, qv_nin, qv_is, qv_isnt, qv_eq, qv_ne, qv_eqI, qv_eqS, qv_eqB, qv_lt, qv_le, qv_gt, qv_ge, qv_dle, qv_inS, qv_inL, qv_inT,
  qv_ixL, qv_ixT, qv_ixS, qv_lenL, qv_lenT, qv_lenO, qv_lenS, qv_itO, qv_itL, qv_itT, qv_itL', qv_itT', qv_sqO, qv_sqL, qv_sqT, qv_lsO, qv_lsV, qv_lkO, qv_lkT, qv_lkS, qv_len, qv_intf, qv_strf, qv_list, qv_tupleT, qv_tupleL, qv_tupleO, qv_sum, qv_all, qv_any, qv_sorted, qv_lenSet, qv_slS, qv_slL, qv_slO, qv_wkO, qv_wkL, qv_wkT, qv_wkS, qv_getO0, qv_getOS, qv_varV, qv_varO,
  qv_nvT, qv_nvI, qv_nvS, qv_nvB, qv_nvN, qv_nvO, qv_argV, qv_argO, qv_atp, qv_ixp, qv_isi1, qv_isi2, qv_call, qv_aNil, qv_aCons, qv_aEx, qv_aOwn, qv_aBor, qv_backV, qv_backO, qv_backB, qv_backN, if_true, if_false, Bool.false_eq_true, reduceIte, decide_true, decide_false, Bool.or_true, Bool.true_or, Bool.or_false, Bool.false_or, sc_non, sc_bl, sc_int, sc_str, sc_lst, sc_tup, sc_dk,
  mk_sv, kp_sv, bk_sv, no_sv, x_ext, wp_nil, wp_cons, mk_nil, mk_o, mk_v, mk_n, mg_nil, mg_cons, mg_t, mg_f, kp_v, kp_n, kp_o, bk_same, bk_o, bk_t, bk_f, bk_n, by_nm, by_two, no_nil, no_o, no_v, no_n, rb_v, rb_o, os_nil, os_o, os_v, fin_ret, fin_nx, List.contains_cons, List.contains_nil, Nat.reduceBEq, Nat.reduceEqDiff, List.nodup_cons, List.nodup_nil, varsOf, List.not_mem_nil, List.mem_cons, List.mem_singleton, or_false, false_or, or_true, true_or, decide_eq_true_eq, Tgt.ix, isOwn, List.map_cons, List.map_nil, List.cons_append, List.nil_append])
theorem growP_len (rows : List (List Nat)) (r : Wish) : (growP rows r).length = rows.length * (r.2.length + 1) := by
  unfold growP
  induction rows with
  | nil => simp
  | cons a rows ih => rw [List.flatMap_cons, List.length_append, ih, List.length_map, List.length_range, List.length_cons]; rw [Nat.succ_mul, Nat.add_comm]
theorem growP_row {rows : List (List Nat)} {r : Wish} {t : Nat} (h : ∀ row ∈ rows, row.length = t) : ∀ row ∈ growP rows r, row.length = t + 1 := by
  intro row hr
  unfold growP at hr
  obtain ⟨a, ha, hb⟩ := List.mem_flatMap.mp hr
  obtain ⟨p, _, rfl⟩ := List.mem_map.mp hb
  rw [List.length_append, h a ha]; rfl
theorem allP_len' : ∀ {W : List Wish} {rows : List (List Nat)} {t : Nat}, (∀ r ∈ W, r.2.length ≤ 7) → (∀ row ∈ rows, row.length = t) → (W.foldl growP rows).length ≤ rows.length * 8 ^ W.length ∧ ∀ row ∈ W.foldl growP rows, row.length = t + W.length
  | [], rows, t, _, h => ⟨by simp, fun row hr => by rw [List.length_nil, Nat.add_zero]; exact h row hr⟩
  | r :: W, rows, t, hr, h => by
    obtain ⟨a, b⟩ := allP_len' (W := W) (rows := growP rows r) (t := t + 1) (fun x hx => hr x (List.mem_cons_of_mem _ hx)) (growP_row h)
    refine ⟨Nat.le_trans a ?_, fun row hx => by rw [b row hx, List.length_cons]; omega⟩
    rw [growP_len, List.length_cons, Nat.pow_succ, Nat.mul_comm (8 ^ W.length) 8, ← Nat.mul_assoc]
    exact Nat.mul_le_mul_right _ (Nat.mul_le_mul_left _ (by have := hr r List.mem_cons_self; omega))
theorem allP_len {W : List Wish} (h : ∀ r ∈ W, r.2.length ≤ 7) : (allP W).length ≤ 8 ^ W.length ∧ ∀ row ∈ allP W, row.length = W.length := by
  obtain ⟨a, b⟩ := allP_len' (rows := [[]]) (t := 0) h (fun row hr => by rw [List.mem_singleton.mp hr]; rfl)
  exact ⟨by rw [List.length_singleton, Nat.one_mul] at a; exact a, fun row hr => by have := b row hr; omega⟩
structure WLen (W : List Wish) : Prop where
  len : W.length ≤ 5
  row : ∀ r ∈ W, r.2.length ≤ 7
theorem WLen.take {W : List Wish} (h : WLen W) (t : Nat) : WLen (W.take t) := ⟨by rw [List.length_take]; have := h.len; omega, fun r hr => h.row r (List.mem_of_mem_take hr)⟩
theorem WLen.places {W : List Wish} (h : WLen W) : (allP W).length ≤ 32768 ∧ ∀ row ∈ allP W, row.length = W.length := by
  obtain ⟨a, b⟩ := allP_len h.row
  exact ⟨Nat.le_trans a (Nat.le_trans (Nat.pow_le_pow_right (by omega) h.len) (by decide)), b⟩
theorem size_eq : sizeLine = 16777216 := by decide
theorem all_places_spec {n : Nat} {k b : Bool} {W : List Wish} (h : WLen W) : (csT tab (n + 1)).C 5 [.v k (wishD b W)] = some (.val (.lst (placeD (allP W))), [.v k (wishD b W)]) := by
  rw [call_eq (T := tab) (f := 5) rfl rfl]
  show (evB (csT tab n) [false] cs__all_places [some (.v k _), none, none, none, none]).bind _ = _
  have hz := size_eq
  obtain ⟨ρ', h1, a, rfl⟩ := forL_ind (f := forF (csT tab n) [false] (.nm 2) (fun t => .one (.v k ((W.map rowD).getD t .non))) cs__all_places_f0)
    (fun t ρ => ∃ a, ρ = [some (.v k (wishD b W)), some (.val (.lst (placeD (allP (W.take t))))), a, none, none]) (m := W.length) (s := 0) (ρ := [some (.v k (wishD b W)), some (.val (.lst [.tup []])), none, none, none]) ⟨_, rfl⟩ fun t ρ _ ht ⟨a, hj⟩ => by
      subst hj
      have hx : W[t]? = some W[t] := List.getElem?_eq_getElem (by omega)
      obtain ⟨p1, p2⟩ := (h.take t).places
      obtain ⟨p3, p4⟩ := (h.take (t + 1)).places
      have hl : (W.take t).length ≤ 5 := (h.take t).len
      have hr := h.row _ (List.mem_of_getElem? hx)
      rw [take_snocW hx] at p3 ⊢
      have g := grow_spec (n := n) (k := k) (k0 := k) (D0 := wishD b W) (rows := allP (W.take t)) (r := W[t]) (y := none) (fun row hrow => by rw [p2 row hrow]; omega) (by omega) (by omega)
      refine ⟨_, ?_, some (.v k (rowD W[t])), rfl⟩
      have hg : (W.map rowD).getD t .non = rowD W[t] := by rw [List.getD_eq_getElem?_getD, List.getElem?_map, hx]; rfl
      unfold forF
      dsimp only
      rw [hg]
      exact g
  rw [Nat.zero_add, List.take_length] at h1
  have w1 := wish_wk k b (W.map rowD)
  rw [List.length_map] at w1
  clear h
  replace w1 : wkS (.v k (wishD b W)) = _ := w1
  unfold cs__all_places
  k_whileD _ _ _ "ev"
def wayD (W : List Wish) (row : List Nat) : D := .tup ((wayOf W row).map .str)
theorem row_ix {k : Bool} {r : Wish} {p : Nat} (h : p < r.2.length) : idxS (.v k (rowD r)) (p : Int) = some (.v k (.str (r.2.getD p ""))) := by
  have e : atI (r.2.map D.str) (p : Int) = some (.str (r.2.getD p "")) := by
    rw [qv_atp (by omega) (by rw [List.length_map]; omega), Int.toNat_natCast, List.getElem?_map, List.getD_eq_getElem?_getD, List.getElem?_eq_getElem h]; rfl
  unfold rowD seqD
  cases r.1
  · show idxS (.v k (.lst _)) _ = _
    rw [qv_ixL, e]; rfl
  · show idxS (.v k (.tup _)) _ = _
    rw [qv_ixT, e]; rfl
theorem way_at_spec {n : Nat} {k b : Bool} {W : List Wish} {row : List Nat} (h : WLen W) (hr : row.length = W.length) : (csT tab (n + 1)).C 6 [.v k (wishD b W), .v true (.tup (natD row))] = some (.val (wayD W row), [.v k (wishD b W), .v true (.tup (natD row))]) := by
  rw [call_eq (T := tab) (f := 6) rfl rfl]
  show (evB (csT tab n) [false, false] cs__way_at [some (.v k _), some (.v true _), none, none]).bind _ = _
  have w1 : seqS (.v k (wishD b W)) = some (k, W.map rowD) := wish_seq k b _
  have hz := size_eq
  have hc : compL (compF (csT tab n) cs__way_at_e0 (.tp [2, 3]) [2, 3] (fun t => .two k ((W.map rowD).getD t .non) true ((natD row).getD t .non))) 0 (min W.length (natD row).length) [some (.v k (wishD b W)), some (.v true (.tup (natD row))), none, none] [] = some ((wayOf W row).map D.str, [some (.v k (wishD b W)), some (.v true (.tup (natD row))), none, none]) := by
    have hl : (W.map rowD).length = W.length := List.length_map _
    have hl2 : (natD row).length = W.length := by unfold natD; rw [List.length_map, hr]
    rw [hl2, Nat.min_self]
    unfold wayOf
    rw [List.map_map]
    refine compL_map _ fun t ht => ?_
    have hx : W[t]? = some W[t] := List.getElem?_eq_getElem ht
    have hg : (W.map rowD).getD t .non = rowD W[t] := by rw [List.getD_eq_getElem?_getD, List.getElem?_map, hx]; rfl
    have hg2 : W.getD t (false, []) = W[t] := by rw [List.getD_eq_getElem?_getD, hx]; rfl
    have hn : (natD row).getD t .non = .int ((row.getD t 0 : Nat) : Int) := by
      unfold natD
      exact getD_map (fun n : Nat => D.int (n : Int)) row t 0 .non (by omega)
    unfold compF
    dsimp only
    rw [hg, hn]
    show _ = some (some (D.str (signAt (W.getD t (false, [])) (row.getD t 0))), _)
    rw [hg2]
    have l1 := row_len k W[t]
    unfold signAt cs__way_at_e0
    by_cases hp : row.getD t 0 < W[t].2.length
    · have i1 := row_ix (k := k) hp
      rw [if_pos hp]
      generalize row.getD t 0 = p at *
      have hp' : ((p : Nat) : Int) < ((W[t].2.length : Nat) : Int) := by omega
      clear hp hx hg hg2 hn hl hl2 hr h w1
      k_whileD _ _ _ "ev"
    · rw [if_neg hp]
      generalize row.getD t 0 = p at *
      have hp' : ¬ ((p : Nat) : Int) < ((W[t].2.length : Nat) : Int) := by omega
      clear hp hx hg hg2 hn hl hl2 hr h w1
      k_whileD _ _ _ "ev"
  have hm : min W.length (natD row).length ≤ 16777216 := by have := h.len; omega
  unfold cs__way_at
  unfold wayD
  have hz1 : ((wayOf W row).map D.str).length ≤ sizeLine := by
    rw [List.length_map]; unfold wayOf; rw [List.length_map, List.length_range]; have := h.len; omega
  k_whileD _ _ _ "ev"
end K09
namespace K09
open PySem L2 DL RL PyProof.Rows
local macro_rules | `(tactic| k_whileD _ _ _ "ev") => `(tactic| simp only [*, is_non_list, is_non_tuple, is_non_bool, is_non_str, is_non_int, is_non_dict, pl_non, isn_non, is_bl_list, is_bl_tuple, is_bl_bool, is_bl_str, is_bl_int, is_bl_dict, pl_bl, isn_bl, is_int_list, is_int_tuple, is_int_bool, is_int_str, is_int_int, is_int_dict, pl_int, isn_int, is_str_list, is_str_tuple, is_str_bool, is_str_str, is_str_int, is_str_dict, pl_str, isn_str, is_lst_list, is_lst_tuple, is_lst_bool, is_lst_str, is_lst_int, is_lst_dict, pl_lst, isn_lst, is_tup_list, is_tup_tuple, is_tup_bool, is_tup_str, is_tup_int, is_tup_dict, pl_tup, isn_tup, is_dk_list, is_dk_tuple, is_dk_bool, is_dk_str, is_dk_int, is_dk_dict, pl_dk, isn_dk, qv_atN, qv_atL, qv_ixLit, qv_mulL, qv_fdivL, qv_modL, qv_powL, Nat.reduceLT, Nat.reduceLeDiff, Nat.reduceAdd, Nat.zero_add, Nat.add_zero, Int.reduceLT, Int.reduceLE, Int.reducePow, Int.reduceToNat, Int.reduceEq, Int.reduceNeg, Int.reduceAdd, Int.reduceSub, Int.reduceMul, and_self, and_true, true_and, eq_self, not_true_eq_false, not_false_eq_true,
  ob_o, ob_v, ob_n, ob_s, fr_nil, fr_0, fr_s, nt_t, nt_f, iv_cst, iv_bin, iv_neg, iv_no, iv_one, iv_conj, iv_disj, iv_cmp, iv_ite, iv_idx, iv_sl, iv_lst, iv_tup, iv_fn, iv_isi, iv_call, iv_app, iv_ext, iv_pop, iv_rev, iv_count, iv_join, iv_comp, iv_compI, iv_comp2, iv_dk0, bf_int, bf_str, bf_list, bf_tuple, bf_sum, bf_all, bf_any, bf_sorted, bf_lenSet, chk_true,
  b_nil, b_seq, b_set, b_setIx, b_set2, b_expr, b_ret, b_retN, b_ife, b_for, b_pass, b_brk, b_cont, qv_nx, qv_ct, qv_bk, qv_ret, m_own, m_var, m_any,
  e_cst, e_var, e_bin, e_neg, e_no, e_one, e_conj, e_disj, e_cmp, e_ite, e_idxO, e_idxV, e_idx, e_sl, e_lst, e_tup, e_lenO, e_fnV, e_fnL, e_fn, e_isi, e_call, e_app, e_ext, e_pop, e_rev, e_count, e_join, e_comp, e_compI, e_comp2, e_dk0, f_range,
  t_no, t_one, t_conj, t_disj, t_cmp, t_chain, t_varB, t_fn, t_isi, t_call, o_nil, o_one, a_nil, a_cons, a_star, s_nil, s_own, s_var, s_cons, w_range, w_zip, w_enum, w_one,
  Option.bind_some, Option.bind_none, Option.map_some, List.getElem?_cons_zero, List.getElem?_cons_succ, List.set_cons_zero, List.set_cons_succ, chk_pos, List.length_cons, List.length_nil, List.length_map, List.all_cons, List.all_nil, Bool.and_true, Bool.true_and, Bool.false_and, Bool.and_false, Bool.and_self, Bool.not_false, Bool.not_true,
  qv_int, qv_bl, qv_str, qv_toT, qv_toO, qv_toI, qv_toS, qv_toB, qv_toN, qv_fixV, qv_fixO, qv_datV, qv_datO, qv_add, qv_addI, qv_addS, qv_addL, qv_sub, qv_mulC, qv_fdivC, qv_modC, qv_powC, qv_in, qv_nin, qv_is, qv_isnt, qv_eq, qv_ne, qv_eqI, qv_eqS, qv_eqB, qv_lt, qv_le, qv_gt, qv_ge, qv_dle, qv_inS, qv_inL, qv_inT,
  qv_ixL, qv_ixT, qv_ixS, qv_lenL, qv_lenT, qv_lenO, qv_lenS, qv_itO, qv_itL, qv_itT, qv_itL', qv_itT', qv_sqO, qv_sqL, qv_sqT, qv_lsO, qv_lsV, qv_lkO, qv_lkT, qv_lkS, qv_len, qv_intf, qv_strf, qv_list, qv_tupleT, qv_tupleL, qv_tupleO, qv_sum, qv_all, qv_any, qv_sorted, qv_lenSet, qv_slS, qv_slL, qv_slO, qv_wkO, qv_wkL, qv_wkT, qv_wkS, qv_getO0, qv_getOS, qv_varV, qv_varO,
  qv_nvT, qv_nvI, qv_nvS, qv_nvB, qv_nvN, qv_nvO, qv_argV, qv_argO, qv_atp, qv_ixp, qv_isi1, qv_isi2, qv_call, qv_aNil, qv_aCons, qv_aEx, qv_aOwn, qv_aBor, qv_backV, qv_backO, qv_backB, qv_backN, if_true, if_false, Bool.false_eq_true, reduceIte, decide_true, decide_false, Bool.or_true, Bool.true_or, Bool.or_false, Bool.false_or, sc_non, sc_bl, sc_int, sc_str, sc_lst, sc_tup, sc_dk,
  mk_sv, kp_sv, bk_sv, no_sv, x_ext, wp_nil, wp_cons, mk_nil, mk_o, mk_v, mk_n, mg_nil, mg_cons, mg_t, mg_f, kp_v, kp_n, kp_o, bk_same, bk_o, bk_t, bk_f, bk_n, by_nm, by_two, no_nil, no_o, no_v, no_n, rb_v, rb_o, os_nil, os_o, os_v, fin_ret, fin_nx, List.contains_cons, List.contains_nil, Nat.reduceBEq, Nat.reduceEqDiff, List.nodup_cons, List.nodup_nil, varsOf, List.not_mem_nil, List.mem_cons, List.mem_singleton, or_false, false_or, or_true, true_or, decide_eq_true_eq, Tgt.ix, isOwn, List.map_cons, List.map_nil, List.cons_append, List.nil_append])
/-- a ranked row: what it costs, its places -/
def natsI (row : List Nat) : List Int := row.map fun n => ((n : Nat) : Int)
def entD (row : List Nat) : D := .tup [.int (natsI row).sum, .tup (natD row)]
def leR (a b : List Nat) : Bool := leD (entD a) (entD b)
def ordP (W : List Wish) : List (List Nat) := (allP W).mergeSort leR
def isWay (way : List Str) : Bool := decide (way.count ("-" : Str) < way.length)
def waysOf (W : List Wish) : List (List Str) := ((ordP W).map (wayOf W)).filter isWay
def tupS (way : List Str) : D := .tup (way.map .str)
theorem pyDs_nat : ∀ row : List Nat, pyDs (natD row) = (natsI row).map PyData.int
  | [] => by simp [natD, natsI, pyDs]
  | n :: row => by
    show pyDs (D.int (n : Nat) :: natD row) = PyData.int (n : Nat) :: (natsI row).map PyData.int
    rw [pyDs, pyDs_nat row, pyD]
theorem pyD_ent (row : List Nat) : pyD (entD row) = .tuple [.int (natsI row).sum, .tuple ((natsI row).map PyData.int)] := by
  unfold entD
  rw [pyD, pyDs, pyDs, pyDs, pyD, pyD, pyDs_nat]
theorem alike_ent (a b : List Nat) : PySem.W.alike (pyD (entD a)) (pyD (entD b)) = true := by
  rw [pyD_ent, pyD_ent]
  simp [PySem.W.alike, PySem.W.alikeAll, PySem.W.alike_ints]
theorem data_ent (row : List Nat) : dataD (entD row) = true := by
  have h : dataDs (natD row) = true := by
    rw [dataDs_all, natD, List.all_map]
    exact List.all_eq_true.mpr fun n _ => by simp [dataD]
  unfold entD
  simp [dataD, dataDs, h]
theorem ord_eq (W : List Wish) : ((allP W).map entD).mergeSort leD = (ordP W).map entD := by
  have := PySem.W.sort_maps (r := leR) (s := leD) entD (l := allP W) fun a _ b _ => rfl
  rw [← this]; rfl
theorem count_str (xs : List Str) (z : Str) : (xs.map D.str).countP (fun y => eqF y (.str z)) = xs.count z := by
  rw [List.countP_map, List.count]; rfl
theorem sort_ok (rows : List (List Nat)) : (rows.map entD).all dataD = true ∧ PySem.W.AllAlike ((rows.map entD).map pyD) ∧ PySem.W.Sortable ((rows.map entD).map pyD) ∧ ∀ d ∈ rows.map entD, (pyD d).depth ≤ 60 := by
  refine ⟨?_, ?_, ?_, ?_⟩
  · rw [List.all_map]; exact List.all_eq_true.mpr fun row _ => data_ent row
  · rw [List.map_map]; exact PySem.W.AllAlike.of (enc := fun row => pyD (entD row)) fun a b => alike_ent a b
  · rw [List.map_map]; exact PySem.W.Sortable.tuples (enc := fun row => pyD (entD row)) fun a => ⟨_, _, pyD_ent a⟩
  · intro d hd
    obtain ⟨row, _, rfl⟩ := List.mem_map.mp hd
    rw [pyD_ent]
    simp [PyData.depth, PyData.depthAll, PySem.W.depth_ints]
theorem ints_nat (row : List Nat) : RL.intsOf (natD row) = some (natsI row) := by
  have := RL.intsOf_map (natsI row)
  unfold natsI at this ⊢
  rw [List.map_map] at this
  exact this
theorem flat_strs (way : List Str) : (way.map D.str).all flatD = true := by
  rw [List.all_map]; exact List.all_eq_true.mpr fun _ _ => rfl
def isWayD : D → Bool
  | .tup ds => decide (ds.countP (fun y => eqF y (.str "-")) < ds.length)
  | _ => false
theorem isWayD_eq (way : List Str) : isWayD (tupS way) = isWay way := by
  unfold isWayD tupS isWay
  dsimp only
  rw [count_str, List.length_map]
theorem ways_spec {n : Nat} {k b : Bool} {W : List Wish} (h : WLen W) (hd : WishOk (wishD b W)) (hf : faultD (wishD b W) = .non) :
    (csT tab (n + 3)).C 3 [.v k (wishD b W)] = some (.own ((waysOf W).map tupS), [.v k (wishD b W)]) := by
  rw [call_eq (T := tab) (f := 3) rfl rfl]
  show (evB (csT tab (n + 2)) [false] cs_ways [some (.v k _), none, none, none, none, none, none]).bind _ = _
  have hz := size_eq
  have m4 : (csT tab (n + 2)).M 4 = [false] := cs_M (T := tab) (f := 4) rfl
  have m5 : (csT tab (n + 2)).M 5 = [false] := cs_M (T := tab) (f := 5) rfl
  have m6 : (csT tab (n + 2)).M 6 = [false, false] := cs_M (T := tab) (f := 6) rfl
  have f1 := fault_spec (n := n) (k := k || isSc (wishD b W)) hd
  rw [hf] at f1
  have f2 := all_places_spec (n := n + 1) (k := k || isSc (wishD b W)) (b := b) h
  have sc : isSc (wishD b W) = false := by cases b <;> rfl
  rw [sc, Bool.or_false] at f1 f2
  obtain ⟨p1, p2⟩ := h.places
  have p3 : ∀ row ∈ ordP W, row.length = W.length := fun row hr => p2 row ((List.mergeSort_perm _ _).mem_iff.mp hr)
  have p4 : (ordP W).length ≤ 16777216 := by unfold ordP; rw [List.length_mergeSort]; omega
  have hc1 : compL (compF (csT tab (n + 2)) cs_ways_e0 (.nm 3) [3] (fun t => .one (.v true ((placeD (allP W)).getD t .non)))) 0 (allP W).length [some (.v k (wishD b W)), some (.val .non), none, none, none, none, none] [] = some ((allP W).map entD, [some (.v k (wishD b W)), some (.val .non), none, none, none, none, none]) := by
    rw [compL_map (fun t => entD ((allP W).getD t [])) fun t ht => ?_, range_getD (allP W) [] entD]
    have hg : (placeD (allP W)).getD t .non = .tup (natD ((allP W).getD t [])) := getD_map (fun row => D.tup (natD row)) (allP W) t [] .non ht
    have hi := ints_nat ((allP W).getD t [])
    unfold compF entD
    dsimp only
    rw [hg]
    generalize (allP W).getD t [] = row at *
    have h2 : 2 ≤ sizeLine := by omega
    clear hg p3 p4 p1 p2 f1 f2 hd hf h hz m4 m5 m6 ht sc
    unfold cs_ways_e0
    k_whileD _ _ _ "ev"
  have hl2 : ((ordP W).map entD).length = (ordP W).length := List.length_map _
  have hc2 : compL (compF (csT tab (n + 2)) cs_ways_e1 (.tp [5, 3]) [5, 3] (fun t => .one (.v true (((ordP W).map entD).getD t .non)))) 0 (ordP W).length [some (.v k (wishD b W)), some (.val .non), some (.val (.lst ((ordP W).map entD))), none, none, none, none] [] = some ((ordP W).map (fun row => tupS (wayOf W row)), [some (.v k (wishD b W)), some (.val .non), some (.val (.lst ((ordP W).map entD))), none, none, none, none]) := by
    rw [compL_map (fun t => tupS (wayOf W ((ordP W).getD t []))) fun t ht => ?_, range_getD (ordP W) [] fun row => tupS (wayOf W row)]
    have hg : ((ordP W).map entD).getD t .non = entD ((ordP W).getD t []) := getD_map entD (ordP W) t [] .non ht
    have hr : ((ordP W).getD t []).length = W.length := by
      have : (ordP W).getD t [] ∈ ordP W := by rw [List.getD_eq_getElem?_getD, List.getElem?_eq_getElem ht]; exact List.getElem_mem ht
      exact p3 _ this
    have w1 := way_at_spec (n := n + 1) (k := k || isSc (wishD b W)) (b := b) h hr
    rw [sc, Bool.or_false] at w1
    unfold compF
    dsimp only
    rw [hg]
    generalize (ordP W).getD t [] = row at *
    clear hg p3 p4 p1 p2 f1 f2 hd hf h hz m4 m5 ht hc1
    unfold cs_ways_e1
    have bt : bindY (.tp [5, 3]) (.one (.v true (entD row))) = some fun ρ => (ρ.set 5 (some (.v true (.int (natsI row).sum)))).set 3 (some (.v true (.tup (natD row)))) := (by_tp (ix := [5, 3]) (k := true) (ds := [.int (natsI row).sum, .tup (natD row)]) rfl).trans rfl
    change _ = some (some (wayD W row), _)
    k_whileD _ _ _ "ev"
  have hc3 : compL (compIF (csT tab (n + 2)) cs_ways_e2 cs_ways_t0 (.nm 6) [6] (fun t => .one (.v true (((ordP W).map (fun row => tupS (wayOf W row))).getD t .non)))) 0 (ordP W).length [some (.v k (wishD b W)), some (.val .non), some (.val (.lst ((ordP W).map entD))), none, some (.val (.lst ((ordP W).map (fun row => tupS (wayOf W row))))), none, none] [] = some ((waysOf W).map tupS, [some (.v k (wishD b W)), some (.val .non), some (.val (.lst ((ordP W).map entD))), none, some (.val (.lst ((ordP W).map (fun row => tupS (wayOf W row))))), none, none]) := by
    have hlen : ((ordP W).map (fun row => tupS (wayOf W row))).length = (ordP W).length := List.length_map _
    have hfi : (waysOf W).map tupS = (((ordP W).map (fun row => tupS (wayOf W row))).filter isWayD).map fun d => d := by
      unfold waysOf
      rw [List.filter_map, List.filter_map, List.map_map, List.map_map]
      have e : (isWayD ∘ fun row => tupS (wayOf W row)) = (isWay ∘ wayOf W) := by funext row; exact isWayD_eq _
      rw [e]; rfl
    rw [hfi, ← hlen]
    refine compL_filter isWayD (fun d => d) fun t d hx => ?_
    rw [List.getElem?_map] at hx
    obtain ⟨row, hm, rfl⟩ := Option.map_eq_some_iff.mp hx
    have hg : ((ordP W).map (fun row => tupS (wayOf W row))).getD t .non = tupS (wayOf W row) := by rw [List.getD_eq_getElem?_getD, List.getElem?_map, hm]; rfl
    unfold compIF
    dsimp only
    rw [hg]
    rw [isWayD_eq]
    have fs := flat_strs (wayOf W row)
    have fe : flatD (.str "-") = true := rfl
    have cs := count_str (wayOf W row) "-"
    have hn : ((wayOf W row).map D.str).length = (wayOf W row).length := List.length_map _
    unfold isWay
    have cl : ((((wayOf W row).count ("-" : Str) : Nat) : Int) < (((wayOf W row).length : Nat) : Int)) = ((wayOf W row).count ("-" : Str) < (wayOf W row).length) := by simp
    unfold tupS
    generalize wayOf W row = way at *
    generalize (ordP W).map (fun row => D.tup ((wayOf W row).map .str)) = Q at *
    generalize (ordP W).map entD = Q2 at *
    clear hg p3 p4 p1 p2 f1 f2 hd hf h hz m4 m5 m6 hc1 hc2 hfi hlen hl2 hm sc
    unfold cs_ways_e2 cs_ways_t0
    by_cases hw : way.count ("-" : Str) < way.length
    · rw [decide_eq_true hw]
      k_whileD _ _ _ "ev"
    · rw [decide_eq_false hw]
      k_whileD _ _ _ "ev"
  have hpl : (placeD (allP W)).length = (allP W).length := List.length_map _
  have hp5 : (allP W).length ≤ 16777216 := by omega
  obtain ⟨so1, so2, so3, so4⟩ := sort_ok (allP W)
  replace so4 := eq_true so4
  have soE := ord_eq W
  clear hd hf h p2 p3 p1
  unfold cs_ways
  k_whileD _ _ _ "ev"
end K09
namespace K09
open PySem L2 DL RL PyProof.Rows
local macro_rules | `(tactic| k_whileD _ _ _ "ev") => `(tactic| simp only [*, is_non_list, is_non_tuple, is_non_bool, is_non_str, is_non_int, is_non_dict, pl_non, isn_non, is_bl_list, is_bl_tuple, is_bl_bool, is_bl_str, is_bl_int, is_bl_dict, pl_bl, isn_bl, is_int_list, is_int_tuple, is_int_bool, is_int_str, is_int_int, is_int_dict, pl_int, isn_int, is_str_list, is_str_tuple, is_str_bool, is_str_str, is_str_int, is_str_dict, pl_str, isn_str, is_lst_list, is_lst_tuple, is_lst_bool, is_lst_str, is_lst_int, is_lst_dict, pl_lst, isn_lst, is_tup_list, is_tup_tuple, is_tup_bool, is_tup_str, is_tup_int, is_tup_dict, pl_tup, isn_tup, is_dk_list, is_dk_tuple, is_dk_bool, is_dk_str, is_dk_int, is_dk_dict, pl_dk, isn_dk, qv_atN, qv_atL, qv_ixLit, qv_mulL, qv_fdivL, qv_modL, qv_powL, Nat.reduceLT, Nat.reduceLeDiff, Nat.reduceAdd, Nat.zero_add, Nat.add_zero, Int.reduceLT, Int.reduceLE, Int.reducePow, Int.reduceToNat, Int.reduceEq, Int.reduceNeg, Int.reduceAdd, Int.reduceSub, Int.reduceMul, and_self, and_true, true_and, eq_self, not_true_eq_false, not_false_eq_true,
  ob_o, ob_v, ob_n, ob_s, fr_nil, fr_0, fr_s, nt_t, nt_f, iv_cst, iv_bin, iv_neg, iv_no, iv_one, iv_conj, iv_disj, iv_cmp, iv_ite, iv_idx, iv_sl, iv_lst, iv_tup, iv_fn, iv_isi, iv_call, iv_app, iv_ext, iv_pop, iv_rev, iv_count, iv_join, iv_comp, iv_compI, iv_comp2, iv_dk0, bf_int, bf_str, bf_list, bf_tuple, bf_sum, bf_all, bf_any, bf_sorted, bf_lenSet, chk_true,
  b_nil, b_seq, b_set, b_setIx, b_set2, b_expr, b_ret, b_retN, b_ife, b_for, b_pass, b_brk, b_cont, qv_nx, qv_ct, qv_bk, qv_ret, m_own, m_var, m_any,
  e_cst, e_var, e_bin, e_neg, e_no, e_one, e_conj, e_disj, e_cmp, e_ite, e_idxO, e_idxV, e_idx, e_sl, e_lst, e_tup, e_lenO, e_fnV, e_fnL, e_fn, e_isi, e_call, e_app, e_ext, e_pop, e_rev, e_count, e_join, e_comp, e_compI, e_comp2, e_dk0, f_range,
  t_no, t_one, t_conj, t_disj, t_cmp, t_chain, t_varB, t_fn, t_isi, t_call, o_nil, o_one, a_nil, a_cons, a_star, s_nil, s_own, s_var, s_cons, w_range, w_zip, w_enum, w_one,
  Option.bind_some, Option.bind_none, Option.map_some, List.getElem?_cons_zero, List.getElem?_cons_succ, List.set_cons_zero, List.set_cons_succ, chk_pos, List.length_cons, List.length_nil, List.length_map, List.all_cons, List.all_nil, Bool.and_true, Bool.true_and, Bool.false_and, Bool.and_false, Bool.and_self, Bool.not_false, Bool.not_true,
  qv_int, qv_bl, qv_str, qv_toT, qv_toO, qv_toI, qv_toS, qv_toB, qv_toN, qv_fixV, qv_fixO, qv_datV, qv_datO, qv_add, qv_addI, qv_addS, qv_addL, qv_sub, qv_mulC, qv_fdivC, qv_modC, qv_powC, qv_in, qv_nin, qv_is, qv_isnt, qv_eq, qv_ne, qv_eqI, qv_eqS, qv_eqB, qv_lt, qv_le, qv_gt, qv_ge, qv_dle, qv_inS, qv_inL, qv_inT,
  qv_ixL, qv_ixT, qv_ixS, qv_lenL, qv_lenT, qv_lenO, qv_lenS, qv_itO, qv_itL, qv_itT, qv_itL', qv_itT', qv_sqO, qv_sqL, qv_sqT, qv_lsO, qv_lsV, qv_lkO, qv_lkT, qv_lkS, qv_len, qv_intf, qv_strf, qv_list, qv_tupleT, qv_tupleL, qv_tupleO, qv_sum, qv_all, qv_any, qv_sorted, qv_lenSet, qv_slS, qv_slL, qv_slO, qv_wkO, qv_wkL, qv_wkT, qv_wkS, qv_getO0, qv_getOS, qv_varV, qv_varO,
  qv_nvT, qv_nvI, qv_nvS, qv_nvB, qv_nvN, qv_nvO, qv_argV, qv_argO, qv_atp, qv_ixp, qv_isi1, qv_isi2, qv_call, qv_aNil, qv_aCons, qv_aEx, qv_aOwn, qv_aBor, qv_backV, qv_backO, qv_backB, qv_backN, if_true, if_false, Bool.false_eq_true, reduceIte, decide_true, decide_false, Bool.or_true, Bool.true_or, Bool.or_false, Bool.false_or, sc_non, sc_bl, sc_int, sc_str, sc_lst, sc_tup, sc_dk,
  mk_sv, kp_sv, bk_sv, no_sv, x_ext, wp_nil, wp_cons, mk_nil, mk_o, mk_v, mk_n, mg_nil, mg_cons, mg_t, mg_f, kp_v, kp_n, kp_o, bk_same, bk_o, bk_t, bk_f, bk_n, by_nm, by_two, no_nil, no_o, no_v, no_n, rb_v, rb_o, os_nil, os_o, os_v, fin_ret, fin_nx, List.contains_cons, List.contains_nil, Nat.reduceBEq, Nat.reduceEqDiff, List.nodup_cons, List.nodup_nil, varsOf, List.not_mem_nil, List.mem_cons, List.mem_singleton, or_false, false_or, or_true, true_or, decide_eq_true_eq, Tgt.ix, isOwn, List.map_cons, List.map_nil, List.cons_append, List.nil_append])
theorem of_specS {n : Nat} {B : Bag} (hB : B.Ok) {s : Str} (h0 : 0 < s.length) (h1 : s.length < 10000000) {k : Bool} :
    (csT tab (n + 2)).C 9 [.own B.ds, .v k (.str s)] = some (.val (.str ⟨#[s.cps.toList.getD (B.digit s.length).toNat 0]⟩), [.own (B.next s.length).ds, .v k (.str s)]) := by
  rw [call_eq (T := tab) (f := 9) rfl rfl]
  show (evB (csT tab (n + 1)) [true, false] cs__law_of [some (.own B.ds), some (.v k (.str s))]).bind _ = _
  have hz := size_eq
  have m8 : (csT tab (n + 1)).M 8 = [true, false] := cs_M (T := tab) (f := 8) rfl
  have d8 := draw_spec (n := n) hB (t := s.length) (by omega) (by omega) (k := true)
  have hd := digit_lt (B := B) (t := s.length) (by omega)
  have hlt : (B.digit s.length).toNat < s.cps.toList.length := by show _ < s.length; omega
  have hat : atI s.cps.toList (B.digit s.length) = some (s.cps.toList.getD (B.digit s.length).toNat 0) := by
    have h2 : ((B.digit s.length).toNat : Int) = B.digit s.length := by omega
    have h3 := atI_nat (xs := s.cps.toList) (j := (B.digit s.length).toNat) (v := s.cps.toList.getD (B.digit s.length).toNat 0) (by rw [List.getD_eq_getElem?_getD, List.getElem?_eq_getElem hlt]; rfl)
    rwa [h2] at h3
  have hsz : s.length ≤ sizeLine := by omega
  clear hd hlt hB hz
  unfold cs__law_of
  k_whileD _ _ _ "ev"
def mixOf (ns : List Int) : Int := ns.foldl (fun m i => (m * 48271 + i % 2147483587 + 311) % 2147483629) 1397609
def bag0 (ns : List Int) : Bag := ⟨ns, 0, 0, mixOf ns, 0⟩
theorem mixOf_snoc (ns : List Int) (i : Int) : mixOf (ns ++ [i]) = (mixOf ns * 48271 + i % 2147483587 + 311) % 2147483629 := by
  unfold mixOf; rw [List.foldl_append]; rfl
theorem mix_lt : ∀ (ns : List Int) (m : Int), 0 ≤ m ∧ m < 2147483629 → 0 ≤ ns.foldl (fun m i => (m * 48271 + i % 2147483587 + 311) % 2147483629) m ∧ ns.foldl (fun m i => (m * 48271 + i % 2147483587 + 311) % 2147483629) m < 2147483629
  | [], _, h => h
  | i :: ns, m, _ => mix_lt ns _ ⟨Int.emod_nonneg _ (by decide), Int.emod_lt_of_pos _ (by decide)⟩
theorem mixOf_ok (ns : List Int) : 0 ≤ mixOf ns ∧ mixOf ns < 2147483629 := mix_lt ns _ (by decide)
theorem bag0_ok (ns : List Int) : (bag0 ns).Ok := ⟨Nat.zero_le _, Int.le_refl 0, mixOf_ok ns, Int.le_refl 0⟩
theorem cut_all {ds : List D} {m : Nat} (h : ds.length ≤ m) : DL.cutD ds none (some (m : Int)) = ds := by
  have e : HT.sIx ds.length ds.length (some (m : Int)) = ds.length := by
    rw [HT.sIx_nat ds.length ds.length m]; omega
  unfold DL.cutD
  rw [HT.sIx_none, e, List.drop_zero, Nat.sub_zero, List.take_of_length_le (Nat.le_refl _)]
theorem bag_spec {n : Nat} {k : Bool} {ns : List Int} (h : ns.length ≤ 63) :
    (csT tab (n + 1)).C 7 [.v k (.lst (ns.map .int))] = some (.own (bag0 ns).ds, [.v k (.lst (ns.map .int))]) := by
  rw [call_eq (T := tab) (f := 7) rfl rfl]
  show (evB (csT tab n) [false] cs__law_bag [some (.v k _), none, none]).bind _ = _
  have hz := size_eq
  have h5 : 5 ≤ sizeLine := by omega
  have cut : DL.cutD (ns.map D.int) none (some 63) = ns.map D.int := cut_all (m := 63) (by rw [List.length_map]; exact h)
  have hsc : (ns.map D.int).all isSc = true := by rw [List.all_map]; exact List.all_eq_true.mpr fun _ _ => rfl
  obtain ⟨ρ', h1, a, rfl⟩ := forL_ind (f := forF (csT tab n) [false] (.nm 2) (fun t => .one (.v true ((ns.map D.int).getD t .non))) cs__law_bag_f0)
    (fun t ρ => ∃ a, ρ = [some (.v k (.lst (ns.map .int))), some (.v true (.int (mixOf (ns.take t)))), a]) (m := ns.length) (s := 0) (ρ := [some (.v k (.lst (ns.map .int))), some (.v true (.int 1397609)), none]) ⟨_, rfl⟩ fun t ρ _ ht ⟨a, hj⟩ => by
      subst hj
      have hx : ns[t]? = some ns[t] := List.getElem?_eq_getElem (by omega)
      have hg : (ns.map D.int).getD t .non = .int ns[t] := by rw [List.getD_eq_getElem?_getD, List.getElem?_map, hx]; rfl
      refine ⟨_, ?_, some (.v true (.int ns[t])), rfl⟩
      have hm := mixOf_ok (ns.take t)
      have hmod := Int.emod_nonneg ns[t] (show (2147483587 : Int) ≠ 0 by decide)
      have e1 : mixOf (ns.take (t + 1)) = (mixOf (ns.take t) * 48271 + ns[t] % 2147483587 + 311) % 2147483629 := by
        rw [List.take_add_one, hx]; exact mixOf_snoc _ _
      unfold forF
      dsimp only
      rw [hg, e1]
      generalize ns[t] = x at *
      generalize mixOf (ns.take t) = m at *
      clear hx hg e1 cut hsc h ht
      have hp : 0 ≤ m * 48271 + x % 2147483587 + 311 := by omega
      unfold cs__law_bag_f0
      k_whileD _ _ _ "ev"
  rw [Nat.zero_add, List.take_length] at h1
  unfold Bag.ds bag0
  dsimp only
  rw [show ((0 : Nat) : Int) = 0 from rfl]
  clear h
  unfold cs__law_bag
  k_whileD _ _ _ "ev"
end K09
namespace K09
open PySem L2 DL RL PyProof.Rows
local macro_rules | `(tactic| k_whileD _ _ _ "ev") => `(tactic| simp only [*, is_non_list, is_non_tuple, is_non_bool, is_non_str, is_non_int, is_non_dict, pl_non, isn_non, is_bl_list, is_bl_tuple, is_bl_bool, is_bl_str, is_bl_int, is_bl_dict, pl_bl, isn_bl, is_int_list, is_int_tuple, is_int_bool, is_int_str, is_int_int, is_int_dict, pl_int, isn_int, is_str_list, is_str_tuple, is_str_bool, is_str_str, is_str_int, is_str_dict, pl_str, isn_str, is_lst_list, is_lst_tuple, is_lst_bool, is_lst_str, is_lst_int, is_lst_dict, pl_lst, isn_lst, is_tup_list, is_tup_tuple, is_tup_bool, is_tup_str, is_tup_int, is_tup_dict, pl_tup, isn_tup, is_dk_list, is_dk_tuple, is_dk_bool, is_dk_str, is_dk_int, is_dk_dict, pl_dk, isn_dk, qv_atN, qv_atL, qv_ixLit, qv_mulL, qv_fdivL, qv_modL, qv_powL, Nat.reduceLT, Nat.reduceLeDiff, Nat.reduceAdd, Nat.zero_add, Nat.add_zero, Int.reduceLT, Int.reduceLE, Int.reducePow, Int.reduceToNat, Int.reduceEq, Int.reduceNeg, Int.reduceAdd, Int.reduceSub, Int.reduceMul, and_self, and_true, true_and, eq_self, not_true_eq_false, not_false_eq_true,
  ob_o, ob_v, ob_n, ob_s, fr_nil, fr_0, fr_s, nt_t, nt_f, iv_cst, iv_bin, iv_neg, iv_no, iv_one, iv_conj, iv_disj, iv_cmp, iv_ite, iv_idx, iv_sl, iv_lst, iv_tup, iv_fn, iv_isi, iv_call, iv_app, iv_ext, iv_pop, iv_rev, iv_count, iv_join, iv_comp, iv_compI, iv_comp2, iv_dk0, bf_int, bf_str, bf_list, bf_tuple, bf_sum, bf_all, bf_any, bf_sorted, bf_lenSet, chk_true,
  b_nil, b_seq, b_set, b_setIx, b_set2, b_expr, b_ret, b_retN, b_ife, b_for, b_pass, b_brk, b_cont, qv_nx, qv_ct, qv_bk, qv_ret, m_own, m_var, m_any,
  e_cst, e_var, e_bin, e_neg, e_no, e_one, e_conj, e_disj, e_cmp, e_ite, e_idxO, e_idxV, e_idx, e_sl, e_lst, e_tup, e_lenO, e_fnV, e_fnL, e_fn, e_isi, e_call, e_app, e_ext, e_pop, e_rev, e_count, e_join, e_comp, e_compI, e_comp2, e_dk0, f_range,
  t_no, t_one, t_conj, t_disj, t_cmp, t_chain, t_varB, t_fn, t_isi, t_call, o_nil, o_one, a_nil, a_cons, a_star, s_nil, s_own, s_var, s_cons, w_range, w_zip, w_enum, w_one,
  Option.bind_some, Option.bind_none, Option.map_some, List.getElem?_cons_zero, List.getElem?_cons_succ, List.set_cons_zero, List.set_cons_succ, chk_pos, List.length_cons, List.length_nil, List.length_map, List.all_cons, List.all_nil, Bool.and_true, Bool.true_and, Bool.false_and, Bool.and_false, Bool.and_self, Bool.not_false, Bool.not_true,
  qv_int, qv_bl, qv_str, qv_toT, qv_toO, qv_toI, qv_toS, qv_toB, qv_toN, qv_fixV, qv_fixO, qv_datV, qv_datO, qv_add, qv_addI, qv_addS, qv_addL, qv_sub, qv_mulC, qv_fdivC, qv_modC, qv_powC, qv_in, qv_nin, qv_is, qv_isnt, qv_eq, qv_ne, qv_eqI, qv_eqS, qv_eqB, qv_lt, qv_le, qv_gt, qv_ge, qv_dle, qv_inS, qv_inL, qv_inT,
  qv_ixL, qv_ixT, qv_ixS, qv_lenL, qv_lenT, qv_lenO, qv_lenS, qv_itO, qv_itL, qv_itT, qv_itL', qv_itT', qv_sqO, qv_sqL, qv_sqT, qv_lsO, qv_lsV, qv_lkO, qv_lkT, qv_lkS, qv_len, qv_intf, qv_strf, qv_list, qv_tupleT, qv_tupleL, qv_tupleO, qv_sum, qv_all, qv_any, qv_sorted, qv_lenSet, qv_slS, qv_slL, qv_slO, qv_wkO, qv_wkL, qv_wkT, qv_wkS, qv_getO0, qv_getOS, qv_varV, qv_varO,
  qv_nvT, qv_nvI, qv_nvS, qv_nvB, qv_nvN, qv_nvO, qv_argV, qv_argO, qv_atp, qv_ixp, qv_isi1, qv_isi2, qv_call, qv_aNil, qv_aCons, qv_aEx, qv_aOwn, qv_aBor, qv_backV, qv_backO, qv_backB, qv_backN, if_true, if_false, Bool.false_eq_true, reduceIte, decide_true, decide_false, Bool.or_true, Bool.true_or, Bool.or_false, Bool.false_or, sc_non, sc_bl, sc_int, sc_str, sc_lst, sc_tup, sc_dk,
  mk_sv, kp_sv, bk_sv, no_sv, x_ext, wp_nil, wp_cons, mk_nil, mk_o, mk_v, mk_n, mg_nil, mg_cons, mg_t, mg_f, kp_v, kp_n, kp_o, bk_same, bk_o, bk_t, bk_f, bk_n, by_nm, by_two, no_nil, no_o, no_v, no_n, rb_v, rb_o, os_nil, os_o, os_v, fin_ret, fin_nx, List.contains_cons, List.contains_nil, Nat.reduceBEq, Nat.reduceEqDiff, List.nodup_cons, List.nodup_nil, varsOf, List.not_mem_nil, List.mem_cons, List.mem_singleton, or_false, false_or, or_true, true_or, decide_eq_true_eq, Tgt.ix, isOwn, List.map_cons, List.map_nil, List.cons_append, List.nil_append])
def mkS (l : List Nat) : Str := ⟨l.toArray⟩
theorem mkS_len (l : List Nat) : (mkS l).length = l.length := rfl
theorem mkS_add (a b : List Nat) : mkS a ++ mkS b = mkS (a ++ b) := by
  show Str.mk (a.toArray ++ b.toArray) = Str.mk _
  rw [List.append_toArray]
theorem mkS_eta (z : Str) : mkS z.cps.toList = z := rfl
theorem join_one (cs : List Nat) : Txt.join "" (cs.map fun c => (⟨#[c]⟩ : Str)) = mkS cs := by
  have h : ∀ (cs : List Nat) (acc : Array Nat), (cs.map fun c => (⟨#[c]⟩ : Str)).foldl (fun acc p => acc ++ (Str.cps "") ++ p.cps) acc = acc ++ cs.toArray := by
    intro cs
    induction cs with
    | nil => intro acc; simp
    | cons c cs ih =>
      intro acc
      rw [List.map_cons, List.foldl_cons, ih]
      show acc ++ #[] ++ #[c] ++ cs.toArray = acc ++ (c :: cs).toArray
      apply Array.ext'
      simp
  cases cs with
  | nil => rfl
  | cons c cs =>
    show Str.mk (List.foldl (fun acc p => acc ++ (Str.cps "") ++ p.cps) #[c] (cs.map fun c => (⟨#[c]⟩ : Str))) = _
    rw [h]
    show Str.mk (#[c] ++ cs.toArray) = Str.mk (c :: cs).toArray
    congr 1
    apply Array.ext'
    simp
theorem nameOk_mk {c : Nat} {cs : List Nat} (hc : isLet c = true) (h : ∀ x ∈ cs, (isLet x || isDig x) = true) (hl : cs.length ≤ 11) : nameOk (mkS (c :: cs)) = true := by
  have h1 : (mkS (c :: cs)).length = cs.length + 1 := rfl
  have h2 : (mkS (c :: cs)).cps.getD 0 0 = c := rfl
  have h3 : (mkS (c :: cs)).cps.toList = c :: cs := rfl
  unfold nameOk
  rw [h1, h2, h3, hc, decide_eq_true (by omega : 1 ≤ cs.length + 1), decide_eq_true (by omega : cs.length + 1 ≤ 12), List.all_cons, hc, List.all_eq_true.mpr h]
  rfl
theorem in_strs (z : Str) : ∀ ts : List Str, inD (.str z) (ts.map .str) = decide (z ∈ ts)
  | [] => rfl
  | t :: ts => by
    have ih := in_strs z ts
    unfold inD at ih ⊢
    rw [List.map_cons, List.any_cons, ih]
    show (decide (t = z) || _) = _
    by_cases h : t = z <;> by_cases h' : z ∈ ts <;> simp [h, h', eq_comm]
    intro e; exact h e.symm
theorem flat_strsD (ts : List Str) : (ts.map D.str).all flatD = true := by rw [List.all_map]; exact List.all_eq_true.mpr fun _ _ => rfl
theorem in_strsS {k1 k2 : Bool} (z : Str) (ts : List Str) : inS (.v k1 (.str z)) (.v k2 (.lst (ts.map .str))) = some (decide (z ∈ ts)) := by
  rw [qv_inL ⟨rfl, flat_strsD ts⟩, in_strs]
def nameT : CS := (.seq (.ife (.cmp .NotIn (.var 3) (.var 1)) (.seq (.ret (.var 3)) .nil) .nil) (.seq (.set true 5 (.comp cs__law_name_e2 (.wrange (.bin .Add (.fn .len (.var 1)) (.cst (.int (1))))) (.nm 4) [4])) (.seq (.ret (.idx (.compI cs__law_name_e3 cs__law_name_t0 (.one (.var 5)) (.nm 6) [6]) (.cst (.int (0))))) .nil)))
theorem cut_nat (z : Str) (m : Nat) : cutS z none (some (m : Int)) = mkS (z.cps.toList.take m) := by
  unfold cutS mkS
  rw [HT.sIx_none, HT.sIx_nat, List.drop_zero, Nat.sub_zero]
  congr 2
  have : z.length = z.cps.toList.length := rfl
  rw [this, List.take_eq_take_min]
  simp
theorem dig_str : ∀ t : Nat, t < 10 → Str.ofString (toString ((t : Nat) : Int)) = mkS [48 + t] ∧ isDig (48 + t) = true := by decide +kernel
def freeS (z : Str) (m : Nat) : List Str := (List.range m).map fun t => mkS (z.cps.toList.take 9 ++ [48 + t])
theorem nodup_len : ∀ {l m : List Str}, l.Nodup → (∀ x ∈ l, x ∈ m) → l.length ≤ m.length
  | [], _, _, _ => Nat.zero_le _
  | a :: l, m, hn, h => by
    have ha := h a List.mem_cons_self
    have hn' := List.nodup_cons.mp hn
    have := nodup_len (l := l) (m := m.erase a) hn'.2 fun x hx => (List.mem_erase_of_ne (fun (e : x = a) => hn'.1 (by rw [← e]; exact hx))).mpr (h x (List.mem_cons_of_mem _ hx))
    rw [List.length_erase_of_mem ha] at this
    have : 0 < m.length := List.length_pos_of_mem ha
    rw [List.length_cons]; omega
theorem free_nodup (z : Str) (m : Nat) : (freeS z m).Nodup := by
  unfold freeS
  refine List.Pairwise.map _ (fun a b hab e => hab ?_) List.nodup_range
  have : (z.cps.toList.take 9 ++ [48 + a]) = (z.cps.toList.take 9 ++ [48 + b]) := by
    have := congrArg (fun s : Str => s.cps.toList) e
    exact this
  have := List.append_cancel_left this
  injection this with h1 _
  omega
theorem free_ok {z : Str} (hz : nameOk z = true) {m : Nat} (hm : m ≤ 10) : ∀ x ∈ freeS z m, nameOk x = true := by
  intro x hx
  obtain ⟨t, ht, rfl⟩ := List.mem_map.mp hx
  have ht := List.mem_range.mp ht
  unfold nameOk at hz
  simp only [Bool.and_eq_true, decide_eq_true_eq] at hz
  obtain ⟨⟨h1, h2⟩, h3, h4⟩ := hz
  obtain ⟨l, hl⟩ : ∃ l, z = mkS l := ⟨_, (mkS_eta z).symm⟩
  subst hl
  have h1 : 1 ≤ l.length := h1
  cases l with
  | nil => cases h1
  | cons c cs =>
    have h3 : isLet c = true := h3
    have h4 : ∀ x ∈ c :: cs, (isLet x || isDig x) = true := List.all_eq_true.mp h4
    show nameOk (mkS ((c :: cs).take 9 ++ [48 + t])) = true
    show nameOk (mkS (c :: (cs.take 8 ++ [48 + t]))) = true
    refine nameOk_mk h3 (fun x hx => ?_) ?_
    · rcases List.mem_append.mp hx with hx | hx
      · exact h4 _ (List.mem_cons_of_mem _ (List.mem_of_mem_take hx))
      · rw [List.mem_singleton.mp hx, (dig_str t (by omega)).2, Bool.or_true]
    · rw [List.length_append, List.length_take]; show _ + 1 ≤ 11; omega
def notInD (ts : List Str) : D → Bool
  | .str x => decide (x ∉ ts)
  | _ => false
theorem free_some (z : Str) (ts : List Str) : ∃ x, ((freeS z (ts.length + 1)).filter fun x => decide (x ∉ ts)).head? = some x ∧ x ∈ freeS z (ts.length + 1) ∧ x ∉ ts := by
  cases h : (freeS z (ts.length + 1)).filter fun x => decide (x ∉ ts) with
  | nil =>
    exfalso
    have h1 := nodup_len (free_nodup z (ts.length + 1)) fun x hx => Classical.byContradiction fun hn => by
      have : x ∈ (freeS z (ts.length + 1)).filter fun x => decide (x ∉ ts) := List.mem_filter.mpr ⟨hx, decide_eq_true hn⟩
      rw [h] at this
      cases this
    unfold freeS at h1
    rw [List.length_map, List.length_range] at h1
    omega
  | cons x xs =>
    have : x ∈ (freeS z (ts.length + 1)).filter fun x => decide (x ∉ ts) := by rw [h]; exact List.mem_cons_self
    obtain ⟨h1, h2⟩ := List.mem_filter.mp this
    exact ⟨x, rfl, h1, of_decide_eq_true h2⟩
theorem name_tail {n : Nat} {B : Bag} {k : Bool} {ts : List Str} {z : Str} {p : D} (hz : nameOk z = true) (ht : ts.length ≤ 8) :
    ∃ z' ρ', nameOk z' = true ∧ z' ∉ ts ∧ evB (csT tab n) [true, false] nameT [some (.own B.ds), some (.v k (.lst (ts.map .str))), some (.v true p), some (.v true (.str z)), none, none, none] = some (.ret (.val (.str z')) (some (.own B.ds) :: some (.v k (.lst (ts.map .str))) :: ρ')) := by
  by_cases hin : z ∈ ts
  · obtain ⟨x, hx, hxm, hxt⟩ := free_some z ts
    have hxo := free_ok hz (m := ts.length + 1) (by omega) x hxm
    have hsz := size_eq
    have hzl : z.length ≤ 12 := by
      unfold nameOk at hz
      simp only [Bool.and_eq_true, decide_eq_true_eq] at hz
      exact hz.1.2
    have hc1 : compL (compF (csT tab n) cs__law_name_e2 (.nm 4) [4] (fun t => .one (.val (.int (t : Int))))) 0 (ts.length + 1) [some (.own B.ds), some (.v k (.lst (ts.map .str))), some (.v true p), some (.v true (.str z)), none, none, none] [] = some ((freeS z (ts.length + 1)).map .str, [some (.own B.ds), some (.v k (.lst (ts.map .str))), some (.v true p), some (.v true (.str z)), none, none, none]) := by
      unfold freeS
      rw [List.map_map]
      refine compL_map _ fun t hlt => ?_
      obtain ⟨d1, d2⟩ := dig_str t (by omega)
      have hn : ((t : Int).natAbs.log2 < 1920) := by
        have : (t : Int).natAbs = t := rfl
        rw [this]
        exact Nat.lt_of_le_of_lt (Nat.log2_le_self t) (by omega)
      have hc := cut_nat z 9
      have h9 : cutS z none (some 9) = mkS (z.cps.toList.take 9) := hc
      have ha := mkS_add (z.cps.toList.take 9) [48 + t]
      have hs1 : z.length ≤ sizeLine := by omega
      have hs2 : (mkS (z.cps.toList.take 9)).length + (mkS [48 + t]).length ≤ sizeLine := by
        rw [mkS_len, mkS_len, List.length_take]; show _ + 1 ≤ _; omega
      show _ = some (some (D.str (mkS (z.cps.toList.take 9 ++ [48 + t]))), _)
      unfold compF cs__law_name_e2
      clear hz ht hin hx hxm hxt hxo hsz hzl hlt d2 hc
      k_whileD _ _ _ "ev"
    have hlf : (freeS z (ts.length + 1)).length = ts.length + 1 := by unfold freeS; rw [List.length_map, List.length_range]
    have hc2 : compL (compIF (csT tab n) cs__law_name_e3 cs__law_name_t0 (.nm 6) [6] (fun t => .one (.v true (((freeS z (ts.length + 1)).map D.str).getD t .non)))) 0 (ts.length + 1) [some (.own B.ds), some (.v k (.lst (ts.map .str))), some (.v true p), some (.v true (.str z)), none, some (.val (.lst ((freeS z (ts.length + 1)).map D.str))), none] [] = some (((freeS z (ts.length + 1)).filter fun x => decide (x ∉ ts)).map .str, [some (.own B.ds), some (.v k (.lst (ts.map .str))), some (.v true p), some (.v true (.str z)), none, some (.val (.lst ((freeS z (ts.length + 1)).map D.str))), none]) := by
      have e : (((freeS z (ts.length + 1)).filter fun x => decide (x ∉ ts)).map D.str) = (((freeS z (ts.length + 1)).map D.str).filter (notInD ts)).map fun d => d := by
        rw [List.filter_map, List.map_map]; rfl
      have hl2 : ((freeS z (ts.length + 1)).map D.str).length = ts.length + 1 := by rw [List.length_map, hlf]
      rw [e]
      have := compL_filter (f := compIF (csT tab n) cs__law_name_e3 cs__law_name_t0 (.nm 6) [6] (fun t => .one (.v true (((freeS z (ts.length + 1)).map D.str).getD t .non)))) (ds := (freeS z (ts.length + 1)).map D.str) (ρ := [some (.own B.ds), some (.v k (.lst (ts.map .str))), some (.v true p), some (.v true (.str z)), none, some (.val (.lst ((freeS z (ts.length + 1)).map D.str))), none]) (notInD ts) (fun d => d) fun t d hd => by
        have hg := getD_of hd
        rw [List.getElem?_map] at hd
        obtain ⟨y, hy, rfl⟩ := Option.map_eq_some_iff.mp hd
        have hi := in_strsS (k1 := true) (k2 := k) y ts
        unfold compIF
        dsimp only
        rw [hg]
        generalize (freeS z (ts.length + 1)).map D.str = Q at *
        show _ = some (if decide (y ∉ ts) = true then _ else _, _)
        clear hg hd hy hl2 e hc1 hlf hz ht hin hx hxm hxt hxo hsz hzl
        unfold cs__law_name_e3 cs__law_name_t0
        by_cases hyt : y ∈ ts
        · rw [decide_eq_true hyt] at hi
          rw [if_neg (by simp [hyt])]
          k_whileD _ _ _ "ev"
        · rw [decide_eq_false hyt] at hi
          rw [if_pos (by simp [hyt])]
          k_whileD _ _ _ "ev"
      rw [hl2] at this
      exact this
    have hat : atI (((freeS z (ts.length + 1)).filter fun x => decide (x ∉ ts)).map D.str) 0 = some (.str x) := by
      cases hF : (freeS z (ts.length + 1)).filter fun x => decide (x ∉ ts) with
      | nil => rw [hF] at hx; cases hx
      | cons a as =>
        rw [hF] at hx
        injection hx with hx
        rw [hx]
        exact atI_nat (xs := List.map D.str (x :: as)) (j := 0) (v := .str x) rfl
    have hi := in_strsS (k1 := true) (k2 := k) z ts
    rw [decide_eq_true hin] at hi
    refine ⟨x, [some (.v true p), some (.v true (.str z)), none, some (.val (.lst ((freeS z (ts.length + 1)).map D.str))), none], hxo, hxt, ?_⟩
    have hr : (-4611686018427387904 : Int) ≤ ((ts.length : Nat) : Int) + 1 ∧ ((ts.length : Nat) : Int) + 1 < 4611686018427387904 := ⟨by omega, by omega⟩
    have htn : (((ts.length : Nat) : Int) + 1).toNat = ts.length + 1 := by omega
    have hs1 : ts.length + 1 ≤ sizeLine := by omega
    have hl2 : ((freeS z (ts.length + 1)).map D.str).length = ts.length + 1 := by rw [List.length_map, hlf]
    generalize (freeS z (ts.length + 1)).map D.str = Q at *
    generalize ((freeS z (ts.length + 1)).filter fun x => decide (x ∉ ts)).map D.str = Q2 at *
    clear hz ht hin hx hxm hxt hxo hsz hzl hlf
    have htl : (ts.map D.str).length = ts.length := List.length_map _
    unfold nameT
    k_whileD _ _ _ "ev"
  · have hi := in_strsS (k1 := true) (k2 := k) z ts
    rw [decide_eq_false hin] at hi
    refine ⟨z, [some (.v true p), some (.v true (.str z)), none, none, none], hz, hin, ?_⟩
    unfold nameT
    clear hz ht hin
    k_whileD _ _ _ "ev"
end K09
namespace K09
open PySem L2 DL RL PyProof.Rows
local macro_rules | `(tactic| k_whileD _ _ _ "ev") => `(tactic| simp only [*, is_non_list, is_non_tuple, is_non_bool, is_non_str, is_non_int, is_non_dict, pl_non, isn_non, is_bl_list, is_bl_tuple, is_bl_bool, is_bl_str, is_bl_int, is_bl_dict, pl_bl, isn_bl, is_int_list, is_int_tuple, is_int_bool, is_int_str, is_int_int, is_int_dict, pl_int, isn_int, is_str_list, is_str_tuple, is_str_bool, is_str_str, is_str_int, is_str_dict, pl_str, isn_str, is_lst_list, is_lst_tuple, is_lst_bool, is_lst_str, is_lst_int, is_lst_dict, pl_lst, isn_lst, is_tup_list, is_tup_tuple, is_tup_bool, is_tup_str, is_tup_int, is_tup_dict, pl_tup, isn_tup, is_dk_list, is_dk_tuple, is_dk_bool, is_dk_str, is_dk_int, is_dk_dict, pl_dk, isn_dk, qv_atN, qv_atL, qv_ixLit, qv_mulL, qv_fdivL, qv_modL, qv_powL, Nat.reduceLT, Nat.reduceLeDiff, Nat.reduceAdd, Nat.zero_add, Nat.add_zero, Int.reduceLT, Int.reduceLE, Int.reducePow, Int.reduceToNat, Int.reduceEq, Int.reduceNeg, Int.reduceAdd, Int.reduceSub, Int.reduceMul, and_self, and_true, true_and, eq_self, not_true_eq_false, not_false_eq_true,
  ob_o, ob_v, ob_n, ob_s, fr_nil, fr_0, fr_s, nt_t, nt_f, iv_cst, iv_bin, iv_neg, iv_no, iv_one, iv_conj, iv_disj, iv_cmp, iv_ite, iv_idx, iv_sl, iv_lst, iv_tup, iv_fn, iv_isi, iv_call, iv_app, iv_ext, iv_pop, iv_rev, iv_count, iv_join, iv_comp, iv_compI, iv_comp2, iv_dk0, bf_int, bf_str, bf_list, bf_tuple, bf_sum, bf_all, bf_any, bf_sorted, bf_lenSet, chk_true,
  b_nil, b_seq, b_set, b_setIx, b_set2, b_expr, b_ret, b_retN, b_ife, b_for, b_pass, b_brk, b_cont, qv_nx, qv_ct, qv_bk, qv_ret, m_own, m_var, m_any,
  e_cst, e_var, e_bin, e_neg, e_no, e_one, e_conj, e_disj, e_cmp, e_ite, e_idxO, e_idxV, e_idx, e_sl, e_lst, e_tup, e_lenO, e_fnV, e_fnL, e_fn, e_isi, e_call, e_app, e_ext, e_pop, e_rev, e_count, e_join, e_comp, e_compI, e_comp2, e_dk0, f_range,
  t_no, t_one, t_conj, t_disj, t_cmp, t_chain, t_varB, t_fn, t_isi, t_call, o_nil, o_one, a_nil, a_cons, a_star, s_nil, s_own, s_var, s_cons, w_range, w_zip, w_enum, w_one,
  Option.bind_some, Option.bind_none, Option.map_some, List.getElem?_cons_zero, List.getElem?_cons_succ, List.set_cons_zero, List.set_cons_succ, chk_pos, List.length_cons, List.length_nil, List.length_map, List.all_cons, List.all_nil, Bool.and_true, Bool.true_and, Bool.false_and, Bool.and_false, Bool.and_self, Bool.not_false, Bool.not_true,
  qv_int, qv_bl, qv_str, qv_toT, qv_toO, qv_toI, qv_toS, qv_toB, qv_toN, qv_fixV, qv_fixO, qv_datV, qv_datO, qv_add, qv_addI, qv_addS, qv_addL, qv_sub, qv_mulC, qv_fdivC, qv_modC, qv_powC, qv_in, qv_nin, qv_is, qv_isnt, qv_eq, qv_ne, qv_eqI, qv_eqS, qv_eqB, qv_lt, qv_le, qv_gt, qv_ge, qv_dle, qv_inS, qv_inL, qv_inT,
  qv_ixL, qv_ixT, qv_ixS, qv_lenL, qv_lenT, qv_lenO, qv_lenS, qv_itO, qv_itL, qv_itT, qv_itL', qv_itT', qv_sqO, qv_sqL, qv_sqT, qv_lsO, qv_lsV, qv_lkO, qv_lkT, qv_lkS, qv_len, qv_intf, qv_strf, qv_list, qv_tupleT, qv_tupleL, qv_tupleO, qv_sum, qv_all, qv_any, qv_sorted, qv_lenSet, qv_slS, qv_slL, qv_slO, qv_wkO, qv_wkL, qv_wkT, qv_wkS, qv_getO0, qv_getOS, qv_varV, qv_varO,
  qv_nvT, qv_nvI, qv_nvS, qv_nvB, qv_nvN, qv_nvO, qv_argV, qv_argO, qv_atp, qv_ixp, qv_isi1, qv_isi2, qv_call, qv_aNil, qv_aCons, qv_aEx, qv_aOwn, qv_aBor, qv_backV, qv_backO, qv_backB, qv_backN, if_true, if_false, Bool.false_eq_true, reduceIte, decide_true, decide_false, Bool.or_true, Bool.true_or, Bool.or_false, Bool.false_or, sc_non, sc_bl, sc_int, sc_str, sc_lst, sc_tup, sc_dk,
  mk_sv, kp_sv, bk_sv, no_sv, x_ext, wp_nil, wp_cons, mk_nil, mk_o, mk_v, mk_n, mg_nil, mg_cons, mg_t, mg_f, kp_v, kp_n, kp_o, bk_same, bk_o, bk_t, bk_f, bk_n, by_nm, by_two, no_nil, no_o, no_v, no_n, rb_v, rb_o, os_nil, os_o, os_v, fin_ret, fin_nx, List.contains_cons, List.contains_nil, Nat.reduceBEq, Nat.reduceEqDiff, List.nodup_cons, List.nodup_nil, varsOf, List.not_mem_nil, List.mem_cons, List.mem_singleton, or_false, false_or, or_true, true_or, decide_eq_true_eq, Tgt.ix, isOwn, List.map_cons, List.map_nil, List.cons_append, List.nil_append])
def nameI : CS := (.ife (.cmp .Eq (.var 2) (.cst (.int (0)))) (.seq (.set true 3 (.call 9 (.cons (.var 0) (.cons (.lst (.cons (.cst (.str "book")) (.cons (.cst (.str "room")) (.cons (.cst (.str "family")) (.cons (.cst (.str "order")) (.cons (.cst (.str "end")) (.cons (.cst (.str "by")) (.cons (.cst (.str "any")) (.cons (.cst (.str "drop")) (.cons (.cst (.str "within")) (.cons (.cst (.str "together")) (.cons (.cst (.str "member")) (.cons (.cst (.str "points")) (.cons (.cst (.str "road")) (.cons (.cst (.str "rules")) .nil))))))))))))))) .nil)))) .nil) (.seq (.ife (.cmp .Eq (.var 2) (.cst (.int (1)))) (.seq (.set true 3 (.call 9 (.cons (.var 0) (.cons (.cst (.str "ABCDEFGHIJKLMNOPQRSTUVWXYZabcdefghijklmnopqrstuvwxyz")) .nil)))) (.seq (.set true 3 (.bin .Add (.var 3) (.join (.cst (.str "")) (.comp cs__law_name_e0 (.wrange (.cst (.int (11)))) (.nm 4) [4])))) .nil)) (.seq (.set true 3 (.bin .Add (.call 9 (.cons (.var 0) (.cons (.cst (.str "abcxyzABCXYZ")) .nil))) (.join (.cst (.str "")) (.comp cs__law_name_e1 (.wrange (.call 9 (.cons (.var 0) (.cons (.lst (.cons (.cst (.int (0))) (.cons (.cst (.int (0))) (.cons (.cst (.int (1))) (.cons (.cst (.int (2))) (.cons (.cst (.int (0))) (.cons (.cst (.int (1))) (.cons (.cst (.int (3))) .nil)))))))) .nil)))) (.nm 4) [4])))) .nil)) .nil))
theorem name_parts : cs__law_name = .seq (.set true 2 (.call 8 (.cons (.var 0) (.cons (.cst (.int 7)) .nil)))) (.seq nameI nameT) := rfl
theorem pick_memS {B : Bag} {s : Str} (h : 0 < s.length) : s.cps.toList.getD (B.digit s.length).toNat 0 ∈ s.cps.toList := by
  have hd := digit_lt (B := B) (t := s.length) (by omega)
  have hlt : (B.digit s.length).toNat < s.cps.toList.length := by show _ < s.length; omega
  rw [List.getD_eq_getElem?_getD, List.getElem?_eq_getElem hlt]
  exact List.getElem_mem hlt
theorem chars_loop {n : Nat} {S : Str} (hS : 0 < S.length) (hS2 : S.length < 10000000) {k : Bool} {T P : D} {a3 : Option D} {B : Bag} (hB : B.Ok) {e : CE} (he : e = .call 9 (.cons (.var 0) (.cons (.cst (.str S)) .nil))) (m : Nat) :
    ∃ cs : List Nat, ∃ B' : Bag, B'.Ok ∧ cs.length = m ∧ (∀ c ∈ cs, c ∈ S.cps.toList) ∧
      compL (compF (csT tab (n + 2)) e (.nm 4) [4] (fun t => .one (.val (.int (t : Int))))) 0 m [some (.own B.ds), some (.v k T), some (.v true P), a3.map (.v true), none, none, none] [] = some (cs.map fun c => .str ⟨#[c]⟩, [some (.own B'.ds), some (.v k T), some (.v true P), a3.map (.v true), none, none, none]) := by
  subst he
  obtain ⟨acc, ρ', h1, cs, B', h2, h3, h4, rfl, rfl⟩ := compL_ind (f := compF (csT tab (n + 2)) (.call 9 (.cons (.var 0) (.cons (.cst (.str S)) .nil))) (.nm 4) [4] (fun t => .one (.val (.int (t : Int)))))
    (fun t ρ acc => ∃ cs : List Nat, ∃ B' : Bag, B'.Ok ∧ cs.length = t ∧ (∀ c ∈ cs, c ∈ S.cps.toList) ∧ acc = cs.map (fun c => .str ⟨#[c]⟩) ∧ ρ = [some (.own B'.ds), some (.v k T), some (.v true P), a3.map (.v true), none, none, none]) (m := m) (s := 0) (ρ := [some (.own B.ds), some (.v k T), some (.v true P), a3.map (.v true), none, none, none]) (acc := []) ⟨[], B, hB, rfl, (fun _ h => by cases h), rfl, rfl⟩ fun t ρ acc _ ht ⟨cs, B1, g1, g2, g3, g4, g5⟩ => by
      subst g4 g5
      have m9 : (csT tab (n + 2)).M 9 = [true, false] := cs_M (T := tab) (f := 9) rfl
      have o9 := of_specS (n := n) g1 hS hS2 (k := true)
      have hp := pick_memS (B := B1) hS
      refine ⟨some (.str ⟨#[S.cps.toList.getD (B1.digit S.length).toNat 0]⟩), _, ?_, cs ++ [S.cps.toList.getD (B1.digit S.length).toNat 0], B1.next S.length, next_ok g1 (by omega), ?_, ?_, ?_, rfl⟩
      · unfold compF
        clear hp g1 g2 g3 hS hS2 ht
        cases a3 with
        | none =>
          dsimp only [Option.map]
          k_whileD _ _ _ "ev"
        | some a =>
          dsimp only [Option.map]
          k_whileD _ _ _ "ev"
      · rw [List.length_append, g2]; rfl
      · intro c hc
        rcases List.mem_append.mp hc with hc | hc
        · exact g3 c hc
        · rw [List.mem_singleton.mp hc]; exact hp
      · rw [List.map_append]; rfl
  exact ⟨cs, B', h2, by omega, h4, h1⟩
def wordsS : List Str := ["book", "room", "family", "order", "end", "by", "any", "drop", "within", "together", "member", "points", "road", "rules"]
theorem words_ok : ∀ z ∈ wordsS, nameOk z = true := by decide +kernel
theorem let_ok : ∀ c ∈ (Str.cps "ABCDEFGHIJKLMNOPQRSTUVWXYZabcdefghijklmnopqrstuvwxyz").toList, isLet c = true := fun c h => decide_eq_true h
theorem l62_ok : ∀ c ∈ (Str.cps "ABCDEFGHIJKLMNOPQRSTUVWXYZabcdefghijklmnopqrstuvwxyz0123456789").toList, (isLet c || isDig c) = true := fun c h => by
  have := in62 c
  rw [← this]; exact decide_eq_true h
theorem few_ok : ∀ c ∈ (Str.cps "abcxyzABCXYZ").toList, isLet c = true := by decide +kernel
theorem abz_ok : ∀ c ∈ (Str.cps "abz019AZ").toList, (isLet c || isDig c) = true := by decide +kernel
theorem sum1 : ∀ cs : List Nat, (cs.map fun _ => 1).sum = cs.length
  | [] => rfl
  | c :: cs => by rw [List.map_cons, List.sum_cons, sum1 cs, List.length_cons]; omega
theorem sum_ones (cs : List Nat) : (((cs.map fun c => (⟨#[c]⟩ : Str)).map (·.length)).sum + cs.length * (Str.length "")) = cs.length := by
  have : ((cs.map fun c => (⟨#[c]⟩ : Str)).map (·.length)) = cs.map fun _ => 1 := by rw [List.map_map]; rfl
  rw [this, sum1]
  show _ + _ * 0 = _
  omega
theorem strs_ones (cs : List Nat) : strsOf (cs.map fun c => D.str ⟨#[c]⟩) = some (cs.map fun c => (⟨#[c]⟩ : Str)) := by
  have := strsOf_map (cs.map fun c => (⟨#[c]⟩ : Str))
  rw [List.map_map] at this
  exact this
theorem name_pick {n : Nat} {B : Bag} (hB : B.Ok) {k : Bool} {T : D} {d : Int} :
    ∃ z, ∃ B' : Bag, nameOk z = true ∧ B'.Ok ∧ evB (csT tab (n + 2)) [true, false] nameI [some (.own B.ds), some (.v k T), some (.v true (.int d)), none, none, none, none] = some (.nx [some (.own B'.ds), some (.v k T), some (.v true (.int d)), some (.v true (.str z)), none, none, none]) := by
  have m9 : (csT tab (n + 2)).M 9 = [true, false] := cs_M (T := tab) (f := 9) rfl
  by_cases h0 : d = 0
  · subst h0
    have o9 := of_spec (n := n) hB (ds := wordsS.map .str) (by decide) (by decide) (k := true) (.inl rfl)
    have hd := digit_lt (B := B) (t := 14) (by omega)
    have hg : (wordsS.map D.str).getD (B.digit ((wordsS.map D.str).length)).toNat .non = .str (wordsS.getD (B.digit 14).toNat "") := by
      exact getD_map D.str wordsS _ "" .non (show _ < 14 by have : (B.digit 14).toNat < 14 := by omega
                                                            exact this)
    have hm : wordsS.getD (B.digit 14).toNat "" ∈ wordsS := by
      have hl : (B.digit 14).toNat < wordsS.length := show _ < 14 by omega
      rw [List.getD_eq_getElem?_getD, List.getElem?_eq_getElem hl]; exact List.getElem_mem hl
    rw [hg] at o9
    refine ⟨_, B.next 14, words_ok _ hm, next_ok hB (by omega), ?_⟩
    replace o9 : (csT tab (n + 2)).C 9 [.own B.ds, .v true (.lst [.str "book", .str "room", .str "family", .str "order", .str "end", .str "by", .str "any", .str "drop", .str "within", .str "together", .str "member", .str "points", .str "road", .str "rules"])] = some (.val (.str (wordsS.getD (B.digit 14).toNat "")), [.own (B.next 14).ds, .v true (.lst [.str "book", .str "room", .str "family", .str "order", .str "end", .str "by", .str "any", .str "drop", .str "within", .str "together", .str "member", .str "points", .str "road", .str "rules"])]) := o9
    generalize wordsS.getD (B.digit 14).toNat "" = z at *
    have hs : 14 ≤ sizeLine := by decide
    clear hd hg hm hB
    unfold nameI
    k_whileD _ _ _ "ev"
  · by_cases h1 : d = 1
    · subst h1
      have o9 := of_specS (n := n) (s := "ABCDEFGHIJKLMNOPQRSTUVWXYZabcdefghijklmnopqrstuvwxyz") hB (by decide) (by decide) (k := true)
      have hp := pick_memS (B := B) (s := "ABCDEFGHIJKLMNOPQRSTUVWXYZabcdefghijklmnopqrstuvwxyz") (by decide)
      have hN : (B.next ((Str.length "ABCDEFGHIJKLMNOPQRSTUVWXYZabcdefghijklmnopqrstuvwxyz" : Nat) : Int)).Ok := next_ok hB (by decide)
      revert o9 hp hN
      generalize (Str.cps "ABCDEFGHIJKLMNOPQRSTUVWXYZabcdefghijklmnopqrstuvwxyz").toList.getD _ _ = c
      generalize B.next _ = B1
      intro o9 hp hN
      obtain ⟨cs, B2, g1, g2, g3, g4⟩ := chars_loop (n := n) (S := "ABCDEFGHIJKLMNOPQRSTUVWXYZabcdefghijklmnopqrstuvwxyz0123456789") (by decide) (by decide) (k := k) (T := T) (P := .int 1) (a3 := some (.str ⟨#[c]⟩)) hN (e := cs__law_name_e0) rfl 11
      dsimp only [Option.map] at g4
      refine ⟨mkS (c :: cs), B2, nameOk_mk (let_ok c hp) (fun x hx => l62_ok x (g3 x hx)) (by omega), g1, ?_⟩
      have s1 := sum_ones cs
      have s2 := strs_ones cs
      have s3 := join_one cs
      have s4 : (⟨#[c]⟩ : Str) ++ mkS cs = mkS (c :: cs) := mkS_add [c] cs
      have s5 : cs.length ≤ 16777216 := by omega
      have hz := size_eq
      have s6 : (⟨#[c]⟩ : Str).length + (mkS cs).length ≤ sizeLine := by show 1 + cs.length ≤ _; omega
      have s7 : 11 ≤ sizeLine := by omega
      have e1 : ((1 : Int) = 0) = False := by simp
      clear hz hp hN g1 g2 g3 hB h0
      unfold nameI
      k_whileD _ _ _ "ev"
    · have o9 := of_specS (n := n) (s := "abcxyzABCXYZ") hB (by decide) (by decide) (k := true)
      have hp := pick_memS (B := B) (s := "abcxyzABCXYZ") (by decide)
      have hN : (B.next ((Str.length "abcxyzABCXYZ" : Nat) : Int)).Ok := next_ok hB (by decide)
      revert o9 hp hN
      generalize (Str.cps "abcxyzABCXYZ").toList.getD _ _ = c
      generalize B.next _ = B1
      intro o9 hp hN
      have o8 := of_spec (n := n) hN (ds := [.int 0, .int 0, .int 1, .int 2, .int 0, .int 1, .int 3]) (by decide) (by decide) (k := true) (.inl rfl)
      have hd := digit_lt (B := B1) (t := 7) (by omega)
      have hN2 : (B1.next 7).Ok := next_ok hN (by decide)
      obtain ⟨m, hm, hg⟩ : ∃ m : Nat, m ≤ 3 ∧ ([.int 0, .int 0, .int 1, .int 2, .int 0, .int 1, .int 3] : List D).getD (B1.digit 7).toNat .non = .int (m : Int) := by
        have h7 : (B1.digit 7).toNat < 7 := by omega
        generalize (B1.digit 7).toNat = i at h7
        match i, h7 with
        | 0, _ => exact ⟨0, by omega, rfl⟩
        | 1, _ => exact ⟨0, by omega, rfl⟩
        | 2, _ => exact ⟨1, by omega, rfl⟩
        | 3, _ => exact ⟨2, by omega, rfl⟩
        | 4, _ => exact ⟨0, by omega, rfl⟩
        | 5, _ => exact ⟨1, by omega, rfl⟩
        | 6, _ => exact ⟨3, by omega, rfl⟩
      replace o8 : (csT tab (n + 2)).C 9 [.own B1.ds, .v true (.lst [.int 0, .int 0, .int 1, .int 2, .int 0, .int 1, .int 3])] = some (.val (([.int 0, .int 0, .int 1, .int 2, .int 0, .int 1, .int 3] : List D).getD (B1.digit 7).toNat .non), [.own (B1.next 7).ds, .v true (.lst [.int 0, .int 0, .int 1, .int 2, .int 0, .int 1, .int 3])]) := o8
      rw [hg] at o8
      obtain ⟨cs, B2, g1, g2, g3, g4⟩ := chars_loop (n := n) (S := "abz019AZ") (by decide) (by decide) (k := k) (T := T) (P := .int d) (a3 := none) hN2 (e := cs__law_name_e1) rfl m
      dsimp only [Option.map] at g4
      refine ⟨mkS (c :: cs), B2, nameOk_mk (few_ok c hp) (fun x hx => abz_ok x (g3 x hx)) (by omega), g1, ?_⟩
      have s1 := sum_ones cs
      have s2 := strs_ones cs
      have s3 := join_one cs
      have s4 : (⟨#[c]⟩ : Str) ++ mkS cs = mkS (c :: cs) := mkS_add [c] cs
      have s5 : cs.length ≤ 16777216 := by omega
      have hz := size_eq
      have s6 : (⟨#[c]⟩ : Str).length + (mkS cs).length ≤ sizeLine := by show 1 + cs.length ≤ _; omega
      have s7 : m ≤ sizeLine := by omega
      have s8 : 7 ≤ sizeLine := by omega
      have hr : (-4611686018427387904 : Int) ≤ (m : Int) ∧ (m : Int) < 4611686018427387904 := ⟨by omega, by omega⟩
      have htn : ((m : Int)).toNat = m := rfl
      generalize B1.next 7 = B1' at *
      clear hz hp hN hN2 g1 g2 g3 hB hd hg hm
      unfold nameI
      k_whileD _ _ _ "ev"
theorem law_name_spec {n : Nat} {B : Bag} (hB : B.Ok) {k : Bool} {ts : List Str} (ht : ts.length ≤ 8) :
    ∃ z, ∃ B' : Bag, nameOk z = true ∧ z ∉ ts ∧ B'.Ok ∧ (csT tab (n + 3)).C 12 [.own B.ds, .v k (.lst (ts.map .str))] = some (.val (.str z), [.own B'.ds, .v k (.lst (ts.map .str))]) := by
  have m8 : (csT tab (n + 2)).M 8 = [true, false] := cs_M (T := tab) (f := 8) rfl
  have d8 := draw_spec (n := n + 1) hB (t := 7) (by omega) (by omega) (k := true)
  obtain ⟨z, B1, h1, h2, h3⟩ := name_pick (n := n) (next_ok hB (t := 7) (by omega)) (k := k) (T := .lst (ts.map .str)) (d := B.digit 7)
  obtain ⟨z', ρ', h4, h5, h6⟩ := name_tail (n := n + 2) (B := B1) (k := k) (ts := ts) (z := z) (p := .int (B.digit 7)) h1 ht
  refine ⟨z', B1, h4, h5, h2, ?_⟩
  rw [call_eq (T := tab) (f := 12) rfl rfl]
  show (evB (csT tab (n + 2)) [true, false] cs__law_name [some (.own B.ds), some (.v k _), none, none, none, none, none]).bind _ = _
  rw [name_parts]
  clear ht hB h1 h2 h4 h5
  k_whileD _ _ _ "ev"
end K09
namespace K09
open PySem L2 DL RL PyProof.Rows
local macro_rules | `(tactic| k_whileD _ _ _ "ev") => `(tactic| simp only [*, is_non_list, is_non_tuple, is_non_bool, is_non_str, is_non_int, is_non_dict, pl_non, isn_non, is_bl_list, is_bl_tuple, is_bl_bool, is_bl_str, is_bl_int, is_bl_dict, pl_bl, isn_bl, is_int_list, is_int_tuple, is_int_bool, is_int_str, is_int_int, is_int_dict, pl_int, isn_int, is_str_list, is_str_tuple, is_str_bool, is_str_str, is_str_int, is_str_dict, pl_str, isn_str, is_lst_list, is_lst_tuple, is_lst_bool, is_lst_str, is_lst_int, is_lst_dict, pl_lst, isn_lst, is_tup_list, is_tup_tuple, is_tup_bool, is_tup_str, is_tup_int, is_tup_dict, pl_tup, isn_tup, is_dk_list, is_dk_tuple, is_dk_bool, is_dk_str, is_dk_int, is_dk_dict, pl_dk, isn_dk, qv_atN, qv_atL, qv_ixLit, qv_mulL, qv_fdivL, qv_modL, qv_powL, Nat.reduceLT, Nat.reduceLeDiff, Nat.reduceAdd, Nat.zero_add, Nat.add_zero, Int.reduceLT, Int.reduceLE, Int.reducePow, Int.reduceToNat, Int.reduceEq, Int.reduceNeg, Int.reduceAdd, Int.reduceSub, Int.reduceMul, and_self, and_true, true_and, eq_self, not_true_eq_false, not_false_eq_true,
  ob_o, ob_v, ob_n, ob_s, fr_nil, fr_0, fr_s, nt_t, nt_f, iv_cst, iv_bin, iv_neg, iv_no, iv_one, iv_conj, iv_disj, iv_cmp, iv_ite, iv_idx, iv_sl, iv_lst, iv_tup, iv_fn, iv_isi, iv_call, iv_app, iv_ext, iv_pop, iv_rev, iv_count, iv_join, iv_comp, iv_compI, iv_comp2, iv_dk0, bf_int, bf_str, bf_list, bf_tuple, bf_sum, bf_all, bf_any, bf_sorted, bf_lenSet, chk_true,
  b_nil, b_seq, b_set, b_setIx, b_set2, b_expr, b_ret, b_retN, b_ife, b_for, b_pass, b_brk, b_cont, qv_nx, qv_ct, qv_bk, qv_ret, m_own, m_var, m_any,
  e_cst, e_var, e_bin, e_neg, e_no, e_one, e_conj, e_disj, e_cmp, e_ite, e_idxO, e_idxV, e_idx, e_sl, e_lst, e_tup, e_lenO, e_fnV, e_fnL, e_fn, e_isi, e_call, e_app, e_ext, e_pop, e_rev, e_count, e_join, e_comp, e_compI, e_comp2, e_dk0, f_range,
  t_no, t_one, t_conj, t_disj, t_cmp, t_chain, t_varB, t_fn, t_isi, t_call, o_nil, o_one, a_nil, a_cons, a_star, s_nil, s_own, s_var, s_cons, w_range, w_zip, w_enum, w_one,
  Option.bind_some, Option.bind_none, Option.map_some, List.getElem?_cons_zero, List.getElem?_cons_succ, List.set_cons_zero, List.set_cons_succ, chk_pos, List.length_cons, List.length_nil, List.length_map, List.all_cons, List.all_nil, Bool.and_true, Bool.true_and, Bool.false_and, Bool.and_false, Bool.and_self, Bool.not_false, Bool.not_true,
  qv_int, qv_bl, qv_str, qv_toT, qv_toO, qv_toI, qv_toS, qv_toB, qv_toN, qv_fixV, qv_fixO, qv_datV, qv_datO, qv_add, qv_addI, qv_addS, qv_addL, qv_sub, qv_mulC, qv_fdivC, qv_modC, qv_powC, qv_in, qv_nin, qv_is, qv_isnt, qv_eq, qv_ne, qv_eqI, qv_eqS, qv_eqB, qv_lt, qv_le, qv_gt, qv_ge, qv_dle, qv_inS, qv_inL, qv_inT,
  qv_ixL, qv_ixT, qv_ixS, qv_lenL, qv_lenT, qv_lenO, qv_lenS, qv_itO, qv_itL, qv_itT, qv_itL', qv_itT', qv_sqO, qv_sqL, qv_sqT, qv_lsO, qv_lsV, qv_lkO, qv_lkT, qv_lkS, qv_len, qv_intf, qv_strf, qv_list, qv_tupleT, qv_tupleL, qv_tupleO, qv_sum, qv_all, qv_any, qv_sorted, qv_lenSet, qv_slS, qv_slL, qv_slO, qv_wkO, qv_wkL, qv_wkT, qv_wkS, qv_getO0, qv_getOS, qv_varV, qv_varO,
  qv_nvT, qv_nvI, qv_nvS, qv_nvB, qv_nvN, qv_nvO, qv_argV, qv_argO, qv_atp, qv_ixp, qv_isi1, qv_isi2, qv_call, qv_aNil, qv_aCons, qv_aEx, qv_aOwn, qv_aBor, qv_backV, qv_backO, qv_backB, qv_backN, if_true, if_false, Bool.false_eq_true, reduceIte, decide_true, decide_false, Bool.or_true, Bool.true_or, Bool.or_false, Bool.false_or, sc_non, sc_bl, sc_int, sc_str, sc_lst, sc_tup, sc_dk,
  mk_sv, kp_sv, bk_sv, no_sv, x_ext, wp_nil, wp_cons, mk_nil, mk_o, mk_v, mk_n, mg_nil, mg_cons, mg_t, mg_f, kp_v, kp_n, kp_o, bk_same, bk_o, bk_t, bk_f, bk_n, by_nm, by_two, no_nil, no_o, no_v, no_n, rb_v, rb_o, os_nil, os_o, os_v, fin_ret, fin_nx, List.contains_cons, List.contains_nil, Nat.reduceBEq, Nat.reduceEqDiff, List.nodup_cons, List.nodup_nil, varsOf, List.not_mem_nil, List.mem_cons, List.mem_singleton, or_false, false_or, or_true, true_or, decide_eq_true_eq, Tgt.ix, isOwn, List.map_cons, List.map_nil, List.cons_append, List.nil_append])
def rowsD (rows : List (List Nat)) : List D := rows.map fun row => .lst (natD row)
theorem growP_snoc (rows : List (List Nat)) (row : List Nat) (r : Wish) : growP (rows ++ [row]) r = growP rows r ++ (List.range (r.2.length + 1)).map fun p => row ++ [p] := by
  unfold growP; rw [List.flatMap_append, List.flatMap_singleton]
theorem rowsD_app (a b : List (List Nat)) : rowsD (a ++ b) = rowsD a ++ rowsD b := List.map_append ..
theorem rowsD_len (a : List (List Nat)) : (rowsD a).length = a.length := List.length_map _
theorem ext_row {n : Nat} {k k0 : Bool} {D0 : D} {rows : List (List Nat)} {acc : List (List Nat)} {r : Wish} {row : List Nat} (hr : r.2.length < 1000000) (hl : row.length < 1000000) (hz : acc.length + r.2.length < 1000000) :
    evB (csT tab n) [false] cs__law_ways_f0 [some (.v k0 D0), some (.val (.lst (rowsD rows))), some (.v k (rowD r)), some (.own (rowsD acc)), some (.v true (.lst (natD row))), none, none, none, none] = some (.nx [some (.v k0 D0), some (.val (.lst (rowsD rows))), some (.v k (rowD r)), some (.own (rowsD (acc ++ (List.range (r.2.length + 1)).map fun p => row ++ [p]))), some (.v true (.lst (natD row))), none, none, none, none]) := by
  have hsz := size_eq
  have hc : compL (compF (csT tab n) cs__law_ways_e0 (.nm 5) [5] (fun t => .one (.val (.int (t : Int))))) 0 (r.2.length + 1) [some (.v k0 D0), some (.val (.lst (rowsD rows))), some (.v k (rowD r)), some (.own (rowsD acc)), some (.v true (.lst (natD row))), none, none, none, none] [] = some (rowsD ((List.range (r.2.length + 1)).map fun p => row ++ [p]), [some (.v k0 D0), some (.val (.lst (rowsD rows))), some (.v k (rowD r)), some (.own (rowsD acc)), some (.v true (.lst (natD row))), none, none, none, none]) := by
    unfold rowsD
    rw [List.map_map]
    refine compL_map _ fun t ht => ?_
    show _ = some (some (D.lst (natD (row ++ [t]))), _)
    have e : natD (row ++ [t]) = natD row ++ [.int (t : Int)] := by unfold natD; rw [List.map_append]; rfl
    have hs : (natD row).length + 1 ≤ sizeLine := by unfold natD; rw [List.length_map]; omega
    have h1 : 1 ≤ sizeLine := by omega
    rw [e]
    generalize List.map (fun row => D.lst (natD row)) rows = Q at *
    generalize List.map (fun row => D.lst (natD row)) acc = Q2 at *
    clear hsz hr hl hz ht e
    unfold compF cs__law_ways_e0
    k_whileD _ _ _ "ev"
  have hl1 := row_len k r
  have hb : (-4611686018427387904 : Int) ≤ ((r.2.length : Nat) : Int) + 1 ∧ ((r.2.length : Nat) : Int) + 1 < 4611686018427387904 := ⟨by omega, by omega⟩
  have ht : (((r.2.length : Nat) : Int) + 1).toNat = r.2.length + 1 := by omega
  have hs1 : r.2.length + 1 ≤ sizeLine := by omega
  have hs2 : (rowsD acc).length + (rowsD ((List.range (r.2.length + 1)).map fun p => row ++ [p])).length ≤ sizeLine := by
    rw [rowsD_len, rowsD_len, List.length_map, List.length_range]; omega
  have hx : ∀ (ρ : DL.Env) (a b : List D), a.length + b.length ≤ sizeLine → extS ρ 3 a (.lst b) = some (.val .non, ρ.set 3 (some (.own (a ++ b)))) := fun ρ a b h => chk_pos h
  replace hx := fun (ρ : DL.Env) => hx ρ _ _ hs2
  rw [rowsD_app]
  generalize rowsD ((List.range (r.2.length + 1)).map fun p => row ++ [p]) = Q at *
  clear hsz hr hl hz
  unfold cs__law_ways_f0
  k_whileD _ _ _ "ev"
theorem growP_take {rows : List (List Nat)} {t : Nat} {row : List Nat} {r : Wish} (h : rows[t]? = some row) : growP (rows.take (t + 1)) r = growP (rows.take t) r ++ (List.range (r.2.length + 1)).map fun p => row ++ [p] := by
  rw [List.take_add_one, h]; exact growP_snoc _ _ _
theorem long_rows {n : Nat} {k k0 : Bool} {D0 : D} {rows : List (List Nat)} {r : Wish} {b4 : Option (Bool × D)} (hr : r.2.length < 100) (hl : ∀ row ∈ rows, row.length < 1000000) (hz : rows.length * (r.2.length + 1) < 100000) :
    ∃ b4', evB (csT tab n) [false] cs__law_ways_f1 [some (.v k0 D0), some (.val (.lst (rowsD rows))), some (.v k (rowD r)), none, sv b4, none, none, none, none] = some (.nx [some (.v k0 D0), some (.val (.lst (rowsD (growP rows r)))), some (.v k (rowD r)), none, sv b4', none, none, none, none]) := by
  obtain ⟨ρ', h1, a, rfl⟩ := forL_ind (f := forF (csT tab n) [false] (.nm 4) (fun t => .one (.v true ((rowsD rows).getD t .non))) cs__law_ways_f0)
    (fun t ρ => ∃ a, ρ = [some (.v k0 D0), some (.val (.lst (rowsD rows))), some (.v k (rowD r)), some (.own (rowsD (growP (rows.take t) r))), sv a, none, none, none, none]) (m := rows.length) (s := 0) (ρ := [some (.v k0 D0), some (.val (.lst (rowsD rows))), some (.v k (rowD r)), some (.own []), sv b4, none, none, none, none]) ⟨b4, rfl⟩ fun t ρ _ ht ⟨a, hj⟩ => by
      subst hj
      have hx : rows[t]? = some rows[t] := List.getElem?_eq_getElem (by omega)
      have hg : (rowsD rows).getD t .non = .lst (natD rows[t]) := by unfold rowsD; rw [List.getD_eq_getElem?_getD, List.getElem?_map, hx]; rfl
      refine ⟨_, ?_, some (true, .lst (natD rows[t])), rfl⟩
      rw [growP_take hx]
      have hle : (growP (rows.take t) r).length ≤ rows.length * (r.2.length + 1) := by
        rw [growP_len]; exact Nat.mul_le_mul_right _ (by rw [List.length_take]; omega)
      have := ext_row (n := n) (k := k) (k0 := k0) (D0 := D0) (rows := rows) (acc := growP (rows.take t) r) (r := r) (row := rows[t]) (by omega) (hl _ (List.mem_of_getElem? hx)) (by omega)
      unfold forF
      dsimp only
      rw [hg]
      exact this
  rw [Nat.zero_add, List.take_length] at h1
  refine ⟨a, ?_⟩
  have hq := rowsD_len rows
  have h0 : 0 ≤ sizeLine := Nat.zero_le _
  clear hr hl hz
  unfold cs__law_ways_f1
  k_whileD _ _ _ "ev"
def anyP (W : List Wish) (row : List Nat) : Bool := (List.range W.length).any fun t => decide (row.getD t 0 < (W.getD t (false, [])).2.length)
theorem seq_row (k : Bool) (ps : List Nat) : seqS (.v k (.lst (natD ps))) = some (k, natD ps) := rfl
theorem ints_natL (row : List Nat) : RL.intsOf (natD row) = some (natsI row) := ints_nat row
theorem nat_at {row : List Nat} {t : Nat} (h : t < row.length) : atI (natD row) (t : Int) = some (.int ((row.getD t 0 : Nat) : Int)) := by
  refine atI_nat ?_
  unfold natD
  rw [List.getElem?_map, List.getD_eq_getElem?_getD, List.getElem?_eq_getElem h]; rfl
theorem wish_at {k b : Bool} {W : List Wish} {t : Nat} (h : t < W.length) : idxS (.v k (wishD b W)) (t : Int) = some (.v k (rowD (W.getD t (false, [])))) := by
  have e : atI (W.map rowD) (t : Int) = some (rowD (W.getD t (false, []))) := by
    refine atI_nat ?_
    rw [List.getElem?_map, List.getD_eq_getElem?_getD, List.getElem?_eq_getElem h]; rfl
  cases b
  · show idxS (.v k (.lst _)) _ = _
    rw [qv_ixL, e]; rfl
  · show idxS (.v k (.tup _)) _ = _
    rw [qv_ixT, e]; rfl
theorem wish_len (k b : Bool) (W : List Wish) : lenS (.v k (wishD b W)) = some W.length := by
  cases b <;> show some _ = _ <;> rw [List.length_map]
theorem any_loop {n : Nat} {k b : Bool} {W : List Wish} {row : List Nat} {R : D} {acc : List D} {a : Option (Bool × D)} {c : Int} (h : WLen W) (hr : row.length = W.length) :
    compL (compF (csT tab n) cs__law_ways_e2 (.nm 8) [8] (fun t => .one (.val (.int (t : Int))))) 0 W.length [some (.v k (wishD b W)), some (.val R), sv a, none, some (.v true (.lst (natD row))), none, some (.own acc), some (.val (.int c)), none] [] = some ((List.range W.length).map fun t => .bl (decide (row.getD t 0 < (W.getD t (false, [])).2.length)), [some (.v k (wishD b W)), some (.val R), sv a, none, some (.v true (.lst (natD row))), none, some (.own acc), some (.val (.int c)), none]) := by
  refine compL_map _ fun t ht => ?_
  have h1 := nat_at (row := row) (t := t) (by omega)
  have h2 := wish_at (k := k) (b := b) ht
  have h3 := row_len k (W.getD t (false, []))
  unfold compF cs__law_ways_e2
  generalize row.getD t 0 = p at *
  generalize W.getD t (false, []) = r at *
  clear h hr ht
  by_cases hp : p < r.2.length
  · rw [decide_eq_true hp]
    have hp' : ((p : Nat) : Int) < ((r.2.length : Nat) : Int) := by omega
    clear hp
    k_whileD _ _ _ "ev"
  · rw [decide_eq_false hp]
    have hp' : ¬ ((p : Nat) : Int) < ((r.2.length : Nat) : Int) := by omega
    clear hp
    k_whileD _ _ _ "ev"
end K09
namespace K09
open PySem L2 DL RL PyProof.Rows
local macro_rules | `(tactic| k_whileD _ _ _ "ev") => `(tactic| simp only [*, is_non_list, is_non_tuple, is_non_bool, is_non_str, is_non_int, is_non_dict, pl_non, isn_non, is_bl_list, is_bl_tuple, is_bl_bool, is_bl_str, is_bl_int, is_bl_dict, pl_bl, isn_bl, is_int_list, is_int_tuple, is_int_bool, is_int_str, is_int_int, is_int_dict, pl_int, isn_int, is_str_list, is_str_tuple, is_str_bool, is_str_str, is_str_int, is_str_dict, pl_str, isn_str, is_lst_list, is_lst_tuple, is_lst_bool, is_lst_str, is_lst_int, is_lst_dict, pl_lst, isn_lst, is_tup_list, is_tup_tuple, is_tup_bool, is_tup_str, is_tup_int, is_tup_dict, pl_tup, isn_tup, is_dk_list, is_dk_tuple, is_dk_bool, is_dk_str, is_dk_int, is_dk_dict, pl_dk, isn_dk, qv_atN, qv_atL, qv_ixLit, qv_mulL, qv_fdivL, qv_modL, qv_powL, Nat.reduceLT, Nat.reduceLeDiff, Nat.reduceAdd, Nat.zero_add, Nat.add_zero, Int.reduceLT, Int.reduceLE, Int.reducePow, Int.reduceToNat, Int.reduceEq, Int.reduceNeg, Int.reduceAdd, Int.reduceSub, Int.reduceMul, and_self, and_true, true_and, eq_self, not_true_eq_false, not_false_eq_true,
  ob_o, ob_v, ob_n, ob_s, fr_nil, fr_0, fr_s, nt_t, nt_f, iv_cst, iv_bin, iv_neg, iv_no, iv_one, iv_conj, iv_disj, iv_cmp, iv_ite, iv_idx, iv_sl, iv_lst, iv_tup, iv_fn, iv_isi, iv_call, iv_app, iv_ext, iv_pop, iv_rev, iv_count, iv_join, iv_comp, iv_compI, iv_comp2, iv_dk0, bf_int, bf_str, bf_list, bf_tuple, bf_sum, bf_all, bf_any, bf_sorted, bf_lenSet, chk_true,
  b_nil, b_seq, b_set, b_setIx, b_set2, b_expr, b_ret, b_retN, b_ife, b_for, b_pass, b_brk, b_cont, qv_nx, qv_ct, qv_bk, qv_ret, m_own, m_var, m_any,
  e_cst, e_var, e_bin, e_neg, e_no, e_one, e_conj, e_disj, e_cmp, e_ite, e_idxO, e_idxV, e_idx, e_sl, e_lst, e_tup, e_lenO, e_fnV, e_fnL, e_fn, e_isi, e_call, e_app, e_ext, e_pop, e_rev, e_count, e_join, e_comp, e_compI, e_comp2, e_dk0, f_range,
  t_no, t_one, t_conj, t_disj, t_cmp, t_chain, t_varB, t_fn, t_isi, t_call, o_nil, o_one, a_nil, a_cons, a_star, s_nil, s_own, s_var, s_cons, w_range, w_zip, w_enum, w_one,
  Option.bind_some, Option.bind_none, Option.map_some, List.getElem?_cons_zero, List.getElem?_cons_succ, List.set_cons_zero, List.set_cons_succ, chk_pos, List.length_cons, List.length_nil, List.length_map, List.all_cons, List.all_nil, Bool.and_true, Bool.true_and, Bool.false_and, Bool.and_false, Bool.and_self, Bool.not_false, Bool.not_true,
  qv_int, qv_bl, qv_str, qv_toT, qv_toO, qv_toI, qv_toS, qv_toB, qv_toN, qv_fixV, qv_fixO, qv_datV, qv_datO, qv_add, qv_addI, qv_addS, qv_addL, qv_sub, qv_mulC, qv_fdivC, qv_modC, qv_powC, qv_in, qv_nin, qv_is, qv_isnt, qv_eq, qv_ne, qv_eqI, qv_eqS, qv_eqB, qv_lt, qv_le, qv_gt, qv_ge, qv_dle, qv_inS, qv_inL, qv_inT,
  qv_ixL, qv_ixT, qv_ixS, qv_lenL, qv_lenT, qv_lenO, qv_lenS, qv_itO, qv_itL, qv_itT, qv_itL', qv_itT', qv_sqO, qv_sqL, qv_sqT, qv_lsO, qv_lsV, qv_lkO, qv_lkT, qv_lkS, qv_len, qv_intf, qv_strf, qv_list, qv_tupleT, qv_tupleL, qv_tupleO, qv_sum, qv_all, qv_any, qv_sorted, qv_lenSet, qv_slS, qv_slL, qv_slO, qv_wkO, qv_wkL, qv_wkT, qv_wkS, qv_getO0, qv_getOS, qv_varV, qv_varO,
  qv_nvT, qv_nvI, qv_nvS, qv_nvB, qv_nvN, qv_nvO, qv_argV, qv_argO, qv_atp, qv_ixp, qv_isi1, qv_isi2, qv_call, qv_aNil, qv_aCons, qv_aEx, qv_aOwn, qv_aBor, qv_backV, qv_backO, qv_backB, qv_backN, if_true, if_false, Bool.false_eq_true, reduceIte, decide_true, decide_false, Bool.or_true, Bool.true_or, Bool.or_false, Bool.false_or, sc_non, sc_bl, sc_int, sc_str, sc_lst, sc_tup, sc_dk,
  mk_sv, kp_sv, bk_sv, no_sv, x_ext, wp_nil, wp_cons, mk_nil, mk_o, mk_v, mk_n, mg_nil, mg_cons, mg_t, mg_f, kp_v, kp_n, kp_o, bk_same, bk_o, bk_t, bk_f, bk_n, by_nm, by_two, no_nil, no_o, no_v, no_n, rb_v, rb_o, os_nil, os_o, os_v, fin_ret, fin_nx, List.contains_cons, List.contains_nil, Nat.reduceBEq, Nat.reduceEqDiff, List.nodup_cons, List.nodup_nil, varsOf, List.not_mem_nil, List.mem_cons, List.mem_singleton, or_false, false_or, or_true, true_or, decide_eq_true_eq, Tgt.ix, isOwn, List.map_cons, List.map_nil, List.cons_append, List.nil_append])
theorem tup_loop {n : Nat} {k b : Bool} {W : List Wish} {row : List Nat} {R : D} {acc : List D} {a : Option (Bool × D)} {c : Int} (h : WLen W) (hr : row.length = W.length) :
    compL (compF (csT tab n) cs__law_ways_e3 (.nm 8) [8] (fun t => .one (.val (.int (t : Int))))) 0 W.length [some (.v k (wishD b W)), some (.val R), sv a, none, some (.v true (.lst (natD row))), none, some (.own acc), some (.val (.int c)), none] [] = some ((wayOf W row).map .str, [some (.v k (wishD b W)), some (.val R), sv a, none, some (.v true (.lst (natD row))), none, some (.own acc), some (.val (.int c)), none]) := by
  unfold wayOf
  rw [List.map_map]
  refine compL_map _ fun t ht => ?_
  have h1 := nat_at (row := row) (t := t) (by omega)
  have h2 := wish_at (k := k) (b := b) ht
  have h3 := row_len k (W.getD t (false, []))
  show _ = some (some (D.str (signAt (W.getD t (false, [])) (row.getD t 0))), _)
  unfold compF cs__law_ways_e3 signAt
  generalize row.getD t 0 = p at *
  generalize W.getD t (false, []) = r at *
  clear h hr ht
  by_cases hp : p < r.2.length
  · rw [if_pos hp]
    have hp' : ((p : Nat) : Int) < ((r.2.length : Nat) : Int) := by omega
    have h4 := row_ix (k := k) hp
    clear hp
    k_whileD _ _ _ "ev"
  · rw [if_neg hp]
    have hp' : ¬ ((p : Nat) : Int) < ((r.2.length : Nat) : Int) := by omega
    clear hp
    k_whileD _ _ _ "ev"
theorem any_bls (xs : List Bool) : blsOf (xs.map D.bl) = some xs := blsOf_map xs
theorem row_step {n : Nat} {k b : Bool} {W : List Wish} {row : List Nat} {R : D} {acc : List D} {a : Option (Bool × D)} {c : Int} (h : WLen W) (hr : row.length = W.length) (hz : acc.length < 16000000) :
    evB (csT tab n) [false] cs__law_ways_f2 [some (.v k (wishD b W)), some (.val R), sv a, none, some (.v true (.lst (natD row))), none, some (.own acc), some (.val (.int c)), none] = some (.nx [some (.v k (wishD b W)), some (.val R), sv a, none, some (.v true (.lst (natD row))), none, some (.own (acc ++ (if decide ((natsI row).sum = c) && anyP W row then [tupS (wayOf W row)] else []))), some (.val (.int c)), none]) := by
  have h1 := any_loop (n := n) (k := k) (b := b) (R := R) (acc := acc) (a := a) (c := c) h hr
  have h2 := tup_loop (n := n) (k := k) (b := b) (R := R) (acc := acc) (a := a) (c := c) h hr
  have h3 : blsOf ((List.range W.length).map fun t => D.bl (decide (row.getD t 0 < (W.getD t (false, [])).2.length))) = some ((List.range W.length).map fun t => decide (row.getD t 0 < (W.getD t (false, [])).2.length)) := by
    rw [← any_bls, List.map_map]; rfl
  have h4 : ((List.range W.length).map fun t => decide (row.getD t 0 < (W.getD t (false, [])).2.length)).any id = anyP W row := by
    unfold anyP; rw [List.any_map]; rfl
  have h5 := ints_nat row
  have h6 := wish_len k b W
  have hsz := size_eq
  have an : acc ++ [] = acc := List.append_nil _
  have hw := h.len
  have s1 : (-4611686018427387904 : Int) ≤ ((W.length : Nat) : Int) ∧ ((W.length : Nat) : Int) < 4611686018427387904 := ⟨by omega, by omega⟩
  have s2 : W.length ≤ sizeLine := by omega
  have s3 : (((W.length : Nat) : Int)).toNat = W.length := by omega
  have s4 : acc.length < sizeLine := by omega
  have s5 : ((wayOf W row).map D.str).length ≤ sizeLine := by
    rw [List.length_map]; unfold wayOf; rw [List.length_map, List.length_range]; omega
  unfold tupS
  generalize (wayOf W row).map D.str = Q at *
  generalize ((List.range W.length).map fun t => D.bl (decide (row.getD t 0 < (W.getD t (false, [])).2.length))) = Q2 at *
  generalize ((List.range W.length).map fun t => (decide (row.getD t 0 < (W.getD t (false, [])).2.length))) = Q3 at *
  clear h hr hz hsz hw
  unfold cs__law_ways_f2
  by_cases hc : (natsI row).sum = c
  · rw [decide_eq_true hc]
    cases ha : anyP W row with
    | true =>
      rw [ha] at h4
      clear ha
      k_whileD _ _ _ "ev"
    | false =>
      rw [ha] at h4
      clear ha
      k_whileD _ _ _ "ev"
  · rw [decide_eq_false hc]
    k_whileD _ _ _ "ev"
def costL (W : List Wish) (c : Int) (rows : List (List Nat)) : List D := (rows.filter fun row => decide ((natsI row).sum = c) && anyP W row).map fun row => tupS (wayOf W row)
theorem costL_len (W : List Wish) (c : Int) (rows : List (List Nat)) : (costL W c rows).length ≤ rows.length := by
  unfold costL; rw [List.length_map]; exact List.length_filter_le ..
theorem costL_snoc (W : List Wish) (c : Int) {rows : List (List Nat)} {t : Nat} {row : List Nat} (h : rows[t]? = some row) : costL W c (rows.take (t + 1)) = costL W c (rows.take t) ++ (if decide ((natsI row).sum = c) && anyP W row then [tupS (wayOf W row)] else []) := by
  unfold costL
  rw [List.take_add_one, h, List.filter_append, List.map_append]
  congr 1
  cases hb : (decide ((natsI row).sum = c) && anyP W row) <;> simp [List.filter_cons, hb]
theorem cost_step {n : Nat} {k b : Bool} {W : List Wish} {acc : List D} {a b4 : Option (Bool × D)} {c : Int} (h : WLen W) (hz : acc.length < 15000000) :
    ∃ b4', evB (csT tab n) [false] cs__law_ways_f3 [some (.v k (wishD b W)), some (.val (.lst (rowsD (allP W)))), sv a, none, sv b4, none, some (.own acc), some (.val (.int c)), none] = some (.nx [some (.v k (wishD b W)), some (.val (.lst (rowsD (allP W)))), sv a, none, sv b4', none, some (.own (acc ++ costL W c (allP W))), some (.val (.int c)), none]) := by
  obtain ⟨p1, p2⟩ := h.places
  obtain ⟨ρ', h1, b4', rfl⟩ := forL_ind (f := forF (csT tab n) [false] (.nm 4) (fun t => .one (.v true ((rowsD (allP W)).getD t .non))) cs__law_ways_f2)
    (fun t ρ => ∃ b4, ρ = [some (.v k (wishD b W)), some (.val (.lst (rowsD (allP W)))), sv a, none, sv b4, none, some (.own (acc ++ costL W c ((allP W).take t))), some (.val (.int c)), none]) (m := (allP W).length) (s := 0) (ρ := [some (.v k (wishD b W)), some (.val (.lst (rowsD (allP W)))), sv a, none, sv b4, none, some (.own acc), some (.val (.int c)), none]) ⟨b4, by show _ = [_, _, _, _, _, _, some (Slot.own (acc ++ [])), _, _]; rw [List.append_nil]⟩ fun t ρ _ ht ⟨b4, hj⟩ => by
      subst hj
      have hx : (allP W)[t]? = some (allP W)[t] := List.getElem?_eq_getElem (by omega)
      have hg : (rowsD (allP W)).getD t .non = .lst (natD (allP W)[t]) := by unfold rowsD; rw [List.getD_eq_getElem?_getD, List.getElem?_map, hx]; rfl
      refine ⟨_, ?_, some (true, .lst (natD (allP W)[t])), rfl⟩
      have hl : (acc ++ costL W c ((allP W).take t)).length < 16000000 := by
        have := costL_len W c ((allP W).take t)
        rw [List.length_take] at this
        rw [List.length_append]; omega
      have := row_step (n := n) (k := k) (b := b) (R := .lst (rowsD (allP W))) (a := a) (c := c) h (p2 _ (List.mem_of_getElem? hx)) hl
      rw [costL_snoc W c hx, ← List.append_assoc]
      unfold forF
      dsimp only
      rw [hg]
      exact this
  rw [Nat.zero_add, List.take_length] at h1
  refine ⟨b4', ?_⟩
  have hq := rowsD_len (allP W)
  clear h hz p1 p2
  unfold cs__law_ways_f3
  k_whileD _ _ _ "ev"
def totW (W : List Wish) : Nat := (W.map fun r => r.2.length).sum
def dueOf (W : List Wish) : List D := (List.range (totW W + 1)).flatMap fun (c : Nat) => costL W (c : Int) (allP W)
theorem totW_le {W : List Wish} (h : WLen W) : totW W ≤ 35 := by
  have : ∀ (W : List Wish), (∀ r ∈ W, r.2.length ≤ 7) → totW W ≤ W.length * 7 := by
    intro W
    induction W with
    | nil => intro _; exact Nat.le_refl _
    | cons r W ih =>
      intro hr
      have h1 := ih fun x hx => hr x (List.mem_cons_of_mem _ hx)
      have h2 := hr r List.mem_cons_self
      unfold totW at *
      rw [List.map_cons, List.sum_cons, List.length_cons]
      omega
  have h1 := this W h.row
  have := h.len
  omega
theorem due_len {W : List Wish} (h : WLen W) (t : Nat) : ((List.range t).flatMap fun (c : Nat) => costL W (c : Int) (allP W)).length ≤ t * 32768 := by
  obtain ⟨p1, _⟩ := h.places
  induction t with
  | zero => simp
  | succ t ih =>
    rw [List.range_succ, List.flatMap_append, List.length_append, List.flatMap_singleton]
    have := costL_len W (t : Int) (allP W)
    omega
theorem sum_lens {ms : List Nat} : ((ms.map fun m => ((m : Nat) : Int)).sum) = ((ms.sum : Nat) : Int) := by
  induction ms with
  | nil => rfl
  | cons m ms ih => rw [List.map_cons, List.sum_cons, ih, List.sum_cons]; omega
theorem law_ways_spec {n : Nat} {k b : Bool} {W : List Wish} (h : WLen W) :
    (csT tab (n + 1)).C 13 [.v k (wishD b W)] = some (.own (dueOf W), [.v k (wishD b W)]) := by
  rw [call_eq (T := tab) (f := 13) rfl rfl]
  show (evB (csT tab n) [false] cs__law_ways [some (.v k _), none, none, none, none, none, none, none, none]).bind _ = _
  have hsz := size_eq
  have hw := h.len
  have hT := totW_le h
  obtain ⟨ρ1, h1, a, b4, rfl⟩ := forL_ind (f := forF (csT tab n) [false] (.nm 2) (fun t => .one (.v k ((W.map rowD).getD t .non))) cs__law_ways_f1)
    (fun t ρ => ∃ a b4, ρ = [some (.v k (wishD b W)), some (.val (.lst (rowsD (allP (W.take t))))), sv a, none, sv b4, none, none, none, none]) (m := W.length) (s := 0) (ρ := [some (.v k (wishD b W)), some (.val (.lst [.lst []])), none, none, none, none, none, none, none]) ⟨none, none, rfl⟩ fun t ρ _ ht ⟨a, b4, hj⟩ => by
      subst hj
      have hx : W[t]? = some W[t] := List.getElem?_eq_getElem (by omega)
      have hg : (W.map rowD).getD t .non = rowD W[t] := by rw [List.getD_eq_getElem?_getD, List.getElem?_map, hx]; rfl
      obtain ⟨p1, p2⟩ := (h.take t).places
      obtain ⟨p3, _⟩ := (h.take (t + 1)).places
      have hl : (W.take t).length ≤ 5 := (h.take t).len
      have hr := h.row _ (List.mem_of_getElem? hx)
      rw [take_snocW hx, growP_len] at p3
      obtain ⟨b5, h5⟩ := long_rows (n := n) (k := k) (k0 := k) (D0 := wishD b W) (rows := allP (W.take t)) (r := W[t]) (b4 := b4) (by omega) (fun row hrow => by rw [p2 row hrow]; omega) (by omega)
      rw [take_snocW hx]
      refine ⟨_, ?_, some (k, rowD W[t]), b5, rfl⟩
      unfold forF
      dsimp only
      rw [hg]
      exact h5
  rw [Nat.zero_add, List.take_length] at h1
  have hc : compL (compF (csT tab n) cs__law_ways_e1 (.nm 2) [2] (fun t => .one (.v k ((W.map rowD).getD t .non)))) 0 W.length [some (.v k (wishD b W)), some (.val (.lst (rowsD (allP W)))), sv a, none, sv b4, none, some (.own []), none, none] [] = some ((W.map fun r => ((r.2.length : Nat) : Int)).map .int, [some (.v k (wishD b W)), some (.val (.lst (rowsD (allP W)))), sv a, none, sv b4, none, some (.own []), none, none]) := by
    rw [List.map_map]
    rw [compL_map (fun t => .int (((W.getD t (false, [])).2.length : Nat) : Int)) fun t ht => ?_]
    · rw [range_getD W (false, []) fun r => D.int ((r.2.length : Nat) : Int)]; rfl
    · have hx : W[t]? = some W[t] := List.getElem?_eq_getElem ht
      have hg : (W.map rowD).getD t .non = rowD W[t] := by rw [List.getD_eq_getElem?_getD, List.getElem?_map, hx]; rfl
      have hg2 : W.getD t (false, []) = W[t] := by rw [List.getD_eq_getElem?_getD, hx]; rfl
      rw [hg2]
      have h3 := row_len k W[t]
      unfold compF
      dsimp only
      rw [hg]
      generalize W[t] = r at *
      clear hg hx ht hT hw hsz h1 h
      unfold cs__law_ways_e1
      k_whileD _ _ _ "ev"
  have hs : RL.intsOf ((W.map fun r => ((r.2.length : Nat) : Int)).map .int) = some (W.map fun r => ((r.2.length : Nat) : Int)) := RL.intsOf_map _
  have ht : (W.map fun r => ((r.2.length : Nat) : Int)).sum = ((totW W : Nat) : Int) := by
    have := sum_lens (ms := W.map fun r => r.2.length)
    rw [List.map_map] at this
    exact this
  obtain ⟨ρ2, h2, b5, c5, rfl⟩ := forL_ind (f := forF (csT tab n) [false] (.nm 7) (fun t => .one (.val (.int (t : Int)))) cs__law_ways_f3)
    (fun t ρ => ∃ b4 c, ρ = [some (.v k (wishD b W)), some (.val (.lst (rowsD (allP W)))), sv a, none, sv b4, none, some (.own ((List.range t).flatMap fun (c : Nat) => costL W (c : Int) (allP W))), sv c, none]) (m := totW W + 1) (s := 0) (ρ := [some (.v k (wishD b W)), some (.val (.lst (rowsD (allP W)))), sv a, none, sv b4, none, some (.own []), none, none]) ⟨b4, none, rfl⟩ fun t ρ _ ht ⟨b4, c, hj⟩ => by
      subst hj
      have hl := due_len h t
      obtain ⟨b5, h5⟩ := cost_step (n := n) (k := k) (b := b) (acc := (List.range t).flatMap fun (c : Nat) => costL W (c : Int) (allP W)) (a := a) (b4 := b4) (c := (t : Int)) h (by omega)
      refine ⟨_, ?_, b5, some (true, .int (t : Int)), rfl⟩
      rw [List.range_succ, List.flatMap_append, List.flatMap_singleton]
      unfold forF
      dsimp only
      exact h5
  rw [Nat.zero_add] at h2
  have w1 : wkS (.v k (wishD b W)) = some ⟨W.length, fun t => .one (.v k ((W.map rowD).getD t .non))⟩ := by
    have := wish_wk k b (W.map rowD)
    rw [List.length_map] at this
    exact this
  have s1 : (-4611686018427387904 : Int) ≤ ((totW W : Nat) : Int) + 1 ∧ ((totW W : Nat) : Int) + 1 < 4611686018427387904 := ⟨by omega, by omega⟩
  have s2 : W.length ≤ sizeLine := by omega
  have s3 : (((totW W : Nat) : Int) + 1).toNat = totW W + 1 := by omega
  have s4 : 0 ≤ sizeLine := Nat.zero_le _
  have s5 : 1 ≤ sizeLine := by omega
  have s6 : totW W + 1 ≤ sizeLine := by omega
  unfold dueOf
  generalize (List.range (totW W + 1)).flatMap (fun (c : Nat) => costL W (c : Int) (allP W)) = Q at *
  generalize rowsD (allP W) = Q2 at *
  generalize ((W.map fun r => ((r.2.length : Nat) : Int)).map D.int) = Q3 at *
  generalize ((W.map fun r => ((r.2.length : Nat) : Int))) = Q4 at *
  clear hT hw hsz h
  unfold cs__law_ways
  k_whileD _ _ _ "ev"
end K09
namespace K09
open PySem L2 DL RL PyProof.Rows
local macro_rules | `(tactic| k_whileD _ _ _ "ev") => `(tactic| simp only [*, is_non_list, is_non_tuple, is_non_bool, is_non_str, is_non_int, is_non_dict, pl_non, isn_non, is_bl_list, is_bl_tuple, is_bl_bool, is_bl_str, is_bl_int, is_bl_dict, pl_bl, isn_bl, is_int_list, is_int_tuple, is_int_bool, is_int_str, is_int_int, is_int_dict, pl_int, isn_int, is_str_list, is_str_tuple, is_str_bool, is_str_str, is_str_int, is_str_dict, pl_str, isn_str, is_lst_list, is_lst_tuple, is_lst_bool, is_lst_str, is_lst_int, is_lst_dict, pl_lst, isn_lst, is_tup_list, is_tup_tuple, is_tup_bool, is_tup_str, is_tup_int, is_tup_dict, pl_tup, isn_tup, is_dk_list, is_dk_tuple, is_dk_bool, is_dk_str, is_dk_int, is_dk_dict, pl_dk, isn_dk, qv_atN, qv_atL, qv_ixLit, qv_mulL, qv_fdivL, qv_modL, qv_powL, Nat.reduceLT, Nat.reduceLeDiff, Nat.reduceAdd, Nat.zero_add, Nat.add_zero, Int.reduceLT, Int.reduceLE, Int.reducePow, Int.reduceToNat, Int.reduceEq, Int.reduceNeg, Int.reduceAdd, Int.reduceSub, Int.reduceMul, and_self, and_true, true_and, eq_self, not_true_eq_false, not_false_eq_true,
  ob_o, ob_v, ob_n, ob_s, fr_nil, fr_0, fr_s, nt_t, nt_f, iv_cst, iv_bin, iv_neg, iv_no, iv_one, iv_conj, iv_disj, iv_cmp, iv_ite, iv_idx, iv_sl, iv_lst, iv_tup, iv_fn, iv_isi, iv_call, iv_app, iv_ext, iv_pop, iv_rev, iv_count, iv_join, iv_comp, iv_compI, iv_comp2, iv_dk0, bf_int, bf_str, bf_list, bf_tuple, bf_sum, bf_all, bf_any, bf_sorted, bf_lenSet, chk_true,
  b_nil, b_seq, b_set, b_setIx, b_set2, b_expr, b_ret, b_retN, b_ife, b_for, b_pass, b_brk, b_cont, qv_nx, qv_ct, qv_bk, qv_ret, m_own, m_var, m_any,
  e_cst, e_var, e_bin, e_neg, e_no, e_one, e_conj, e_disj, e_cmp, e_ite, e_idxO, e_idxV, e_idx, e_sl, e_lst, e_tup, e_lenO, e_fnV, e_fnL, e_fn, e_isi, e_call, e_app, e_ext, e_pop, e_rev, e_count, e_join, e_comp, e_compI, e_comp2, e_dk0, f_range,
  t_no, t_one, t_conj, t_disj, t_cmp, t_chain, t_varB, t_fn, t_isi, t_call, o_nil, o_one, a_nil, a_cons, a_star, s_nil, s_own, s_var, s_cons, w_range, w_zip, w_enum, w_one,
  Option.bind_some, Option.bind_none, Option.map_some, List.getElem?_cons_zero, List.getElem?_cons_succ, List.set_cons_zero, List.set_cons_succ, chk_pos, List.length_cons, List.length_nil, List.length_map, List.all_cons, List.all_nil, Bool.and_true, Bool.true_and, Bool.false_and, Bool.and_false, Bool.and_self, Bool.not_false, Bool.not_true,
  qv_int, qv_bl, qv_str, qv_toT, qv_toO, qv_toI, qv_toS, qv_toB, qv_toN, qv_fixV, qv_fixO, qv_datV, qv_datO, qv_add, qv_addI, qv_addS, qv_addL, qv_sub, qv_mulC, qv_fdivC, qv_modC, qv_powC, qv_in, qv_nin, qv_is, qv_isnt, qv_eq, qv_ne, qv_eqI, qv_eqS, qv_eqB, qv_lt, qv_le, qv_gt, qv_ge, qv_dle, qv_inS, qv_inL, qv_inT,
  qv_ixL, qv_ixT, qv_ixS, qv_lenL, qv_lenT, qv_lenO, qv_lenS, qv_itO, qv_itL, qv_itT, qv_itL', qv_itT', qv_sqO, qv_sqL, qv_sqT, qv_lsO, qv_lsV, qv_lkO, qv_lkT, qv_lkS, qv_len, qv_intf, qv_strf, qv_list, qv_tupleT, qv_tupleL, qv_tupleO, qv_sum, qv_all, qv_any, qv_sorted, qv_lenSet, qv_slS, qv_slL, qv_slO, qv_wkO, qv_wkL, qv_wkT, qv_wkS, qv_getO0, qv_getOS, qv_varV, qv_varO,
  qv_nvT, qv_nvI, qv_nvS, qv_nvB, qv_nvN, qv_nvO, qv_argV, qv_argO, qv_atp, qv_ixp, qv_isi1, qv_isi2, qv_call, qv_aNil, qv_aCons, qv_aEx, qv_aOwn, qv_aBor, qv_backV, qv_backO, qv_backB, qv_backN, if_true, if_false, Bool.false_eq_true, reduceIte, decide_true, decide_false, Bool.or_true, Bool.true_or, Bool.or_false, Bool.false_or, sc_non, sc_bl, sc_int, sc_str, sc_lst, sc_tup, sc_dk,
  mk_sv, kp_sv, bk_sv, no_sv, x_ext, wp_nil, wp_cons, mk_nil, mk_o, mk_v, mk_n, mg_nil, mg_cons, mg_t, mg_f, kp_v, kp_n, kp_o, bk_same, bk_o, bk_t, bk_f, bk_n, by_nm, by_two, no_nil, no_o, no_v, no_n, rb_v, rb_o, os_nil, os_o, os_v, fin_ret, fin_nx, List.contains_cons, List.contains_nil, Nat.reduceBEq, Nat.reduceEqDiff, List.nodup_cons, List.nodup_nil, varsOf, List.not_mem_nil, List.mem_cons, List.mem_singleton, or_false, false_or, or_true, true_or, decide_eq_true_eq, Tgt.ix, isOwn, List.map_cons, List.map_nil, List.cons_append, List.nil_append])
abbrev tokO := PyProof.Rows.listOrd PyProof.Rows.itemOrd
def tokR (row : List Nat) : List (Int ⊕ List Nat) := PySem.W.keyToks (pyD (entD row))
theorem leR_eq : leR = PySem.W.sortLe tokO false tokR := rfl
theorem leR_total : PySem.W.TotalLe leR := by rw [leR_eq]; exact PySem.W.sortLe_total _ _ _
def tokI : List Int → List (Int ⊕ List Nat)
  | [] => [.inl 0]
  | i :: is => .inl 1 :: .inl i :: tokI is
theorem tok_ints : ∀ is : List Int, PySem.W.keyToksAll (is.map PyData.int) = tokI is
  | [] => by rw [List.map_nil, PySem.W.keyToksAll.eq_1]; rfl
  | i :: is => by rw [List.map_cons, PySem.W.keyToksAll.eq_2, tok_ints is, PySem.W.keyToks.eq_3]; rfl
theorem tokR_eq (row : List Nat) : tokR row = .inl 1 :: .inl (natsI row).sum :: .inl 1 :: (tokI (natsI row) ++ [.inl 0]) := by
  unfold tokR
  rw [pyD_ent, PySem.W.keyToks.eq_6, PySem.W.keyToksAll.eq_2, PySem.W.keyToksAll.eq_2, PySem.W.keyToksAll.eq_1, PySem.W.keyToks.eq_3, PySem.W.keyToks.eq_6, tok_ints]
  rfl
theorem tokI_inj : ∀ {a b : List Int} {x y : List (Int ⊕ List Nat)}, tokI a ++ x = tokI b ++ y → a = b
  | [], [], _, _, _ => rfl
  | [], b :: bs, x, y, h => by
    rw [tokI, tokI, List.cons_append, List.cons_append] at h
    injection h with h _; injection h with h; omega
  | a :: as, [], x, y, h => by
    rw [tokI, tokI, List.cons_append, List.cons_append] at h
    injection h with h _; injection h with h; omega
  | a :: as, b :: bs, x, y, h => by
    rw [tokI, tokI] at h
    injection h with _ h
    injection h with h1 h2
    injection h1 with h1
    rw [h1, tokI_inj h2]
theorem leR_anti {a b : List Nat} (h1 : leR a b = true) (h2 : leR b a = true) : a = b := by
  have g1 : tokO.blt (tokR b) (tokR a) = false := by
    have : (!tokO.blt (tokR b) (tokR a)) = true := h1
    simpa using this
  have g2 : tokO.blt (tokR a) (tokR b) = false := by
    have : (!tokO.blt (tokR a) (tokR b)) = true := h2
    simpa using this
  have e := tokO.total _ _ g2 g1
  rw [tokR_eq, tokR_eq] at e
  injection e with _ e
  injection e with _ e
  injection e with _ e
  have e := tokI_inj e
  unfold natsI at e
  exact List.map_inj_right (fun x y h => by omega) |>.mp e
theorem blt_step (x y : Int) (a b : List (Int ⊕ List Nat)) : tokO.blt (.inl x :: a) (.inl y :: b) = (decide (x < y) || (!decide (y < x) && tokO.blt a b)) := by
  show PyProof.Rows.lexLt PyProof.Rows.itemOrd (.inl x :: a) (.inl y :: b) = _
  rw [PyProof.Rows.lexLt.eq_4]
  rfl
/-- one row stands ahead of another, place by place -/
def Ahead (a b : List Nat) : Prop := ∃ p x y u v, a = p ++ x :: u ∧ b = p ++ y :: v ∧ x < y
theorem Ahead.app {a b : List Nat} (h : Ahead a b) (c d : List Nat) : Ahead (a ++ c) (b ++ d) := by
  obtain ⟨p, x, y, u, v, rfl, rfl, hl⟩ := h
  exact ⟨p, x, y, u ++ c, v ++ d, by simp, by simp, hl⟩
theorem grow_ahead {rows : List (List Nat)} {r : Wish} (h : rows.Pairwise Ahead) : (growP rows r).Pairwise Ahead := by
  unfold growP
  rw [List.pairwise_flatMap]
  refine ⟨fun row _ => ?_, h.imp fun {a b} hab x hx y hy => ?_⟩
  · rw [List.pairwise_map]
    exact List.pairwise_lt_range.imp fun {x y} hxy => ⟨row, x, y, [], [], rfl, rfl, hxy⟩
  · obtain ⟨p, _, rfl⟩ := List.mem_map.mp hx
    obtain ⟨q, _, rfl⟩ := List.mem_map.mp hy
    exact hab.app _ _
theorem allP_ahead (W : List Wish) : (allP W).Pairwise Ahead := by
  have : ∀ (W : List Wish) (rows : List (List Nat)), rows.Pairwise Ahead → (W.foldl growP rows).Pairwise Ahead := by
    intro W
    induction W with
    | nil => intro rows h; exact h
    | cons r W ih => intro rows h; exact ih _ (grow_ahead h)
  exact this W [[]] (List.pairwise_singleton ..)
theorem allP_le (W : List Wish) : ∀ row ∈ allP W, row.sum ≤ totW W := by
  have : ∀ (W : List Wish) (rows : List (List Nat)) (m : Nat), (∀ row ∈ rows, row.sum ≤ m) → ∀ row ∈ W.foldl growP rows, row.sum ≤ m + totW W := by
    intro W
    induction W with
    | nil => intro rows m h row hr; exact h row hr
    | cons r W ih =>
      intro rows m h row hr
      have := ih (growP rows r) (m + r.2.length) (fun x hx => by
        unfold growP at hx
        obtain ⟨a, ha, hb⟩ := List.mem_flatMap.mp hx
        obtain ⟨p, hp, rfl⟩ := List.mem_map.mp hb
        have := h a ha
        have := List.mem_range.mp hp
        rw [List.sum_append, List.sum_cons, List.sum_nil]; omega) row hr
      unfold totW at *
      rw [List.map_cons, List.sum_cons]; omega
  intro row hr
  have := this W [[]] 0 (fun x hx => by rw [List.mem_singleton.mp hx]; exact Nat.le_refl _) row hr
  omega
theorem sum_nats (row : List Nat) : (natsI row).sum = ((row.sum : Nat) : Int) := sum_lens
theorem parts_perm {α : Type} (s : α → Nat) (l : List α) : ∀ m, ((List.range m).flatMap fun c => l.filter fun x => decide (s x = c)).Perm (l.filter fun x => decide (s x < m))
  | 0 => by
    rw [List.range_zero, List.flatMap_nil, List.filter_eq_nil_iff.mpr fun x _ => by simp]
  | m + 1 => by
    rw [List.range_succ, List.flatMap_append, List.flatMap_singleton]
    refine ((parts_perm s l m).append_right _).trans ?_
    induction l with
    | nil => exact List.Perm.refl _
    | cons x l ih =>
      rw [List.filter_cons, List.filter_cons, List.filter_cons]
      by_cases h1 : s x < m
      · have h2 : ¬ s x = m := by omega
        have h3 : s x < m + 1 := by omega
        simp only [h1, h2, h3, decide_true, decide_false, if_true, if_false, List.cons_append, Bool.false_eq_true]
        exact ih.cons _
      · by_cases h2 : s x = m
        · have h3 : s x < m + 1 := by omega
          simp only [h1, h2, h3, decide_true, decide_false, if_true, if_false, Bool.false_eq_true]
          refine (List.perm_middle).trans ?_
          simp only [Nat.lt_add_one, Nat.lt_irrefl, decide_true, decide_false, Bool.false_eq_true, if_true, if_false]
          exact ih.cons _
        · have h3 : ¬ s x < m + 1 := by omega
          simp only [h1, h2, h3, decide_false, Bool.false_eq_true, if_false]
          exact ih
theorem blt_irr (a : List (Int ⊕ List Nat)) : tokO.blt a a = false := tokO.irrefl a
theorem blt_pre (i : Int) (a b : List (Int ⊕ List Nat)) : tokO.blt (.inl i :: a) (.inl i :: b) = tokO.blt a b := by
  rw [blt_step]; simp
theorem blt_lt {i j : Int} (h : i < j) (a b : List (Int ⊕ List Nat)) : tokO.blt (.inl i :: a) (.inl j :: b) = true := by
  rw [blt_step, decide_eq_true h]; rfl
theorem tokI_ahead : ∀ {p : List Int} {x y : Int} {u v : List Int} {s t : List (Int ⊕ List Nat)}, x < y → tokO.blt (tokI (p ++ x :: u) ++ s) (tokI (p ++ y :: v) ++ t) = true
  | [], x, y, u, v, s, t, h => by
    show tokO.blt (.inl 1 :: .inl x :: (tokI u ++ s)) (.inl 1 :: .inl y :: (tokI v ++ t)) = true
    rw [blt_pre, blt_lt h]
  | i :: p, x, y, u, v, s, t, h => by
    show tokO.blt (.inl 1 :: .inl i :: (tokI (p ++ x :: u) ++ s)) (.inl 1 :: .inl i :: (tokI (p ++ y :: v) ++ t)) = true
    rw [blt_pre, blt_pre, tokI_ahead h]
theorem leR_of_lt {a b : List Nat} (h : tokO.blt (tokR a) (tokR b) = true) : leR a b = true := by
  show (!tokO.blt (tokR b) (tokR a)) = true
  cases hb : tokO.blt (tokR b) (tokR a) with
  | false => rfl
  | true => exact absurd (tokO.trans _ _ _ h hb) (by rw [blt_irr]; decide)
theorem leR_sum {a b : List Nat} (h : a.sum < b.sum) : leR a b = true := by
  refine leR_of_lt ?_
  rw [tokR_eq, tokR_eq, blt_pre, sum_nats, sum_nats, blt_lt (by omega)]
theorem leR_ahead {a b : List Nat} (h : Ahead a b) (hs : a.sum = b.sum) : leR a b = true := by
  refine leR_of_lt ?_
  rw [tokR_eq, tokR_eq, blt_pre, sum_nats, sum_nats, hs, blt_pre, blt_pre]
  obtain ⟨p, x, y, u, v, rfl, rfl, hl⟩ := h
  unfold natsI
  rw [List.map_append, List.map_cons, List.map_append, List.map_cons]
  exact tokI_ahead (by omega)
/-- rows by what they cost, each in its order -/
def byCost (W : List Wish) : List (List Nat) := (List.range (totW W + 1)).flatMap fun c => (allP W).filter fun row => decide (row.sum = c)
theorem byCost_perm (W : List Wish) : (byCost W).Perm (allP W) := by
  have := parts_perm List.sum (allP W) (totW W + 1)
  rw [List.filter_eq_self.mpr fun row hr => by have := allP_le W row hr; simp; omega] at this
  exact this
theorem byCost_sorted (W : List Wish) : (byCost W).Pairwise fun a b => leR a b = true := by
  unfold byCost
  rw [List.pairwise_flatMap]
  refine ⟨fun c _ => ?_, List.pairwise_lt_range.imp fun {c d} hcd x hx y hy => ?_⟩
  · refine ((allP_ahead W).filter _).imp_of_mem fun {a b} ha hb hab => leR_ahead hab ?_
    have h1 := of_decide_eq_true (List.mem_filter.mp ha).2
    have h2 := of_decide_eq_true (List.mem_filter.mp hb).2
    omega
  · have h1 := of_decide_eq_true (List.mem_filter.mp hx).2
    have h2 := of_decide_eq_true (List.mem_filter.mp hy).2
    exact leR_sum (by omega)
theorem ordP_eq (W : List Wish) : ordP W = byCost W :=
  List.Perm.eq_of_pairwise (fun a b _ _ h1 h2 => leR_anti h1 h2) (PySem.W.sort_pairwise leR_total _) (byCost_sorted W) ((List.mergeSort_perm _ _).trans (byCost_perm W).symm)
def plainW (W : List Wish) : Prop := ∀ r ∈ W, ∀ z ∈ r.2, z ≠ "-"
theorem way_len (W : List Wish) (row : List Nat) : (wayOf W row).length = W.length := by unfold wayOf; rw [List.length_map, List.length_range]
theorem sign_out {r : Wish} (h : ∀ z ∈ r.2, z ≠ "-") (p : Nat) : signAt r p = "-" ↔ ¬ p < r.2.length := by
  unfold signAt
  by_cases hp : p < r.2.length
  · rw [if_pos hp]
    have hm : r.2.getD p "" ∈ r.2 := by rw [List.getD_eq_getElem?_getD, List.getElem?_eq_getElem hp]; exact List.getElem_mem hp
    exact ⟨fun e => absurd e (h _ hm), fun e => absurd hp e⟩
  · rw [if_neg hp]; exact ⟨fun _ => hp, fun _ => rfl⟩
theorem isWay_any {W : List Wish} (h : plainW W) (row : List Nat) : isWay (wayOf W row) = anyP W row := by
  unfold isWay anyP
  rw [Bool.eq_iff_iff, decide_eq_true_eq, List.any_eq_true]
  have hle : (wayOf W row).count ("-" : Str) ≤ (wayOf W row).length := List.count_le_length
  have hiff : (wayOf W row).count ("-" : Str) = (wayOf W row).length ↔ ∀ z ∈ wayOf W row, ("-" : Str) = z := List.count_eq_length
  have hg : ∀ t, t < W.length → ∀ z ∈ (W.getD t (false, [])).2, z ≠ "-" := fun t ht => h _ (by
    rw [List.getD_eq_getElem?_getD, List.getElem?_eq_getElem ht]; exact List.getElem_mem ht)
  constructor
  · intro hlt
    apply Classical.byContradiction
    intro hn
    have hall : ∀ z ∈ wayOf W row, ("-" : Str) = z := by
      intro z hz
      obtain ⟨t, ht, rfl⟩ := List.mem_map.mp hz
      have ht' := List.mem_range.mp ht
      refine ((sign_out (hg t ht') _).mpr fun hp => hn ⟨t, ht, decide_eq_true hp⟩).symm
    have := hiff.mpr hall
    omega
  · rintro ⟨t, ht, hp⟩
    have ht' := List.mem_range.mp ht
    have hp := of_decide_eq_true hp
    apply Classical.byContradiction
    intro hn
    have hall := hiff.mp (by omega)
    have := hall (signAt (W.getD t (false, [])) (row.getD t 0)) (List.mem_map.mpr ⟨t, ht, rfl⟩)
    exact ((sign_out (hg t ht') _).mp this.symm) hp
theorem due_eq {W : List Wish} (h : plainW W) : dueOf W = (waysOf W).map tupS := by
  unfold waysOf dueOf
  rw [ordP_eq, List.filter_map, List.map_map]
  unfold byCost
  rw [List.filter_flatMap, List.map_flatMap]
  congr 1
  funext c
  unfold costL
  rw [List.filter_filter]
  refine congrArg (List.map fun row => tupS (wayOf W row)) (List.filter_congr fun row _ => ?_)
  show _ = (isWay (wayOf W row) && decide (row.sum = c))
  rw [isWay_any h, sum_nats, Bool.and_comm]
  congr 1
  exact decide_eq_decide.mpr ⟨fun e => by omega, fun e => by omega⟩
end K09
namespace K09
open PySem L2 DL RL PyProof.Rows
local macro_rules | `(tactic| k_whileD _ _ _ "ev") => `(tactic| simp only [*, is_non_list, is_non_tuple, is_non_bool, is_non_str, is_non_int, is_non_dict, pl_non, isn_non, is_bl_list, is_bl_tuple, is_bl_bool, is_bl_str, is_bl_int, is_bl_dict, pl_bl, isn_bl, is_int_list, is_int_tuple, is_int_bool, is_int_str, is_int_int, is_int_dict, pl_int, isn_int, is_str_list, is_str_tuple, is_str_bool, is_str_str, is_str_int, is_str_dict, pl_str, isn_str, is_lst_list, is_lst_tuple, is_lst_bool, is_lst_str, is_lst_int, is_lst_dict, pl_lst, isn_lst, is_tup_list, is_tup_tuple, is_tup_bool, is_tup_str, is_tup_int, is_tup_dict, pl_tup, isn_tup, is_dk_list, is_dk_tuple, is_dk_bool, is_dk_str, is_dk_int, is_dk_dict, pl_dk, isn_dk, qv_atN, qv_atL, qv_ixLit, qv_mulL, qv_fdivL, qv_modL, qv_powL, Nat.reduceLT, Nat.reduceLeDiff, Nat.reduceAdd, Nat.zero_add, Nat.add_zero, Int.reduceLT, Int.reduceLE, Int.reducePow, Int.reduceToNat, Int.reduceEq, Int.reduceNeg, Int.reduceAdd, Int.reduceSub, Int.reduceMul, and_self, and_true, true_and, eq_self, not_true_eq_false, not_false_eq_true,
  ob_o, ob_v, ob_n, ob_s, fr_nil, fr_0, fr_s, nt_t, nt_f, iv_cst, iv_bin, iv_neg, iv_no, iv_one, iv_conj, iv_disj, iv_cmp, iv_ite, iv_idx, iv_sl, iv_lst, iv_tup, iv_fn, iv_isi, iv_call, iv_app, iv_ext, iv_pop, iv_rev, iv_count, iv_join, iv_comp, iv_compI, iv_comp2, iv_dk0, bf_int, bf_str, bf_list, bf_tuple, bf_sum, bf_all, bf_any, bf_sorted, bf_lenSet, chk_true,
  b_nil, b_seq, b_set, b_setIx, b_set2, b_expr, b_ret, b_retN, b_ife, b_for, b_pass, b_brk, b_cont, qv_nx, qv_ct, qv_bk, qv_ret, m_own, m_var, m_any,
  e_cst, e_var, e_bin, e_neg, e_no, e_one, e_conj, e_disj, e_cmp, e_ite, e_idxO, e_idxV, e_idx, e_sl, e_lst, e_tup, e_lenO, e_fnV, e_fnL, e_fn, e_isi, e_call, e_app, e_ext, e_pop, e_rev, e_count, e_join, e_comp, e_compI, e_comp2, e_dk0, f_range,
  t_no, t_one, t_conj, t_disj, t_cmp, t_chain, t_varB, t_fn, t_isi, t_call, o_nil, o_one, a_nil, a_cons, a_star, s_nil, s_own, s_var, s_cons, w_range, w_zip, w_enum, w_one,
  Option.bind_some, Option.bind_none, Option.map_some, List.getElem?_cons_zero, List.getElem?_cons_succ, List.set_cons_zero, List.set_cons_succ, chk_pos, List.length_cons, List.length_nil, List.length_map, List.all_cons, List.all_nil, Bool.and_true, Bool.true_and, Bool.false_and, Bool.and_false, Bool.and_self, Bool.not_false, Bool.not_true,
  qv_int, qv_bl, qv_str, qv_toT, qv_toO, qv_toI, qv_toS, qv_toB, qv_toN, qv_fixV, qv_fixO, qv_datV, qv_datO, qv_add, qv_addI, qv_addS, qv_addL, qv_sub, qv_mulC, qv_fdivC, qv_modC, qv_powC, qv_in, qv_nin, qv_is, qv_isnt, qv_eq, qv_ne, qv_eqI, qv_eqS, qv_eqB, qv_lt, qv_le, qv_gt, qv_ge, qv_dle, qv_inS, qv_inL, qv_inT,
  qv_ixL, qv_ixT, qv_ixS, qv_lenL, qv_lenT, qv_lenO, qv_lenS, qv_itO, qv_itL, qv_itT, qv_itL', qv_itT', qv_sqO, qv_sqL, qv_sqT, qv_lsO, qv_lsV, qv_lkO, qv_lkT, qv_lkS, qv_len, qv_intf, qv_strf, qv_list, qv_tupleT, qv_tupleL, qv_tupleO, qv_sum, qv_all, qv_any, qv_sorted, qv_lenSet, qv_slS, qv_slL, qv_slO, qv_wkO, qv_wkL, qv_wkT, qv_wkS, qv_getO0, qv_getOS, qv_varV, qv_varO,
  qv_nvT, qv_nvI, qv_nvS, qv_nvB, qv_nvN, qv_nvO, qv_argV, qv_argO, qv_atp, qv_ixp, qv_isi1, qv_isi2, qv_call, qv_aNil, qv_aCons, qv_aEx, qv_aOwn, qv_aBor, qv_backV, qv_backO, qv_backB, qv_backN, if_true, if_false, Bool.false_eq_true, reduceIte, decide_true, decide_false, Bool.or_true, Bool.true_or, Bool.or_false, Bool.false_or, sc_non, sc_bl, sc_int, sc_str, sc_lst, sc_tup, sc_dk,
  mk_sv, kp_sv, bk_sv, no_sv, x_ext, wp_nil, wp_cons, mk_nil, mk_o, mk_v, mk_n, mg_nil, mg_cons, mg_t, mg_f, kp_v, kp_n, kp_o, bk_same, bk_o, bk_t, bk_f, bk_n, by_nm, by_two, no_nil, no_o, no_v, no_n, rb_v, rb_o, os_nil, os_o, os_v, fin_ret, fin_nx, List.contains_cons, List.contains_nil, Nat.reduceBEq, Nat.reduceEqDiff, List.nodup_cons, List.nodup_nil, varsOf, List.not_mem_nil, List.mem_cons, List.mem_singleton, or_false, false_or, or_true, true_or, decide_eq_true_eq, Tgt.ix, isOwn, List.map_cons, List.map_nil, List.cons_append, List.nil_append])
theorem of_nats {n : Nat} {B : Bag} (hB : B.Ok) {ms : List Nat} (h0 : 0 < ms.length) (h1 : ms.length < 1073741824) {k : Bool} :
    ∃ m ∈ ms, (csT tab (n + 2)).C 9 [.own B.ds, .v k (.lst (ms.map fun m => .int (m : Nat)))] = some (.val (.int (m : Nat)), [.own (B.next ms.length).ds, .v k (.lst (ms.map fun m => .int (m : Nat)))]) := by
  have hl : (ms.map fun m => D.int (m : Nat)).length = ms.length := List.length_map _
  have o := of_spec (n := n) hB (ds := ms.map fun m => .int (m : Nat)) (by omega) (by omega) (k := k) (.inr (by rw [List.all_map]; exact List.all_eq_true.mpr fun _ _ => rfl))
  have hd := digit_lt (B := B) (t := ms.length) (by omega)
  have hlt : (B.digit ms.length).toNat < ms.length := by omega
  refine ⟨ms.getD (B.digit ms.length).toNat 0, ?_, ?_⟩
  · rw [List.getD_eq_getElem?_getD, List.getElem?_eq_getElem hlt]; exact List.getElem_mem hlt
  · rw [hl] at o
    rw [getD_map (fun m : Nat => D.int (m : Nat)) ms _ 0 .non hlt] at o
    exact o
theorem cut_take (ds : List D) (m : Nat) : DL.cutD ds none (some (m : Int)) = ds.take m := by
  unfold DL.cutD
  rw [HT.sIx_none, HT.sIx_nat, List.drop_zero, Nat.sub_zero]
  exact (List.take_eq_take_min ..).symm
theorem erase_map {α β : Type} (f : α → β) : ∀ (l : List α) (i : Nat), (l.map f).eraseIdx i = (l.eraseIdx i).map f
  | [], _ => rfl
  | _ :: _, 0 => rfl
  | a :: l, i + 1 => by rw [List.map_cons, List.eraseIdx_cons_succ, List.eraseIdx_cons_succ, erase_map f l i, List.map_cons]
theorem erase_perm {α : Type} : ∀ (l : List α) (i : Nat) (h : i < l.length), (l[i] :: l.eraseIdx i).Perm l
  | a :: l, 0, _ => List.Perm.refl _
  | a :: l, i + 1, h => by
    rw [List.eraseIdx_cons_succ, List.getElem_cons_succ]
    exact (List.Perm.swap _ _ _).trans ((erase_perm l i (Nat.lt_of_succ_lt_succ h)).cons a)
theorem mix_loop {n : Nat} {k k2 : Bool} {ns : List Str} (hn : ns.length ≤ 100) {t0 : Int} {T : D} {Q : List D} {a6 : Option (Bool × D)} {B : Bag} (hB : B.Ok) :
    ∃ mixed : List Str, ∃ B' : Bag, B'.Ok ∧ mixed.Perm ns ∧
      compL (compF (csT tab (n + 1)) cs__law_wants_e0 (.nm 7) [7] (fun t => .one (.val (.int (t : Int))))) 0 ns.length [some (.own B.ds), some (.v k (.lst (ns.map .str))), some (.v k2 T), some (.own Q), some (.v true (.int t0)), some (.own (ns.map .str)), sv a6, none] [] = some (mixed.map .str, [some (.own B'.ds), some (.v k (.lst (ns.map .str))), some (.v k2 T), some (.own Q), some (.v true (.int t0)), some (.own []), sv a6, none]) := by
  obtain ⟨acc, ρ', h1, done, rest, B', h2, h3, h4, rfl, rfl⟩ := compL_ind (f := compF (csT tab (n + 1)) cs__law_wants_e0 (.nm 7) [7] (fun t => .one (.val (.int (t : Int)))))
    (fun t ρ acc => ∃ done rest : List Str, ∃ B' : Bag, B'.Ok ∧ (done ++ rest).Perm ns ∧ done.length = t ∧ acc = done.map .str ∧ ρ = [some (.own B'.ds), some (.v k (.lst (ns.map .str))), some (.v k2 T), some (.own Q), some (.v true (.int t0)), some (.own (rest.map .str)), sv a6, none]) (m := ns.length) (s := 0) (ρ := [some (.own B.ds), some (.v k (.lst (ns.map .str))), some (.v k2 T), some (.own Q), some (.v true (.int t0)), some (.own (ns.map .str)), sv a6, none]) (acc := []) ⟨[], ns, B, hB, List.Perm.refl _, rfl, rfl, rfl⟩ fun t ρ acc _ ht ⟨done, rest, B1, g1, g2, g3, g4, g5⟩ => by
      subst g4 g5
      have hlen := g2.length_eq
      rw [List.length_append] at hlen
      have m8 : (csT tab (n + 1)).M 8 = [true, false] := cs_M (T := tab) (f := 8) rfl
      have d8 := draw_spec (n := n) g1 (t := rest.length) (by omega) (by omega) (k := true)
      have hd := digit_lt (B := B1) (t := rest.length) (by omega)
      have hlt : (B1.digit rest.length).toNat < rest.length := by omega
      have hx : (rest.map D.str)[(B1.digit rest.length).toNat]? = some (.str rest[(B1.digit rest.length).toNat]) := by rw [List.getElem?_map, List.getElem?_eq_getElem hlt]; rfl
      have hb : 0 ≤ B1.digit rest.length ∧ B1.digit rest.length < 9223372036854775808 := ⟨by omega, by omega⟩
      have he : (rest.map D.str).eraseIdx (B1.digit rest.length).toNat = (rest.eraseIdx (B1.digit rest.length).toNat).map D.str := erase_map _ _ _
      have hrl : (rest.map D.str).length = rest.length := List.length_map _
      refine ⟨some (.str rest[(B1.digit rest.length).toNat]), [some (.own (B1.next rest.length).ds), some (.v k (.lst (ns.map .str))), some (.v k2 T), some (.own Q), some (.v true (.int t0)), some (.own ((rest.eraseIdx (B1.digit rest.length).toNat).map .str)), sv a6, none], ?_, done ++ [rest[(B1.digit rest.length).toNat]], rest.eraseIdx (B1.digit rest.length).toNat, B1.next rest.length, next_ok g1 (by omega), ?_, ?_, ?_, rfl⟩
      · generalize rest[(B1.digit rest.length).toNat] = y at *
        clear hd hlt g2 g3 hlen hn hB ht
        unfold compF cs__law_wants_e0
        k_whileD _ _ _ "ev"
      · refine List.Perm.trans ?_ g2
        rw [List.append_assoc]
        exact List.Perm.append_left _ (erase_perm _ _ hlt)
      · rw [List.length_append, g3]; rfl
      · rw [List.map_append]; rfl
  have hl := h3.length_eq
  rw [List.length_append] at hl
  have hr : rest = [] := List.eq_nil_of_length_eq_zero (by omega)
  subst hr
  rw [List.append_nil] at h3
  exact ⟨done, B', h2, h3, h1⟩
/-- wishes as the law hands them in: lists of names, each room once -/
structure GoodR (ns : List Str) (r : Wish) : Prop where
  ls : r.1 = false
  ln : r.2.length ≤ 4
  nd : r.2.Nodup
  sb : ∀ z ∈ r.2, z ∈ ns
theorem perm_good {ns mixed : List Str} (hn : ns.Nodup) (h : mixed.Perm ns) (i : Nat) : GoodR ns (false, (mixed.take i).take 4) := by
  refine ⟨rfl, ?_, ?_, fun z hz => ?_⟩
  · show ((mixed.take i).take 4).length ≤ 4
    rw [List.length_take]; omega
  · exact ((h.nodup_iff.mpr hn).sublist (List.take_sublist ..)).sublist (List.take_sublist ..)
  · exact h.mem_iff.mp (List.mem_of_mem_take (List.mem_of_mem_take hz))
theorem wants_step {n : Nat} {k k2 : Bool} {ns : List Str} (hn : ns.Nodup) (hl : ns.length ≤ 100) {t0 : Int} {W : List Wish} (hW : W.length ≤ 10) {x5 : Option Slot} {a6 : Option (Bool × D)} {B : Bag} (hB : B.Ok) :
    ∃ r, ∃ B' : Bag, ∃ x5' a6', GoodR ns r ∧ B'.Ok ∧ evB (csT tab (n + 2)) [true, false, false] cs__law_wants_f0 [some (.own B.ds), some (.v k (.lst (ns.map .str))), some (.v k2 (.int 4)), some (.own (W.map rowD)), some (.v true (.int t0)), x5, sv a6, none] = some (.nx [some (.own B'.ds), some (.v k (.lst (ns.map .str))), some (.v k2 (.int 4)), some (.own ((W ++ [r]).map rowD)), some (.v true (.int t0)), x5', sv a6', none]) := by
  obtain ⟨mixed, B1, g1, g2, g3⟩ := mix_loop (n := n + 1) (k := k) (k2 := k2) (ns := ns) hl (t0 := t0) (T := .int 4) (Q := W.map rowD) (a6 := a6) hB
  have m9 : (csT tab (n + 2)).M 9 = [true, false] := cs_M (T := tab) (f := 9) rfl
  obtain ⟨i, _, o⟩ := of_nats (n := n) g1 (ms := [2, 3, 1, 4, 0, 2, 3]) (by decide) (by decide) (k := true)
  have o9 : (csT tab (n + 2)).C 9 [.own B1.ds, .v true (.lst [.int 2, .int 3, .int 1, .int 4, .int 0, .int 2, .int 3])] = some (.val (.int (i : Nat)), [.own (B1.next 7).ds, .v true (.lst [.int 2, .int 3, .int 1, .int 4, .int 0, .int 2, .int 3])]) := o
  refine ⟨(false, (mixed.take i).take 4), B1.next 7, some (.own []), some (true, .lst (mixed.map .str)), perm_good hn g2 i, next_ok g1 (by omega), ?_⟩
  have c1 : DL.cutD (mixed.map D.str) none (some (i : Int)) = (mixed.map D.str).take i := cut_take _ _
  have c2 : DL.cutD ((mixed.map D.str).take i) none (some 4) = ((mixed.map D.str).take i).take 4 := cut_take _ 4
  have hsz := size_eq
  have hs : ns.length ≤ sizeLine := by omega
  have h7 : 7 ≤ sizeLine := by omega
  have hw : W.length < sizeLine := by omega
  have hwl : (W.map rowD).length = W.length := List.length_map _
  have hi : (-4611686018427387904 : Int) ≤ ((ns.length : Nat) : Int) ∧ ((ns.length : Nat) : Int) < 4611686018427387904 := ⟨by omega, by omega⟩
  have ht : (((ns.length : Nat) : Int)).toNat = ns.length := rfl
  have hsc : (ns.map D.str).all isSc = true := by rw [List.all_map]; exact List.all_eq_true.mpr fun _ _ => rfl
  have hnl : (ns.map D.str).length = ns.length := List.length_map _
  have e : (W ++ [((false, (mixed.take i).take 4) : Wish)]).map rowD = W.map rowD ++ [.lst (((mixed.map D.str).take i).take 4)] := by
    rw [List.map_append]
    congr 1
    show [D.lst (((mixed.take i).take 4).map D.str)] = _
    rw [List.map_take, List.map_take]
  rw [e]
  generalize B1.next 7 = B2 at *
  generalize W.map rowD = Q at *
  generalize mixed.map D.str = M at *
  clear hn hl hW hB g1 g2 hsz e o
  show evB _ _ _ _ = some (.nx [_, _, _, _, _, some (Slot.own []), some (Slot.v true (.lst M)), none])
  unfold cs__law_wants_f0
  k_whileD _ _ _ "ev"
theorem law_wants_spec {n : Nat} {k k2 : Bool} {ns : List Str} (hn : ns.Nodup) (hl : ns.length ≤ 100) {B : Bag} (hB : B.Ok) :
    ∃ W : List Wish, ∃ B' : Bag, B'.Ok ∧ (1 ≤ W.length ∧ W.length ≤ 3) ∧ (∀ r ∈ W, GoodR ns r) ∧
      (csT tab (n + 3)).C 14 [.own B.ds, .v k (.lst (ns.map .str)), .v k2 (.int 4)] = some (.own (W.map rowD), [.own B'.ds, .v k (.lst (ns.map .str)), .v k2 (.int 4)]) := by
  have m9 : (csT tab (n + 2)).M 9 = [true, false] := cs_M (T := tab) (f := 9) rfl
  obtain ⟨m, hm, o⟩ := of_nats (n := n) hB (ms := [2, 1, 3, 2, 3]) (by decide) (by decide) (k := true)
  have o9 : (csT tab (n + 2)).C 9 [.own B.ds, .v true (.lst [.int 2, .int 1, .int 3, .int 2, .int 3])] = some (.val (.int (m : Nat)), [.own (B.next 5).ds, .v true (.lst [.int 2, .int 1, .int 3, .int 2, .int 3])]) := o
  have hm2 : 1 ≤ m ∧ m ≤ 3 := by
    have : ∀ m ∈ [2, 1, 3, 2, 3], 1 ≤ m ∧ m ≤ 3 := by decide
    exact this m hm
  obtain ⟨ρ', h1, W, B2, x4, x5, a6, g1, g2, g3, rfl⟩ := forL_ind (f := forF (csT tab (n + 2)) [true, false, false] (.nm 4) (fun t => .one (.val (.int (t : Int)))) cs__law_wants_f0)
    (fun t ρ => ∃ W : List Wish, ∃ B' : Bag, ∃ x4 x5 a6, B'.Ok ∧ W.length = t ∧ (∀ r ∈ W, GoodR ns r) ∧ ρ = [some (.own B'.ds), some (.v k (.lst (ns.map .str))), some (.v k2 (.int 4)), some (.own (W.map rowD)), x4, x5, sv a6, none]) (m := m) (s := 0) (ρ := [some (.own (B.next 5).ds), some (.v k (.lst (ns.map .str))), some (.v k2 (.int 4)), some (.own []), none, none, none, none]) ⟨[], B.next 5, none, none, none, next_ok hB (by omega), rfl, (fun _ h => by cases h), rfl⟩ fun t ρ _ ht ⟨W, B', x4, x5, a6, g1, g2, g3, hj⟩ => by
      subst hj
      obtain ⟨r, B2, x5', a6', g4, g5, g6⟩ := wants_step (n := n) (k := k) (k2 := k2) hn hl (t0 := (t : Int)) (W := W) (by omega) (x5 := x5) (a6 := a6) g1
      refine ⟨_, ?_, W ++ [r], B2, some (.v true (.int (t : Int))), x5', a6', g5, by rw [List.length_append, g2]; rfl, fun x hx => ?_, rfl⟩
      · unfold forF
        dsimp only
        exact g6
      · rcases List.mem_append.mp hx with hx | hx
        · exact g3 x hx
        · rw [List.mem_singleton.mp hx]; exact g4
  rw [Nat.zero_add] at g2
  refine ⟨W, B2, g1, ⟨by omega, by omega⟩, g3, ?_⟩
  rw [call_eq (T := tab) (f := 14) rfl rfl]
  show (evB (csT tab (n + 2)) [true, false, false] cs__law_wants [some (.own B.ds), some (.v k _), some (.v k2 _), none, none, none, none, none]).bind _ = _
  have hs : (-4611686018427387904 : Int) ≤ ((m : Nat) : Int) ∧ ((m : Nat) : Int) < 4611686018427387904 := ⟨by omega, by omega⟩
  have ht : (((m : Nat) : Int)).toNat = m := rfl
  have hsz := size_eq
  have h5 : 5 ≤ sizeLine := by omega
  have h0 : 0 ≤ sizeLine := by omega
  generalize B.next 5 = B1 at *
  clear hn hl hB g1 g2 g3 hm hm2 o hsz
  unfold cs__law_wants
  k_whileD _ _ _ "ev"
end K09
namespace K09
open PySem L2 DL RL PyProof.Rows
local macro_rules | `(tactic| k_whileD _ _ _ "ev") => `(tactic| simp only [*, is_non_list, is_non_tuple, is_non_bool, is_non_str, is_non_int, is_non_dict, pl_non, isn_non, is_bl_list, is_bl_tuple, is_bl_bool, is_bl_str, is_bl_int, is_bl_dict, pl_bl, isn_bl, is_int_list, is_int_tuple, is_int_bool, is_int_str, is_int_int, is_int_dict, pl_int, isn_int, is_str_list, is_str_tuple, is_str_bool, is_str_str, is_str_int, is_str_dict, pl_str, isn_str, is_lst_list, is_lst_tuple, is_lst_bool, is_lst_str, is_lst_int, is_lst_dict, pl_lst, isn_lst, is_tup_list, is_tup_tuple, is_tup_bool, is_tup_str, is_tup_int, is_tup_dict, pl_tup, isn_tup, is_dk_list, is_dk_tuple, is_dk_bool, is_dk_str, is_dk_int, is_dk_dict, pl_dk, isn_dk, qv_atN, qv_atL, qv_ixLit, qv_mulL, qv_fdivL, qv_modL, qv_powL, Nat.reduceLT, Nat.reduceLeDiff, Nat.reduceAdd, Nat.zero_add, Nat.add_zero, Int.reduceLT, Int.reduceLE, Int.reducePow, Int.reduceToNat, Int.reduceEq, Int.reduceNeg, Int.reduceAdd, Int.reduceSub, Int.reduceMul, and_self, and_true, true_and, eq_self, not_true_eq_false, not_false_eq_true,
  ob_o, ob_v, ob_n, ob_s, fr_nil, fr_0, fr_s, nt_t, nt_f, iv_cst, iv_bin, iv_neg, iv_no, iv_one, iv_conj, iv_disj, iv_cmp, iv_ite, iv_idx, iv_sl, iv_lst, iv_tup, iv_fn, iv_isi, iv_call, iv_app, iv_ext, iv_pop, iv_rev, iv_count, iv_join, iv_comp, iv_compI, iv_comp2, iv_dk0, bf_int, bf_str, bf_list, bf_tuple, bf_sum, bf_all, bf_any, bf_sorted, bf_lenSet, chk_true,
  b_nil, b_seq, b_set, b_setIx, b_set2, b_expr, b_ret, b_retN, b_ife, b_for, b_pass, b_brk, b_cont, qv_nx, qv_ct, qv_bk, qv_ret, m_own, m_var, m_any,
  e_cst, e_var, e_bin, e_neg, e_no, e_one, e_conj, e_disj, e_cmp, e_ite, e_idxO, e_idxV, e_idx, e_sl, e_lst, e_tup, e_lenO, e_fnV, e_fnL, e_fn, e_isi, e_call, e_app, e_ext, e_pop, e_rev, e_count, e_join, e_comp, e_compI, e_comp2, e_dk0, f_range,
  t_no, t_one, t_conj, t_disj, t_cmp, t_chain, t_varB, t_fn, t_isi, t_call, o_nil, o_one, a_nil, a_cons, a_star, s_nil, s_own, s_var, s_cons, w_range, w_zip, w_enum, w_one,
  Option.bind_some, Option.bind_none, Option.map_some, List.getElem?_cons_zero, List.getElem?_cons_succ, List.set_cons_zero, List.set_cons_succ, chk_pos, List.length_cons, List.length_nil, List.length_map, List.all_cons, List.all_nil, Bool.and_true, Bool.true_and, Bool.false_and, Bool.and_false, Bool.and_self, Bool.not_false, Bool.not_true,
  qv_int, qv_bl, qv_str, qv_toT, qv_toO, qv_toI, qv_toS, qv_toB, qv_toN, qv_fixV, qv_fixO, qv_datV, qv_datO, qv_add, qv_addI, qv_addS, qv_addL, qv_sub, qv_mulC, qv_fdivC, qv_modC, qv_powC, qv_in, qv_nin, qv_is, qv_isnt, qv_eq, qv_ne, qv_eqI, qv_eqS, qv_eqB, qv_lt, qv_le, qv_gt, qv_ge, qv_dle, qv_inS, qv_inL, qv_inT,
  qv_ixL, qv_ixT, qv_ixS, qv_lenL, qv_lenT, qv_lenO, qv_lenS, qv_itO, qv_itL, qv_itT, qv_itL', qv_itT', qv_sqO, qv_sqL, qv_sqT, qv_lsO, qv_lsV, qv_lkO, qv_lkT, qv_lkS, qv_len, qv_intf, qv_strf, qv_list, qv_tupleT, qv_tupleL, qv_tupleO, qv_sum, qv_all, qv_any, qv_sorted, qv_lenSet, qv_slS, qv_slL, qv_slO, qv_wkO, qv_wkL, qv_wkT, qv_wkS, qv_getO0, qv_getOS, qv_varV, qv_varO,
  qv_nvT, qv_nvI, qv_nvS, qv_nvB, qv_nvN, qv_nvO, qv_argV, qv_argO, qv_atp, qv_ixp, qv_isi1, qv_isi2, qv_call, qv_aNil, qv_aCons, qv_aEx, qv_aOwn, qv_aBor, qv_backV, qv_backO, qv_backB, qv_backN, if_true, if_false, Bool.false_eq_true, reduceIte, decide_true, decide_false, Bool.or_true, Bool.true_or, Bool.or_false, Bool.false_or, sc_non, sc_bl, sc_int, sc_str, sc_lst, sc_tup, sc_dk,
  mk_sv, kp_sv, bk_sv, no_sv, x_ext, wp_nil, wp_cons, mk_nil, mk_o, mk_v, mk_n, mg_nil, mg_cons, mg_t, mg_f, kp_v, kp_n, kp_o, bk_same, bk_o, bk_t, bk_f, bk_n, by_nm, by_two, no_nil, no_o, no_v, no_n, rb_v, rb_o, os_nil, os_o, os_v, fin_ret, fin_nx, List.contains_cons, List.contains_nil, Nat.reduceBEq, Nat.reduceEqDiff, List.nodup_cons, List.nodup_nil, varsOf, List.not_mem_nil, List.mem_cons, List.mem_singleton, or_false, false_or, or_true, true_or, decide_eq_true_eq, Tgt.ix, isOwn, List.map_cons, List.map_nil, List.cons_append, List.nil_append])
structure FineW (W : List Wish) : Prop where
  len : 1 ≤ W.length ∧ W.length ≤ 5
  row : ∀ r ∈ W, r.2.length ≤ 7
  nm : ∀ r ∈ W, ∀ z ∈ r.2, nameOk z = true
  nd : ∀ r ∈ W, r.2.Nodup
theorem FineW.wlen {W : List Wish} (h : FineW W) : WLen W := ⟨h.len.2, h.row⟩
theorem name_len {z : Str} (h : nameOk z = true) : z.length ≤ 12 := by
  unfold nameOk at h
  simp only [Bool.and_eq_true, decide_eq_true_eq] at h
  exact h.1.2
theorem seqOf_seq (b : Bool) (ds : List D) : seqOf (seqD b ds) = some ds := by cases b <;> rfl
theorem plain_seq (b : Bool) (ds : List D) : plainD (seqD b ds) = true := by cases b <;> rfl
theorem FineW.wish {W : List Wish} (h : FineW W) (b : Bool) : WishOk (wishD b W) := by
  have hsz := size_eq
  refine ⟨plain_seq _ _, fun ds hq => ?_⟩
  have e : seqOf (wishD b W) = some (W.map rowD) := seqOf_seq _ _
  rw [e] at hq
  injection hq with hq
  subst hq
  refine ⟨by rw [List.length_map]; have := h.len; omega, fun x hx => ?_⟩
  obtain ⟨r, hr, rfl⟩ := List.mem_map.mp hx
  refine ⟨plain_seq _ _, fun ys hy => ?_⟩
  have e : seqOf (rowD r) = some (r.2.map .str) := seqOf_seq _ _
  rw [e] at hy
  injection hy with hy
  subst hy
  refine ⟨?_, fun y hy => ?_⟩
  · have := h.row r hr
    have hb : 100 < scanBound := by decide
    rw [List.length_map]; omega
  · obtain ⟨z, hz, rfl⟩ := List.mem_map.mp hy
    exact ⟨rfl, fun w hw => by injection hw with hw; subst hw; have := name_len (h.nm r hr z hz); omega⟩
theorem FineW.good {W : List Wish} (h : FineW W) (b : Bool) : faultD (wishD b W) = .non := by
  unfold faultD
  have e : seqOf (wishD b W) = some (W.map rowD) := seqOf_seq _ _
  rw [e]
  have hl : (W.map rowD).length ≠ 0 := by rw [List.length_map]; have := h.len; omega
  have hf : (W.map rowD).findIdx? badRow = none := by
    rw [List.findIdx?_eq_none_iff]
    intro x hx
    obtain ⟨r, hr, rfl⟩ := List.mem_map.mp hx
    unfold badRow
    have e : seqOf (rowD r) = some (r.2.map .str) := seqOf_seq _ _
    rw [e]
    show (!((r.2.map D.str).all isNameD) || !decide ((strsOf (r.2.map D.str)).getD []).Nodup) = false
    have hall : r.2.all (isNameD ∘ D.str) = true := List.all_eq_true.mpr fun z hz => h.nm r hr z hz
    rw [strsOf_map, List.all_map, hall]
    show (!true || !decide r.2.Nodup) = false
    rw [decide_eq_true (h.nd r hr)]; rfl
  show (if (W.map rowD).length = 0 then _ else _) = _
  rw [if_neg hl, hf]
theorem out_bad : nameOk "-" = false := by decide +kernel
theorem FineW.plain {W : List Wish} (h : FineW W) : plainW W := fun r hr z hz e => by
  have := h.nm r hr z hz
  rw [e, out_bad] at this; cases this
theorem ways_fine {n : Nat} {k b : Bool} {W : List Wish} (h : FineW W) : (csT tab (n + 3)).C 3 [.v k (wishD b W)] = some (.own ((waysOf W).map tupS), [.v k (wishD b W)]) :=
  ways_spec h.wlen (h.wish b) (h.good b)
theorem due_fine {n : Nat} {k b : Bool} {W : List Wish} (h : FineW W) : (csT tab (n + 1)).C 13 [.v k (wishD b W)] = some (.own ((waysOf W).map tupS), [.v k (wishD b W)]) := by
  rw [law_ways_spec h.wlen, due_eq h.plain]
/-! ### a room more -/
theorem mem_allP : ∀ {W : List Wish} {row : List Nat}, row ∈ allP W ↔ row.length = W.length ∧ ∀ t, t < W.length → row.getD t 0 ≤ (W.getD t (false, [])).2.length := by
  have : ∀ (W : List Wish) (rows : List (List Nat)) (row : List Nat), row ∈ W.foldl growP rows ↔ ∃ p q, row = p ++ q ∧ p ∈ rows ∧ q.length = W.length ∧ ∀ t, t < W.length → q.getD t 0 ≤ (W.getD t (false, [])).2.length := by
    intro W
    induction W with
    | nil =>
      intro rows row
      refine ⟨fun h => ⟨row, [], (List.append_nil _).symm, h, rfl, fun t ht => absurd ht (Nat.not_lt_zero _)⟩, ?_⟩
      rintro ⟨p, q, rfl, hp, hq, _⟩
      rw [List.eq_nil_of_length_eq_zero hq, List.append_nil]; exact hp
    | cons r W ih =>
      intro rows row
      rw [List.foldl_cons, ih]
      constructor
      · rintro ⟨p, q, rfl, hp, hq, hle⟩
        unfold growP at hp
        obtain ⟨a, ha, hb⟩ := List.mem_flatMap.mp hp
        obtain ⟨x, hx, rfl⟩ := List.mem_map.mp hb
        have hx := List.mem_range.mp hx
        refine ⟨a, x :: q, by simp, ha, by simp [hq], fun t ht => ?_⟩
        cases t with
        | zero => show x ≤ r.2.length; omega
        | succ t => exact hle t (by rw [List.length_cons] at ht; omega)
      · rintro ⟨p, q, rfl, hp, hq, hle⟩
        cases q with
        | nil => cases hq
        | cons x q =>
          refine ⟨p ++ [x], q, by simp, ?_, by simpa using hq, fun t ht => hle (t + 1) (by rw [List.length_cons]; omega)⟩
          have := hle 0 (by rw [List.length_cons]; omega)
          unfold growP
          exact List.mem_flatMap.mpr ⟨p, hp, List.mem_map.mpr ⟨x, List.mem_range.mpr (by show x < r.2.length + 1; exact Nat.lt_succ_of_le this), rfl⟩⟩
  intro W row
  unfold allP
  rw [this]
  constructor
  · rintro ⟨p, q, rfl, hp, hq, hle⟩
    rw [List.mem_singleton.mp hp]
    exact ⟨hq, hle⟩
  · rintro ⟨h1, h2⟩
    exact ⟨[], row, rfl, List.mem_singleton.mpr rfl, h1, h2⟩
theorem sorted_same {α : Type} {R : α → α → Prop} (hi : ∀ a, ¬ R a a) (has : ∀ a b, R a b → ¬ R b a) : ∀ {l m : List α}, l.Pairwise R → m.Pairwise R → (∀ x, x ∈ l ↔ x ∈ m) → l = m
  | [], [], _, _, _ => rfl
  | [], b :: m, _, _, h => absurd ((h b).mpr List.mem_cons_self) (by simp)
  | a :: l, [], _, _, h => absurd ((h a).mp List.mem_cons_self) (by simp)
  | a :: l, b :: m, hl, hm, h => by
    have hl' := List.pairwise_cons.mp hl
    have hm' := List.pairwise_cons.mp hm
    have hab : a = b := by
      rcases List.mem_cons.mp ((h a).mp List.mem_cons_self) with e | e
      · exact e
      · rcases List.mem_cons.mp ((h b).mpr List.mem_cons_self) with e' | e'
        · exact e'.symm
        · exact absurd (hl'.1 b e') (has _ _ (hm'.1 a e))
    subst hab
    congr 1
    refine sorted_same hi has hl'.2 hm'.2 fun x => ⟨fun hx => ?_, fun hx => ?_⟩
    · rcases List.mem_cons.mp ((h x).mp (List.mem_cons_of_mem _ hx)) with e | e
      · exact absurd (hl'.1 x hx) (by rw [e]; exact hi _)
      · exact e
    · rcases List.mem_cons.mp ((h x).mpr (List.mem_cons_of_mem _ hx)) with e | e
      · exact absurd (hm'.1 x hx) (by rw [e]; exact hi _)
      · exact e
theorem Ahead.ne {a b : List Nat} (h : Ahead a b) : a ≠ b := by
  obtain ⟨p, x, y, u, v, rfl, rfl, hl⟩ := h
  intro e
  have := List.append_cancel_left e
  injection this with h1 _
  omega
def Before (a b : List Nat) : Prop := leR a b = true ∧ a ≠ b
theorem ordP_before (W : List Wish) : (ordP W).Pairwise Before := by
  have h1 : (ordP W).Pairwise fun a b => leR a b = true := by rw [ordP_eq]; exact byCost_sorted W
  have h2 : (ordP W).Nodup := (List.mergeSort_perm _ _).nodup_iff.mpr ((allP_ahead W).imp fun h => h.ne)
  exact List.pairwise_and_iff.mpr ⟨h1, h2⟩
theorem before_same {l m : List (List Nat)} (hl : l.Pairwise Before) (hm : m.Pairwise Before) (h : ∀ x, x ∈ l ↔ x ∈ m) : l = m :=
  sorted_same (R := Before) (fun a h => h.2 rfl) (fun a b h1 h2 => h1.2 (leR_anti h1.1 h2.1)) hl hm h
def wideW (W : List Wish) (f : Str) : List Wish := W.map fun r => (false, r.2 ++ [f])
def allin (W : List Wish) (row : List Nat) : Bool := (List.range W.length).all fun t => decide (row.getD t 0 < (W.getD t (false, [])).2.length)
theorem wide_len (W : List Wish) (f : Str) : (wideW W f).length = W.length := List.length_map _
theorem wide_at {W : List Wish} {f : Str} {t : Nat} (h : t < W.length) : (wideW W f).getD t (false, []) = (false, (W.getD t (false, [])).2 ++ [f]) :=
  getD_map (fun r : Wish => ((false, r.2 ++ [f]) : Wish)) W t (false, []) (false, []) h
theorem ord_wide (W : List Wish) (f : Str) : (ordP (wideW W f)).filter (allin W) = (ordP W).filter (allin W) := by
  refine before_same ((ordP_before _).filter _) ((ordP_before _).filter _) fun row => ?_
  have m1 : ∀ W, row ∈ ordP W ↔ row ∈ allP W := fun W => (List.mergeSort_perm _ _).mem_iff
  rw [List.mem_filter, List.mem_filter, m1, m1, mem_allP, mem_allP, wide_len]
  refine ⟨fun h => ⟨⟨h.1.1, fun t ht => ?_⟩, h.2⟩, fun h => ⟨⟨h.1.1, fun t ht => ?_⟩, h.2⟩⟩
  · have := of_decide_eq_true (List.all_eq_true.mp h.2 t (List.mem_range.mpr ht)); omega
  · have := of_decide_eq_true (List.all_eq_true.mp h.2 t (List.mem_range.mpr ht))
    rw [wide_at ht]
    show _ ≤ ((W.getD t (false, [])).2 ++ [f]).length
    rw [List.length_append]; omega
theorem mem_way {W : List Wish} {row : List Nat} {z : Str} : z ∈ wayOf W row ↔ ∃ t, t < W.length ∧ signAt (W.getD t (false, [])) (row.getD t 0) = z := by
  unfold wayOf
  rw [List.mem_map]
  exact ⟨fun ⟨t, ht, h⟩ => ⟨t, List.mem_range.mp ht, h⟩, fun ⟨t, ht, h⟩ => ⟨t, List.mem_range.mpr ht, h⟩⟩
theorem isWay_in {way : List Str} (h : ("-" : Str) ∉ way) (hl : 1 ≤ way.length) : isWay way = true := by
  unfold isWay
  rw [List.count_eq_zero.mpr h]
  exact decide_eq_true (by omega)
theorem plain_at {W : List Wish} (h : plainW W) {t : Nat} (ht : t < W.length) : ∀ z ∈ (W.getD t (false, [])).2, z ≠ "-" := h _ (by
    rw [List.getD_eq_getElem?_getD, List.getElem?_eq_getElem ht]; exact List.getElem_mem ht)
theorem out_way {W : List Wish} (h : plainW W) (row : List Nat) : decide (("-" : Str) ∉ wayOf W row) = allin W row := by
  unfold allin
  rw [Bool.eq_iff_iff, decide_eq_true_eq, List.all_eq_true, mem_way]
  constructor
  · intro hn t ht
    have ht := List.mem_range.mp ht
    refine decide_eq_true (Classical.byContradiction fun hp => hn ⟨t, ht, (sign_out (plain_at h ht) _).mpr hp⟩)
  · rintro hall ⟨t, ht, e⟩
    exact (sign_out (plain_at h ht) _).mp e (of_decide_eq_true (hall t (List.mem_range.mpr ht)))
theorem keep_wide {W : List Wish} {f : Str} (h : plainW W) (hf : f ≠ "-") (hn : ∀ r ∈ W, f ∉ r.2) (h1 : 1 ≤ W.length) (row : List Nat) :
    ((decide (f ∉ wayOf (wideW W f) row) && decide (("-" : Str) ∉ wayOf (wideW W f) row)) && isWay (wayOf (wideW W f) row)) = allin W row := by
  rw [Bool.eq_iff_iff, Bool.and_eq_true, Bool.and_eq_true, decide_eq_true_eq, decide_eq_true_eq, mem_way, mem_way, wide_len]
  unfold allin
  rw [List.all_eq_true]
  have sg : ∀ t, t < W.length → signAt ((wideW W f).getD t (false, [])) (row.getD t 0) = if row.getD t 0 < (W.getD t (false, [])).2.length then (W.getD t (false, [])).2.getD (row.getD t 0) "" else if row.getD t 0 = (W.getD t (false, [])).2.length then f else "-" := by
    intro t ht
    rw [wide_at ht]
    unfold signAt
    show (if row.getD t 0 < ((W.getD t (false, [])).2 ++ [f]).length then ((W.getD t (false, [])).2 ++ [f]).getD (row.getD t 0) "" else "-") = _
    generalize row.getD t 0 = p
    generalize (W.getD t (false, [])).2 = xs
    rw [List.length_append, List.length_singleton]
    by_cases hp : p < xs.length
    · rw [if_pos hp, if_pos (by omega), List.getD_eq_getElem?_getD, List.getElem?_append_left hp, ← List.getD_eq_getElem?_getD]
    · rw [if_neg hp]
      by_cases he : p = xs.length
      · rw [if_pos he, if_pos (by omega), he, List.getD_eq_getElem?_getD, List.getElem?_append_right (Nat.le_refl _), Nat.sub_self]; rfl
      · rw [if_neg he, if_neg (by omega)]
  constructor
  · rintro ⟨⟨hf1, hd1⟩, _⟩ t ht
    have ht := List.mem_range.mp ht
    refine decide_eq_true (Classical.byContradiction fun hp => ?_)
    have := sg t ht
    rw [if_neg hp] at this
    by_cases he : row.getD t 0 = (W.getD t (false, [])).2.length
    · rw [if_pos he] at this; exact hf1 ⟨t, ht, this⟩
    · rw [if_neg he] at this; exact hd1 ⟨t, ht, this⟩
  · intro hall
    have hin : ∀ t, t < W.length → signAt ((wideW W f).getD t (false, [])) (row.getD t 0) ∈ (W.getD t (false, [])).2 := by
      intro t ht
      have hp := of_decide_eq_true (hall t (List.mem_range.mpr ht))
      rw [sg t ht, if_pos hp]
      generalize (W.getD t (false, [])).2 = xs at *
      generalize row.getD t 0 = p at *
      rw [List.getD_eq_getElem?_getD, List.getElem?_eq_getElem hp]
      exact List.getElem_mem hp
    have hout : ("-" : Str) ∉ wayOf (wideW W f) row := by
      rw [mem_way, wide_len]
      rintro ⟨t, ht, e⟩
      exact plain_at h ht _ (hin t ht) e
    refine ⟨⟨?_, ?_⟩, isWay_in hout (by rw [way_len, wide_len]; exact h1)⟩
    · rintro ⟨t, ht, e⟩
      have := hin t ht
      rw [e] at this
      exact hn _ (by rw [List.getD_eq_getElem?_getD, List.getElem?_eq_getElem ht]; exact List.getElem_mem ht) this
    · have := hout
      rw [mem_way, wide_len] at this
      exact this
theorem way_wide {W : List Wish} {f : Str} {row : List Nat} (h : allin W row = true) : wayOf (wideW W f) row = wayOf W row := by
  unfold wayOf
  rw [wide_len]
  refine List.map_congr_left fun t ht => ?_
  have hp := of_decide_eq_true (List.all_eq_true.mp h t ht)
  have ht := List.mem_range.mp ht
  rw [wide_at ht]
  unfold signAt
  show (if row.getD t 0 < ((W.getD t (false, [])).2 ++ [f]).length then ((W.getD t (false, [])).2 ++ [f]).getD (row.getD t 0) "" else "-") = _
  rw [if_pos hp, if_pos (by rw [List.length_append]; omega), List.getD_eq_getElem?_getD, List.getElem?_append_left hp, ← List.getD_eq_getElem?_getD]
theorem wider_eq {W : List Wish} {f : Str} (h : plainW W) (hf : f ≠ "-") (hn : ∀ r ∈ W, f ∉ r.2) (h1 : 1 ≤ W.length) :
    ((waysOf (wideW W f)).filter fun w => decide (f ∉ w) && decide (("-" : Str) ∉ w)) = (waysOf W).filter fun w => decide (("-" : Str) ∉ w) := by
  unfold waysOf
  rw [List.filter_filter, List.filter_filter, List.filter_map, List.filter_map]
  have e1 : (ordP (wideW W f)).filter ((fun w => (decide (f ∉ w) && decide (("-" : Str) ∉ w)) && isWay w) ∘ wayOf (wideW W f)) = (ordP (wideW W f)).filter (allin W) :=
    List.filter_congr fun row _ => keep_wide h hf hn h1 row
  have e2 : (ordP W).filter ((fun w => decide (("-" : Str) ∉ w) && isWay w) ∘ wayOf W) = (ordP W).filter (allin W) :=
    List.filter_congr fun row _ => by
      show (decide (("-" : Str) ∉ wayOf W row) && isWay (wayOf W row)) = _
      rw [← out_way h row]
      by_cases hd : ("-" : Str) ∈ wayOf W row
      · rw [decide_eq_false (by simpa using hd)]; rfl
      · rw [decide_eq_true hd, isWay_in hd (by rw [way_len]; exact h1)]; rfl
  rw [e1, e2, ord_wide]
  refine List.map_congr_left fun row hr => ?_
  exact way_wide (List.mem_filter.mp hr).2
end K09
namespace K09
open PySem L2 DL RL PyProof.Rows
local macro_rules | `(tactic| k_whileD _ _ _ "ev") => `(tactic| simp only [*, is_non_list, is_non_tuple, is_non_bool, is_non_str, is_non_int, is_non_dict, pl_non, isn_non, is_bl_list, is_bl_tuple, is_bl_bool, is_bl_str, is_bl_int, is_bl_dict, pl_bl, isn_bl, is_int_list, is_int_tuple, is_int_bool, is_int_str, is_int_int, is_int_dict, pl_int, isn_int, is_str_list, is_str_tuple, is_str_bool, is_str_str, is_str_int, is_str_dict, pl_str, isn_str, is_lst_list, is_lst_tuple, is_lst_bool, is_lst_str, is_lst_int, is_lst_dict, pl_lst, isn_lst, is_tup_list, is_tup_tuple, is_tup_bool, is_tup_str, is_tup_int, is_tup_dict, pl_tup, isn_tup, is_dk_list, is_dk_tuple, is_dk_bool, is_dk_str, is_dk_int, is_dk_dict, pl_dk, isn_dk, qv_atN, qv_atL, qv_ixLit, qv_mulL, qv_fdivL, qv_modL, qv_powL, Nat.reduceLT, Nat.reduceLeDiff, Nat.reduceAdd, Nat.zero_add, Nat.add_zero, Int.reduceLT, Int.reduceLE, Int.reducePow, Int.reduceToNat, Int.reduceEq, Int.reduceNeg, Int.reduceAdd, Int.reduceSub, Int.reduceMul, and_self, and_true, true_and, eq_self, not_true_eq_false, not_false_eq_true,
  ob_o, ob_v, ob_n, ob_s, fr_nil, fr_0, fr_s, nt_t, nt_f, iv_cst, iv_bin, iv_neg, iv_no, iv_one, iv_conj, iv_disj, iv_cmp, iv_ite, iv_idx, iv_sl, iv_lst, iv_tup, iv_fn, iv_isi, iv_call, iv_app, iv_ext, iv_pop, iv_rev, iv_count, iv_join, iv_comp, iv_compI, iv_comp2, iv_dk0, bf_int, bf_str, bf_list, bf_tuple, bf_sum, bf_all, bf_any, bf_sorted, bf_lenSet, chk_true,
  b_nil, b_seq, b_set, b_setIx, b_set2, b_expr, b_ret, b_retN, b_ife, b_for, b_pass, b_brk, b_cont, qv_nx, qv_ct, qv_bk, qv_ret, m_own, m_var, m_any,
  e_cst, e_var, e_bin, e_neg, e_no, e_one, e_conj, e_disj, e_cmp, e_ite, e_idxO, e_idxV, e_idx, e_sl, e_lst, e_tup, e_lenO, e_fnV, e_fnL, e_fn, e_isi, e_call, e_app, e_ext, e_pop, e_rev, e_count, e_join, e_comp, e_compI, e_comp2, e_dk0, f_range,
  t_no, t_one, t_conj, t_disj, t_cmp, t_chain, t_varB, t_fn, t_isi, t_call, o_nil, o_one, a_nil, a_cons, a_star, s_nil, s_own, s_var, s_cons, w_range, w_zip, w_enum, w_one,
  Option.bind_some, Option.bind_none, Option.map_some, List.getElem?_cons_zero, List.getElem?_cons_succ, List.set_cons_zero, List.set_cons_succ, chk_pos, List.length_cons, List.length_nil, List.length_map, List.all_cons, List.all_nil, Bool.and_true, Bool.true_and, Bool.false_and, Bool.and_false, Bool.and_self, Bool.not_false, Bool.not_true,
  qv_int, qv_bl, qv_str, qv_toT, qv_toO, qv_toI, qv_toS, qv_toB, qv_toN, qv_fixV, qv_fixO, qv_datV, qv_datO, qv_add, qv_addI, qv_addS, qv_addL, qv_sub, qv_mulC, qv_fdivC, qv_modC, qv_powC, qv_in, qv_nin, qv_is, qv_isnt, qv_eq, qv_ne, qv_eqI, qv_eqS, qv_eqB, qv_lt, qv_le, qv_gt, qv_ge, qv_dle, qv_inS, qv_inL, qv_inT,
  qv_ixL, qv_ixT, qv_ixS, qv_lenL, qv_lenT, qv_lenO, qv_lenS, qv_itO, qv_itL, qv_itT, qv_itL', qv_itT', qv_sqO, qv_sqL, qv_sqT, qv_lsO, qv_lsV, qv_lkO, qv_lkT, qv_lkS, qv_len, qv_intf, qv_strf, qv_list, qv_tupleT, qv_tupleL, qv_tupleO, qv_sum, qv_all, qv_any, qv_sorted, qv_lenSet, qv_slS, qv_slL, qv_slO, qv_wkO, qv_wkL, qv_wkT, qv_wkS, qv_getO0, qv_getOS, qv_varV, qv_varO,
  qv_nvT, qv_nvI, qv_nvS, qv_nvB, qv_nvN, qv_nvO, qv_argV, qv_argO, qv_atp, qv_ixp, qv_isi1, qv_isi2, qv_call, qv_aNil, qv_aCons, qv_aEx, qv_aOwn, qv_aBor, qv_backV, qv_backO, qv_backB, qv_backN, if_true, if_false, Bool.false_eq_true, reduceIte, decide_true, decide_false, Bool.or_true, Bool.true_or, Bool.or_false, Bool.false_or, sc_non, sc_bl, sc_int, sc_str, sc_lst, sc_tup, sc_dk,
  mk_sv, kp_sv, bk_sv, no_sv, x_ext, wp_nil, wp_cons, mk_nil, mk_o, mk_v, mk_n, mg_nil, mg_cons, mg_t, mg_f, kp_v, kp_n, kp_o, bk_same, bk_o, bk_t, bk_f, bk_n, by_nm, by_two, no_nil, no_o, no_v, no_n, rb_v, rb_o, os_nil, os_o, os_v, fin_ret, fin_nx, List.contains_cons, List.contains_nil, Nat.reduceBEq, Nat.reduceEqDiff, List.nodup_cons, List.nodup_nil, varsOf, List.not_mem_nil, List.mem_cons, List.mem_singleton, or_false, false_or, or_true, true_or, decide_eq_true_eq, Tgt.ix, isOwn, List.map_cons, List.map_nil, List.cons_append, List.nil_append])
theorem in_strsT {k1 k2 : Bool} (z : Str) (ts : List Str) : inS (.v k1 (.str z)) (.v k2 (.tup (ts.map .str))) = some (decide (z ∈ ts)) := by
  rw [qv_inT ⟨rfl, flat_strsD ts⟩, in_strs]
def keepD (f : Str) : D → Bool
  | .tup ds => !inD (.str f) ds && !inD (.str "-") ds
  | _ => false
def outD : D → Bool
  | .tup ds => !inD (.str "-") ds
  | _ => false
theorem keepD_eq (f : Str) (way : List Str) : keepD f (tupS way) = (decide (f ∉ way) && decide (("-" : Str) ∉ way)) := by
  unfold keepD tupS
  dsimp only
  rw [in_strs, in_strs, decide_not, decide_not]
theorem outD_eq (way : List Str) : outD (tupS way) = decide (("-" : Str) ∉ way) := by
  unfold outD tupS
  dsimp only
  rw [in_strs, decide_not]
theorem kept_list {n : Nat} {N Wd : D} {f : Str} {kn kw : Bool} {ways : List (List Str)} {Bs : List D} :
    compL (compIF (csT tab n) cs__law_wider_so_e1 cs__law_wider_so_t0 (.nm 7) [7] (fun t => .one (.v true ((ways.map tupS).getD t .non)))) 0 ways.length [some (.own Bs), some (.v kn N), some (.v kw Wd), some (.v true (.str f)), some (.val (.lst (ways.map tupS))), none, none, none] [] = some ((ways.filter fun w => decide (f ∉ w) && decide (("-" : Str) ∉ w)).map tupS, [some (.own Bs), some (.v kn N), some (.v kw Wd), some (.v true (.str f)), some (.val (.lst (ways.map tupS))), none, none, none]) := by
  have e : ((ways.filter fun w => decide (f ∉ w) && decide (("-" : Str) ∉ w)).map tupS) = ((ways.map tupS).filter (keepD f)).map fun d => d := by
    rw [List.filter_map, List.map_map]
    have e : keepD f ∘ tupS = fun w => decide (f ∉ w) && decide (("-" : Str) ∉ w) := by funext w; exact keepD_eq f w
    rw [e]; rfl
  have hl : (ways.map tupS).length = ways.length := List.length_map _
  rw [e, ← hl]
  refine compL_filter (keepD f) (fun d => d) fun t d hd => ?_
  have hg := getD_of hd
  rw [List.getElem?_map] at hd
  obtain ⟨way, hy, rfl⟩ := Option.map_eq_some_iff.mp hd
  have h1 := in_strsT (k1 := true) (k2 := true) f way
  have h2 := in_strsT (k1 := true) (k2 := true) "-" way
  rw [keepD_eq]
  unfold compIF
  dsimp only
  rw [hg]
  unfold tupS
  generalize ways.map (fun way : List Str => D.tup (way.map D.str)) = Q at *
  clear hg hd hy hl e
  unfold cs__law_wider_so_e1 cs__law_wider_so_t0
  by_cases hf : f ∈ way
  · rw [decide_eq_true hf] at h1
    rw [decide_eq_false (p := f ∉ way) (by simpa using hf)]
    k_whileD _ _ _ "ev"
  · rw [decide_eq_false hf] at h1
    rw [decide_eq_true (p := f ∉ way) hf]
    by_cases ho : ("-" : Str) ∈ way
    · rw [decide_eq_true ho] at h2
      rw [decide_eq_false (p := ("-" : Str) ∉ way) (by simpa using ho)]
      k_whileD _ _ _ "ev"
    · rw [decide_eq_false ho] at h2
      rw [decide_eq_true (p := ("-" : Str) ∉ way) ho]
      k_whileD _ _ _ "ev"
theorem out_list {n : Nat} {N Wd T K6 : D} {f : Str} {kn kw : Bool} {ways : List (List Str)} {Bs : List D} :
    compL (compIF (csT tab n) cs__law_wider_so_e2 cs__law_wider_so_t1 (.nm 7) [7] (fun t => .one (.v true ((ways.map tupS).getD t .non)))) 0 ways.length [some (.own Bs), some (.v kn N), some (.v kw Wd), some (.v true (.str f)), some (.val T), none, some (.val K6), none] [] = some ((ways.filter fun w => decide (("-" : Str) ∉ w)).map tupS, [some (.own Bs), some (.v kn N), some (.v kw Wd), some (.v true (.str f)), some (.val T), none, some (.val K6), none]) := by
  have e : ((ways.filter fun w => decide (("-" : Str) ∉ w)).map tupS) = ((ways.map tupS).filter outD).map fun d => d := by
    rw [List.filter_map, List.map_map]
    have e : outD ∘ tupS = fun w => decide (("-" : Str) ∉ w) := by funext w; exact outD_eq w
    rw [e]; rfl
  have hl : (ways.map tupS).length = ways.length := List.length_map _
  rw [e, ← hl]
  refine compL_filter outD (fun d => d) fun t d hd => ?_
  have hg := getD_of hd
  rw [List.getElem?_map] at hd
  obtain ⟨way, hy, rfl⟩ := Option.map_eq_some_iff.mp hd
  have h2 := in_strsT (k1 := true) (k2 := true) "-" way
  rw [outD_eq]
  unfold compIF
  dsimp only
  rw [hg]
  unfold tupS
  generalize ways.map (fun way : List Str => D.tup (way.map D.str)) = Q at *
  clear hg hd hy hl e
  unfold cs__law_wider_so_e2 cs__law_wider_so_t1
  by_cases ho : ("-" : Str) ∈ way
  · rw [decide_eq_true ho] at h2
    rw [decide_eq_false (p := ("-" : Str) ∉ way) (by simpa using ho)]
    k_whileD _ _ _ "ev"
  · rw [decide_eq_false ho] at h2
    rw [decide_eq_true (p := ("-" : Str) ∉ way) ho]
    k_whileD _ _ _ "ev"
theorem wide_list {n : Nat} {N : D} {f : Str} {kn kw : Bool} {W : List Wish} (hls : ∀ r ∈ W, r.1 = false) (hr : ∀ r ∈ W, r.2.length ≤ 100) {Bs : List D} :
    compL (compF (csT tab n) cs__law_wider_so_e0 (.nm 5) [5] (fun t => .one (.v kw ((W.map rowD).getD t .non)))) 0 W.length [some (.own Bs), some (.v kn N), some (.v kw (wishD false W)), some (.v true (.str f)), none, none, none, none] [] = some ((wideW W f).map rowD, [some (.own Bs), some (.v kn N), some (.v kw (wishD false W)), some (.v true (.str f)), none, none, none, none]) := by
  have hsz := size_eq
  unfold wideW
  rw [List.map_map]
  rw [compL_map (fun t => .lst ((W.getD t (false, [])).2.map .str ++ [.str f])) fun t ht => ?_]
  · rw [range_getD W (false, []) fun r : Wish => D.lst (r.2.map D.str ++ [D.str f])]
    congr 2
    refine List.map_congr_left fun r _ => ?_
    show _ = D.lst ((r.2 ++ [f]).map .str)
    rw [List.map_append]; rfl
  · have hx : W[t]? = some W[t] := List.getElem?_eq_getElem ht
    have hg : (W.map rowD).getD t .non = rowD W[t] := by rw [List.getD_eq_getElem?_getD, List.getElem?_map, hx]; rfl
    have hg2 : W.getD t (false, []) = W[t] := by rw [List.getD_eq_getElem?_getD, hx]; rfl
    have hm := List.mem_of_getElem? hx
    have e : rowD W[t] = .lst (W[t].2.map .str) := by unfold rowD; rw [hls _ hm]; rfl
    have hz := hr _ hm
    rw [hg2]
    unfold compF
    dsimp only
    rw [hg, e]
    generalize W[t].2 = xs at *
    have hsc : (xs.map D.str).all isSc = true := by rw [List.all_map]; exact List.all_eq_true.mpr fun _ _ => rfl
    have hs : (xs.map D.str).length + 1 ≤ sizeLine := by rw [List.length_map]; omega
    have h1 : 1 ≤ sizeLine := by omega
    generalize xs.map D.str = X at *
    generalize wishD false W = WW at *
    clear hg hg2 hx hm e ht hls hr hsz hz
    unfold cs__law_wider_so_e0
    k_whileD _ _ _ "ev"
theorem ok_ways (ways : List (List Str)) (h1 : ways.length ≤ sizeLine) (h2 : ∀ w ∈ ways, w.length ≤ sizeLine) (m : Nat) : okD (m + 2) (.lst (ways.map tupS)) := by
  refine ⟨by rw [List.length_map]; exact h1, fun d hd => ?_⟩
  obtain ⟨w, hw, rfl⟩ := List.mem_map.mp hd
  refine ⟨by rw [List.length_map]; exact h2 w hw, fun d hd => ?_⟩
  obtain ⟨z, _, rfl⟩ := List.mem_map.mp hd
  cases m <;> exact trivial
theorem ways_len {W : List Wish} (h : WLen W) : (waysOf W).length ≤ 32768 ∧ ∀ w ∈ waysOf W, w.length ≤ 5 := by
  obtain ⟨p1, _⟩ := h.places
  constructor
  · refine Nat.le_trans (List.length_filter_le ..) ?_
    rw [List.length_map]
    unfold ordP
    rw [List.length_mergeSort]; exact p1
  · intro w hw
    obtain ⟨row, _, rfl⟩ := List.mem_map.mp (List.mem_filter.mp hw).1
    rw [way_len]; exact h.len
theorem FineW.wide {W : List Wish} (h : FineW W) {f : Str} (hf : nameOk f = true) (hn : ∀ r ∈ W, f ∉ r.2) (h6 : ∀ r ∈ W, r.2.length ≤ 6) : FineW (wideW W f) := by
  have hm : ∀ r ∈ wideW W f, ∃ q ∈ W, r = (false, q.2 ++ [f]) := fun r hr => by
    obtain ⟨q, hq, rfl⟩ := List.mem_map.mp hr
    exact ⟨q, hq, rfl⟩
  refine ⟨by rw [wide_len]; exact h.len, fun r hr => ?_, fun r hr z hz => ?_, fun r hr => ?_⟩
  · obtain ⟨q, hq, rfl⟩ := hm r hr
    have := h6 q hq
    show (q.2 ++ [f]).length ≤ 7
    rw [List.length_append]; show _ + 1 ≤ 7; omega
  · obtain ⟨q, hq, rfl⟩ := hm r hr
    rcases List.mem_append.mp hz with hz | hz
    · exact h.nm q hq z hz
    · rw [List.mem_singleton.mp hz]; exact hf
  · obtain ⟨q, hq, rfl⟩ := hm r hr
    show (q.2 ++ [f]).Nodup
    rw [List.nodup_append]
    refine ⟨h.nd q hq, List.pairwise_singleton .., fun a ha b hb e => ?_⟩
    rw [List.mem_singleton.mp hb] at e
    subst e
    exact hn q hq ha
theorem wider_spec {n : Nat} {kn kw : Bool} {ns : List Str} (hl : ns.length ≤ 8) {W : List Wish} (h : FineW W) (hg : ∀ r ∈ W, GoodR ns r) {B : Bag} (hB : B.Ok) :
    ∃ B' : Bag, B'.Ok ∧ (csT tab (n + 4)).C 18 [.own B.ds, .v kn (.lst (ns.map .str)), .v kw (wishD false W)] = some (.val (.bl true), [.own B'.ds, .v kn (.lst (ns.map .str)), .v kw (wishD false W)]) := by
  obtain ⟨f, B1, f1, f2, f3, f4⟩ := law_name_spec (n := n) hB (k := kn) (ts := ns) hl
  refine ⟨B1, f3, ?_⟩
  have hnf : ∀ r ∈ W, f ∉ r.2 := fun r hr hm => f2 ((hg r hr).sb f hm)
  have h2 : FineW (wideW W f) := h.wide f1 hnf fun r hr => by have := (hg r hr).ln; omega
  have hf : f ≠ "-" := fun e => by rw [e, out_bad] at f1; cases f1
  rw [call_eq (T := tab) (f := 18) rfl rfl]
  show (evB (csT tab (n + 3)) [true, false, false] cs__law_wider_so [some (.own B.ds), some (.v kn _), some (.v kw _), none, none, none, none, none]).bind _ = _
  have m12 : (csT tab (n + 3)).M 12 = [true, false] := cs_M (T := tab) (f := 12) rfl
  have m3 : (csT tab (n + 3)).M 3 = [false] := cs_M (T := tab) (f := 3) rfl
  have m10 : (csT tab (n + 3)).M 10 = [false, false] := cs_M (T := tab) (f := 10) rfl
  have w1 := ways_fine (n := n) (k := true) (b := false) h2
  replace w1 : (csT tab (n + 3)).C 3 [.v true (.lst ((wideW W f).map rowD))] = some (.own ((waysOf (wideW W f)).map tupS), [.v true (.lst ((wideW W f).map rowD))]) := w1
  have w2 := ways_fine (n := n) (k := kw || isSc (wishD false W)) (b := false) h
  have sc : isSc (wishD false W) = false := rfl
  rw [sc, Bool.or_false] at w2
  have l1 := wide_list (n := n + 3) (N := .lst (ns.map .str)) (f := f) (kn := kn) (kw := kw) (W := W) (fun r hr => (hg r hr).ls) (fun r hr => by have := (hg r hr).ln; omega) (Bs := B1.ds)
  have l2 := kept_list (n := n + 3) (N := .lst (ns.map .str)) (Wd := wishD false W) (f := f) (kn := kn) (kw := kw) (ways := waysOf (wideW W f)) (Bs := B1.ds)
  have l3 := out_list (n := n + 3) (N := .lst (ns.map .str)) (Wd := wishD false W) (T := .lst ((waysOf (wideW W f)).map tupS)) (K6 := .lst ((((waysOf (wideW W f)).filter fun w => decide (f ∉ w) && decide (("-" : Str) ∉ w))).map tupS)) (f := f) (kn := kn) (kw := kw) (ways := waysOf W) (Bs := B1.ds)
  have eq := wider_eq h.plain hf hnf h.len.1
  rw [eq] at l2 l3
  obtain ⟨wl1, wl2⟩ := ways_len h.wlen
  obtain ⟨wl3, wl4⟩ := ways_len h2.wlen
  have hsz := size_eq
  have like := like_spec 2 (n := n) (ok_ways ((waysOf W).filter fun w => decide (("-" : Str) ∉ w)) (Nat.le_trans (List.length_filter_le ..) (by omega)) (fun w hw => by have := wl2 w (List.mem_filter.mp hw).1; omega) 0) true true
  have e1 : ((wideW W f).map rowD).length = W.length := by rw [List.length_map, wide_len]
  have e2 : W.length ≤ sizeLine := by have := h.len; omega
  have e3 : ((waysOf (wideW W f)).map tupS).length = (waysOf (wideW W f)).length := List.length_map _
  have e4 : ((waysOf W).map tupS).length = (waysOf W).length := List.length_map _
  have e5 : (waysOf (wideW W f)).length ≤ sizeLine := by omega
  have e6 : (waysOf W).length ≤ sizeLine := by omega
  have wk : wkS (.v kw (wishD false W)) = some ⟨W.length, fun t => .one (.v kw ((W.map rowD).getD t .non))⟩ := by
    have := wish_wk kw false (W.map rowD)
    rw [List.length_map] at this
    exact this
  have fr : flatD (.str f) = true := rfl
  generalize (waysOf (wideW W f)).length = L2 at *
  generalize (waysOf W).length = L1 at *
  generalize ((waysOf W).filter fun w => decide (("-" : Str) ∉ w)).map tupS = Q at *
  generalize (waysOf (wideW W f)).map tupS = Q2 at *
  generalize (waysOf W).map tupS = Q1 at *
  generalize (wideW W f).map rowD = R2 at *
  generalize wishD false W = WW at *
  clear hl h hg hB f1 f2 f3 hnf h2 hf eq wl1 wl2 wl3 wl4 hsz
  unfold cs__law_wider_so
  k_whileD _ _ _ "ev"
end K09
namespace K09
open PySem L2 DL RL PyProof.Rows
local macro_rules | `(tactic| k_whileD _ _ _ "ev") => `(tactic| simp only [*, is_non_list, is_non_tuple, is_non_bool, is_non_str, is_non_int, is_non_dict, pl_non, isn_non, is_bl_list, is_bl_tuple, is_bl_bool, is_bl_str, is_bl_int, is_bl_dict, pl_bl, isn_bl, is_int_list, is_int_tuple, is_int_bool, is_int_str, is_int_int, is_int_dict, pl_int, isn_int, is_str_list, is_str_tuple, is_str_bool, is_str_str, is_str_int, is_str_dict, pl_str, isn_str, is_lst_list, is_lst_tuple, is_lst_bool, is_lst_str, is_lst_int, is_lst_dict, pl_lst, isn_lst, is_tup_list, is_tup_tuple, is_tup_bool, is_tup_str, is_tup_int, is_tup_dict, pl_tup, isn_tup, is_dk_list, is_dk_tuple, is_dk_bool, is_dk_str, is_dk_int, is_dk_dict, pl_dk, isn_dk, qv_atN, qv_atL, qv_ixLit, qv_mulL, qv_fdivL, qv_modL, qv_powL, Nat.reduceLT, Nat.reduceLeDiff, Nat.reduceAdd, Nat.zero_add, Nat.add_zero, Int.reduceLT, Int.reduceLE, Int.reducePow, Int.reduceToNat, Int.reduceEq, Int.reduceNeg, Int.reduceAdd, Int.reduceSub, Int.reduceMul, and_self, and_true, true_and, eq_self, not_true_eq_false, not_false_eq_true,
  ob_o, ob_v, ob_n, ob_s, fr_nil, fr_0, fr_s, nt_t, nt_f, iv_cst, iv_bin, iv_neg, iv_no, iv_one, iv_conj, iv_disj, iv_cmp, iv_ite, iv_idx, iv_sl, iv_lst, iv_tup, iv_fn, iv_isi, iv_call, iv_app, iv_ext, iv_pop, iv_rev, iv_count, iv_join, iv_comp, iv_compI, iv_comp2, iv_dk0, bf_int, bf_str, bf_list, bf_tuple, bf_sum, bf_all, bf_any, bf_sorted, bf_lenSet, chk_true,
  b_nil, b_seq, b_set, b_setIx, b_set2, b_expr, b_ret, b_retN, b_ife, b_for, b_pass, b_brk, b_cont, qv_nx, qv_ct, qv_bk, qv_ret, m_own, m_var, m_any,
  e_cst, e_var, e_bin, e_neg, e_no, e_one, e_conj, e_disj, e_cmp, e_ite, e_idxO, e_idxV, e_idx, e_sl, e_lst, e_tup, e_lenO, e_fnV, e_fnL, e_fn, e_isi, e_call, e_app, e_ext, e_pop, e_rev, e_count, e_join, e_comp, e_compI, e_comp2, e_dk0, f_range,
  t_no, t_one, t_conj, t_disj, t_cmp, t_chain, t_varB, t_fn, t_isi, t_call, o_nil, o_one, a_nil, a_cons, a_star, s_nil, s_own, s_var, s_cons, w_range, w_zip, w_enum, w_one,
  Option.bind_some, Option.bind_none, Option.map_some, List.getElem?_cons_zero, List.getElem?_cons_succ, List.set_cons_zero, List.set_cons_succ, chk_pos, List.length_cons, List.length_nil, List.length_map, List.all_cons, List.all_nil, Bool.and_true, Bool.true_and, Bool.false_and, Bool.and_false, Bool.and_self, Bool.not_false, Bool.not_true,
  qv_int, qv_bl, qv_str, qv_toT, qv_toO, qv_toI, qv_toS, qv_toB, qv_toN, qv_fixV, qv_fixO, qv_datV, qv_datO, qv_add, qv_addI, qv_addS, qv_addL, qv_sub, qv_mulC, qv_fdivC, qv_modC, qv_powC, qv_in, qv_nin, qv_is, qv_isnt, qv_eq, qv_ne, qv_eqI, qv_eqS, qv_eqB, qv_lt, qv_le, qv_gt, qv_ge, qv_dle, qv_inS, qv_inL, qv_inT,
  qv_ixL, qv_ixT, qv_ixS, qv_lenL, qv_lenT, qv_lenO, qv_lenS, qv_itO, qv_itL, qv_itT, qv_itL', qv_itT', qv_sqO, qv_sqL, qv_sqT, qv_lsO, qv_lsV, qv_lkO, qv_lkT, qv_lkS, qv_len, qv_intf, qv_strf, qv_list, qv_tupleT, qv_tupleL, qv_tupleO, qv_sum, qv_all, qv_any, qv_sorted, qv_lenSet, qv_slS, qv_slL, qv_slO, qv_wkO, qv_wkL, qv_wkT, qv_wkS, qv_getO0, qv_getOS, qv_varV, qv_varO,
  qv_nvT, qv_nvI, qv_nvS, qv_nvB, qv_nvN, qv_nvO, qv_argV, qv_argO, qv_atp, qv_ixp, qv_isi1, qv_isi2, qv_call, qv_aNil, qv_aCons, qv_aEx, qv_aOwn, qv_aBor, qv_backV, qv_backO, qv_backB, qv_backN, if_true, if_false, Bool.false_eq_true, reduceIte, decide_true, decide_false, Bool.or_true, Bool.true_or, Bool.or_false, Bool.false_or, sc_non, sc_bl, sc_int, sc_str, sc_lst, sc_tup, sc_dk,
  mk_sv, kp_sv, bk_sv, no_sv, x_ext, wp_nil, wp_cons, mk_nil, mk_o, mk_v, mk_n, mg_nil, mg_cons, mg_t, mg_f, kp_v, kp_n, kp_o, bk_same, bk_o, bk_t, bk_f, bk_n, by_nm, by_two, no_nil, no_o, no_v, no_n, rb_v, rb_o, os_nil, os_o, os_v, fin_ret, fin_nx, List.contains_cons, List.contains_nil, Nat.reduceBEq, Nat.reduceEqDiff, List.nodup_cons, List.nodup_nil, varsOf, List.not_mem_nil, List.mem_cons, List.mem_singleton, or_false, false_or, or_true, true_or, decide_eq_true_eq, Tgt.ix, isOwn, List.map_cons, List.map_nil, List.cons_append, List.nil_append])
theorem names_step {n : Nat} {S : D} {ks : Bool} {l t : Int} {ns : List Str} (hl : ns.length ≤ 8) {y : List (Option (Bool × D))} {B : Bag} (hB : B.Ok) {a5 a6 a7 a8 a10 a11 : Option (Bool × D)} {x9 : Option Slot} :
    ∃ f, ∃ B' : Bag, nameOk f = true ∧ f ∉ ns ∧ B'.Ok ∧ evB (csT tab (n + 4)) [false] cs_law_f0 [some (.v ks S), some (.own B.ds), some (.v true (.int l)), some (.own (ns.map .str)), some (.v true (.int t)), sv a5, sv a6, sv a7, sv a8, x9, sv a10, sv a11] = some (.nx [some (.v ks S), some (.own B'.ds), some (.v true (.int l)), some (.own ((ns ++ [f]).map .str)), some (.v true (.int t)), sv a5, sv a6, sv a7, sv a8, x9, sv a10, sv a11]) := by
  obtain ⟨f, B', h1, h2, h3, h4⟩ := law_name_spec (n := n + 1) hB (k := false) (ts := ns) hl
  refine ⟨f, B', h1, h2, h3, ?_⟩
  have m12 : (csT tab (n + 4)).M 12 = [true, false] := cs_M (T := tab) (f := 12) rfl
  have hsz := size_eq
  have hs : ns.length < sizeLine := by omega
  rw [List.map_append]
  clear hB h1 h2 h3 hl hsz
  unfold cs_law_f0
  k_whileD _ _ _ "ev"
theorem trial_step {n : Nat} {S Wd : D} {ks : Bool} {l t : Int} {Ns H9 : List D} {B B' : Bag} {a4 a6 a7 a8 a10 : Option (Bool × D)}
    (h : (csT tab n).C 17 [.own B.ds, .v true Wd] = some (.val (.bl true), [.own B'.ds, .v true Wd])) :
    evB (csT tab n) [false] cs_law_f1 [some (.v ks S), some (.own B.ds), some (.v true (.int l)), some (.own Ns), sv a4, some (.v true Wd), sv a6, sv a7, sv a8, some (.own H9), sv a10, some (.v true (.int t))] = some (.nx [some (.v ks S), some (.own B'.ds), some (.v true (.int l)), some (.own Ns), sv a4, some (.v true Wd), sv a6, sv a7, sv a8, some (.own H9), sv a10, some (.v true (.int t))]) := by
  have m17 : (csT tab n).M 17 = [true, false] := cs_M (T := tab) (f := 17) rfl
  unfold cs_law_f1
  k_whileD _ _ _ "ev"
theorem copy_list {n : Nat} {S X6 : D} {ks : Bool} {l : Int} {Ns : List D} {Bs : List D} {a4 a7 a8 a10 a11 : Option (Bool × D)} {W : List Wish} (hls : ∀ r ∈ W, r.1 = false) {x9 : Option (List D)} :
    compL (compF (csT tab n) cs_law_e0 (.nm 8) [8] (fun t => .one (.v true ((W.map rowD).getD t .non)))) 0 W.length [some (.v ks S), some (.own Bs), some (.v true (.int l)), some (.own Ns), sv a4, some (.v true (wishD false W)), some (.v true X6), sv a7, sv a8, x9.map .own, sv a10, sv a11] [] = some (W.map rowD, [some (.v ks S), some (.own Bs), some (.v true (.int l)), some (.own Ns), sv a4, some (.v true (wishD false W)), some (.v true X6), sv a7, sv a8, x9.map .own, sv a10, sv a11]) := by
  rw [compL_map (fun t => rowD (W.getD t (false, []))) fun t ht => ?_, range_getD W (false, []) rowD]
  have hx : W[t]? = some W[t] := List.getElem?_eq_getElem ht
  have hg : (W.map rowD).getD t .non = rowD W[t] := by rw [List.getD_eq_getElem?_getD, List.getElem?_map, hx]; rfl
  have hg2 : W.getD t (false, []) = W[t] := by rw [List.getD_eq_getElem?_getD, hx]; rfl
  have e : rowD W[t] = .lst (W[t].2.map .str) := by unfold rowD; rw [hls _ (List.mem_of_getElem? hx)]; rfl
  rw [hg2]
  unfold compF
  dsimp only
  rw [hg, e]
  generalize W[t].2.map D.str = xs at *
  generalize wishD false W = WW at *
  clear hg hg2 hx e ht hls
  unfold cs_law_e0
  cases x9 with
  | none =>
    dsimp only [Option.map]
    k_whileD _ _ _ "ev"
  | some q =>
    dsimp only [Option.map]
    k_whileD _ _ _ "ev"
def flatW (W : List Wish) : List Wish := W.map fun r => (true, r.2)
theorem flat_list {n : Nat} {S : D} {ks : Bool} {l : Int} {Ns H9 : List D} {Bs : List D} {a4 a6 a7 a8 a10 a11 : Option (Bool × D)} {W : List Wish} (hls : ∀ r ∈ W, r.1 = false) (hz : ∀ r ∈ W, r.2.length ≤ 100) :
    compL (compF (csT tab n) cs_law_e1 (.nm 8) [8] (fun t => .one (.v true ((W.map rowD).getD t .non)))) 0 W.length [some (.v ks S), some (.own Bs), some (.v true (.int l)), some (.own Ns), sv a4, some (.v true (wishD false W)), sv a6, sv a7, sv a8, some (.own H9), sv a10, sv a11] [] = some ((flatW W).map rowD, [some (.v ks S), some (.own Bs), some (.v true (.int l)), some (.own Ns), sv a4, some (.v true (wishD false W)), sv a6, sv a7, sv a8, some (.own H9), sv a10, sv a11]) := by
  have hsz := size_eq
  unfold flatW
  rw [List.map_map]
  rw [compL_map (fun t => .tup ((W.getD t (false, [])).2.map .str)) fun t ht => ?_]
  · rw [range_getD W (false, []) fun r : Wish => D.tup (r.2.map D.str)]; rfl
  have hx : W[t]? = some W[t] := List.getElem?_eq_getElem ht
  have hg : (W.map rowD).getD t .non = rowD W[t] := by rw [List.getD_eq_getElem?_getD, List.getElem?_map, hx]; rfl
  have hg2 : W.getD t (false, []) = W[t] := by rw [List.getD_eq_getElem?_getD, hx]; rfl
  have e : rowD W[t] = .lst (W[t].2.map .str) := by unfold rowD; rw [hls _ (List.mem_of_getElem? hx)]; rfl
  have hs : W[t].2.length ≤ sizeLine := by have := hz _ (List.mem_of_getElem? hx); omega
  rw [hg2]
  unfold compF
  dsimp only
  rw [hg, e]
  generalize W[t].2 = xs at *
  have hs : (xs.map D.str).length ≤ sizeLine := by rw [List.length_map]; exact hs
  generalize xs.map D.str = X at *
  generalize wishD false W = WW at *
  clear hg hg2 hx e ht hls hz hsz
  unfold cs_law_e1
  k_whileD _ _ _ "ev"
theorem FineW.flat {W : List Wish} (h : FineW W) : FineW (flatW W) := by
  have hm : ∀ r ∈ flatW W, ∃ q ∈ W, r = (true, q.2) := fun r hr => by
    obtain ⟨q, hq, rfl⟩ := List.mem_map.mp hr
    exact ⟨q, hq, rfl⟩
  refine ⟨by unfold flatW; rw [List.length_map]; exact h.len, fun r hr => ?_, fun r hr => ?_, fun r hr => ?_⟩ <;> obtain ⟨q, hq, rfl⟩ := hm r hr
  · exact h.row q hq
  · exact h.nm q hq
  · exact h.nd q hq
theorem allP_flat (W : List Wish) : allP (flatW W) = allP W := by
  unfold allP flatW
  rw [List.foldl_map]; rfl
theorem way_flat (W : List Wish) (row : List Nat) : wayOf (flatW W) row = wayOf W row := by
  unfold wayOf flatW
  rw [List.length_map]
  refine List.map_congr_left fun t ht => ?_
  rw [getD_map (fun r : Wish => ((true, r.2) : Wish)) W t (false, []) (false, []) (List.mem_range.mp ht)]
  rfl
theorem ways_flat (W : List Wish) : waysOf (flatW W) = waysOf W := by
  unfold waysOf ordP
  rw [allP_flat]
  have : wayOf (flatW W) = wayOf W := by funext row; exact way_flat W row
  rw [this]
theorem ok_wish {W : List Wish} (h : WLen W) (b : Bool) (m : Nat) : okD (m + 2) (wishD b W) := by
  have hsz := size_eq
  have h1 : (W.map rowD).length ≤ sizeLine := by rw [List.length_map]; have := h.len; omega
  have h2 : ∀ d ∈ W.map rowD, okD (m + 1) d := by
    intro d hd
    obtain ⟨r, hr, rfl⟩ := List.mem_map.mp hd
    have h3 : (r.2.map D.str).length ≤ sizeLine := by rw [List.length_map]; have := h.row r hr; omega
    have h4 : ∀ d ∈ r.2.map D.str, okD m d := by
      intro d hd
      obtain ⟨z, _, rfl⟩ := List.mem_map.mp hd
      cases m <;> exact trivial
    unfold rowD seqD
    cases r.1
    · exact ⟨h3, h4⟩
    · exact ⟨h3, h4⟩
  cases b
  · exact ⟨h1, h2⟩
  · exact ⟨h1, h2⟩
end K09
namespace K09
open PySem L2 DL RL PyProof.Rows
local macro_rules | `(tactic| k_whileD _ _ _ "ev") => `(tactic| simp only [*, is_non_list, is_non_tuple, is_non_bool, is_non_str, is_non_int, is_non_dict, pl_non, isn_non, is_bl_list, is_bl_tuple, is_bl_bool, is_bl_str, is_bl_int, is_bl_dict, pl_bl, isn_bl, is_int_list, is_int_tuple, is_int_bool, is_int_str, is_int_int, is_int_dict, pl_int, isn_int, is_str_list, is_str_tuple, is_str_bool, is_str_str, is_str_int, is_str_dict, pl_str, isn_str, is_lst_list, is_lst_tuple, is_lst_bool, is_lst_str, is_lst_int, is_lst_dict, pl_lst, isn_lst, is_tup_list, is_tup_tuple, is_tup_bool, is_tup_str, is_tup_int, is_tup_dict, pl_tup, isn_tup, is_dk_list, is_dk_tuple, is_dk_bool, is_dk_str, is_dk_int, is_dk_dict, pl_dk, isn_dk, qv_atN, qv_atL, qv_ixLit, qv_mulL, qv_fdivL, qv_modL, qv_powL, Nat.reduceLT, Nat.reduceLeDiff, Nat.reduceAdd, Nat.zero_add, Nat.add_zero, Int.reduceLT, Int.reduceLE, Int.reducePow, Int.reduceToNat, Int.reduceEq, Int.reduceNeg, Int.reduceAdd, Int.reduceSub, Int.reduceMul, and_self, and_true, true_and, eq_self, not_true_eq_false, not_false_eq_true,
  ob_o, ob_v, ob_n, ob_s, fr_nil, fr_0, fr_s, nt_t, nt_f, iv_cst, iv_bin, iv_neg, iv_no, iv_one, iv_conj, iv_disj, iv_cmp, iv_ite, iv_idx, iv_sl, iv_lst, iv_tup, iv_fn, iv_isi, iv_call, iv_app, iv_ext, iv_pop, iv_rev, iv_count, iv_join, iv_comp, iv_compI, iv_comp2, iv_dk0, bf_int, bf_str, bf_list, bf_tuple, bf_sum, bf_all, bf_any, bf_sorted, bf_lenSet, chk_true,
  b_nil, b_seq, b_set, b_setIx, b_set2, b_expr, b_ret, b_retN, b_ife, b_for, b_pass, b_brk, b_cont, qv_nx, qv_ct, qv_bk, qv_ret, m_own, m_var, m_any,
  e_cst, e_var, e_bin, e_neg, e_no, e_one, e_conj, e_disj, e_cmp, e_ite, e_idxO, e_idxV, e_idx, e_sl, e_lst, e_tup, e_lenO, e_fnV, e_fnL, e_fn, e_isi, e_call, e_app, e_ext, e_pop, e_rev, e_count, e_join, e_comp, e_compI, e_comp2, e_dk0, f_range,
  t_no, t_one, t_conj, t_disj, t_cmp, t_chain, t_varB, t_fn, t_isi, t_call, o_nil, o_one, a_nil, a_cons, a_star, s_nil, s_own, s_var, s_cons, w_range, w_zip, w_enum, w_one,
  Option.bind_some, Option.bind_none, Option.map_some, List.getElem?_cons_zero, List.getElem?_cons_succ, List.set_cons_zero, List.set_cons_succ, chk_pos, List.length_cons, List.length_nil, List.length_map, List.all_cons, List.all_nil, Bool.and_true, Bool.true_and, Bool.false_and, Bool.and_false, Bool.and_self, Bool.not_false, Bool.not_true,
  qv_int, qv_bl, qv_str, qv_toT, qv_toO, qv_toI, qv_toS, qv_toB, qv_toN, qv_fixV, qv_fixO, qv_datV, qv_datO, qv_add, qv_addI, qv_addS, qv_addL, qv_sub, qv_mulC, qv_fdivC, qv_modC, qv_powC, qv_in, qv_nin, qv_is, qv_isnt, qv_eq, qv_ne, qv_eqI, qv_eqS, qv_eqB, qv_lt, qv_le, qv_gt, qv_ge, qv_dle, qv_inS, qv_inL, qv_inT,
  qv_ixL, qv_ixT, qv_ixS, qv_lenL, qv_lenT, qv_lenO, qv_lenS, qv_itO, qv_itL, qv_itT, qv_itL', qv_itT', qv_sqO, qv_sqL, qv_sqT, qv_lsO, qv_lsV, qv_lkO, qv_lkT, qv_lkS, qv_len, qv_intf, qv_strf, qv_list, qv_tupleT, qv_tupleL, qv_tupleO, qv_sum, qv_all, qv_any, qv_sorted, qv_lenSet, qv_slS, qv_slL, qv_slO, qv_wkO, qv_wkL, qv_wkT, qv_wkS, qv_getO0, qv_getOS, qv_varV, qv_varO,
  qv_nvT, qv_nvI, qv_nvS, qv_nvB, qv_nvN, qv_nvO, qv_argV, qv_argO, qv_atp, qv_ixp, qv_isi1, qv_isi2, qv_call, qv_aNil, qv_aCons, qv_aEx, qv_aOwn, qv_aBor, qv_backV, qv_backO, qv_backB, qv_backN, if_true, if_false, Bool.false_eq_true, reduceIte, decide_true, decide_false, Bool.or_true, Bool.true_or, Bool.or_false, Bool.false_or, sc_non, sc_bl, sc_int, sc_str, sc_lst, sc_tup, sc_dk,
  mk_sv, kp_sv, bk_sv, no_sv, x_ext, wp_nil, wp_cons, mk_nil, mk_o, mk_v, mk_n, mg_nil, mg_cons, mg_t, mg_f, kp_v, kp_n, kp_o, bk_same, bk_o, bk_t, bk_f, bk_n, by_nm, by_two, no_nil, no_o, no_v, no_n, rb_v, rb_o, os_nil, os_o, os_v, fin_ret, fin_nx, List.contains_cons, List.contains_nil, Nat.reduceBEq, Nat.reduceEqDiff, List.nodup_cons, List.nodup_nil, varsOf, List.not_mem_nil, List.mem_cons, List.mem_singleton, or_false, false_or, or_true, true_or, decide_eq_true_eq, Tgt.ix, isOwn, List.map_cons, List.map_nil, List.cons_append, List.nil_append])
/-- what the law's refusals must tell, as a premise: proved with the exceptions -/
def Refuses (n : Nat) : Prop := ∀ (W : List Wish) (ns : List Str), FineW W → (∀ r ∈ W, GoodR ns r) → W.length ≤ 3 → ∀ B : Bag, B.Ok → ∃ B' : Bag, B'.Ok ∧ (csT tab n).C 17 [.own B.ds, .v true (wishD false W)] = some (.val (.bl true), [.own B'.ds, .v true (wishD false W)])
theorem wish_lst (W : List Wish) : wishD false W = .lst (W.map rowD) := rfl
theorem wish_tup (W : List Wish) : wishD true W = .tup (W.map rowD) := rfl
theorem lap_names {n : Nat} {S : D} {ks : Bool} {l : Int} {B : Bag} (hB : B.Ok) {a4 a5 a6 a7 a8 a10 a11 : Option (Bool × D)} {x9 : Option Slot} {m : Nat} (hm : m ≤ 8) :
    ∃ ns : List Str, ∃ B' : Bag, ∃ b4 : Option (Bool × D), B'.Ok ∧ ns.length = m ∧ ns.Nodup ∧ (∀ z ∈ ns, nameOk z = true) ∧ forL (forF (csT tab (n + 4)) [false] (.nm 4) (fun t => .one (.val (.int (t : Int)))) cs_law_f0) 0 m [some (.v ks S), some (.own B.ds), some (.v true (.int l)), some (.own []), sv a4, sv a5, sv a6, sv a7, sv a8, x9, sv a10, sv a11] = some (.nx [some (.v ks S), some (.own B'.ds), some (.v true (.int l)), some (.own (ns.map .str)), sv b4, sv a5, sv a6, sv a7, sv a8, x9, sv a10, sv a11]) := by
  obtain ⟨ρ', h1, ns, B', b4, g1, g2, g3, g4, rfl⟩ := forL_ind (f := forF (csT tab (n + 4)) [false] (.nm 4) (fun t => .one (.val (.int (t : Int)))) cs_law_f0)
    (fun t ρ => ∃ ns : List Str, ∃ B' : Bag, ∃ b4, B'.Ok ∧ ns.length = t ∧ ns.Nodup ∧ (∀ z ∈ ns, nameOk z = true) ∧ ρ = [some (.v ks S), some (.own B'.ds), some (.v true (.int l)), some (.own (ns.map .str)), sv b4, sv a5, sv a6, sv a7, sv a8, x9, sv a10, sv a11]) (m := m) (s := 0) (ρ := [some (.v ks S), some (.own B.ds), some (.v true (.int l)), some (.own []), sv a4, sv a5, sv a6, sv a7, sv a8, x9, sv a10, sv a11]) ⟨[], B, a4, hB, rfl, List.nodup_nil, (fun _ h => by cases h), rfl⟩ fun t ρ _ ht ⟨ns, B1, b4, g1, g2, g3, g4, hj⟩ => by
      subst hj
      obtain ⟨f, B2, f1, f2, f3, f4⟩ := names_step (n := n) (S := S) (ks := ks) (l := l) (t := (t : Int)) (ns := ns) (by omega) (y := []) g1 (a5 := a5) (a6 := a6) (a7 := a7) (a8 := a8) (a10 := a10) (a11 := a11) (x9 := x9)
      refine ⟨_, ?_, ns ++ [f], B2, some (true, .int (t : Int)), f3, by rw [List.length_append, g2]; rfl, ?_, fun z hz => ?_, rfl⟩
      · unfold forF
        dsimp only
        exact f4
      · rw [List.nodup_append]
        refine ⟨g3, List.pairwise_singleton .., fun a ha b hb e => ?_⟩
        rw [List.mem_singleton.mp hb] at e
        subst e
        exact f2 ha
      · rcases List.mem_append.mp hz with hz | hz
        · exact g4 z hz
        · rw [List.mem_singleton.mp hz]; exact f1
  exact ⟨ns, B', b4, g1, by omega, g3, g4, h1⟩
theorem trials_loop {n : Nat} {S : D} {ks : Bool} {l : Int} {Ns H9 : List D} {W : List Wish} {ns : List Str} (hR : Refuses n) (h : FineW W) (hg : ∀ r ∈ W, GoodR ns r) (h3 : W.length ≤ 3) {B : Bag} (hB : B.Ok) {a4 a6 a7 a8 a10 a11 : Option (Bool × D)} (m : Nat) :
    ∃ B' : Bag, ∃ b11 : Option (Bool × D), B'.Ok ∧ forL (forF (csT tab n) [false] (.nm 11) (fun t => .one (.val (.int (t : Int)))) cs_law_f1) 0 m [some (.v ks S), some (.own B.ds), some (.v true (.int l)), some (.own Ns), sv a4, some (.v true (wishD false W)), sv a6, sv a7, sv a8, some (.own H9), sv a10, sv a11] = some (.nx [some (.v ks S), some (.own B'.ds), some (.v true (.int l)), some (.own Ns), sv a4, some (.v true (wishD false W)), sv a6, sv a7, sv a8, some (.own H9), sv a10, sv b11]) := by
  obtain ⟨ρ', h1, B', b11, g1, rfl⟩ := forL_ind (f := forF (csT tab n) [false] (.nm 11) (fun t => .one (.val (.int (t : Int)))) cs_law_f1)
    (fun t ρ => ∃ B' : Bag, ∃ b11, B'.Ok ∧ ρ = [some (.v ks S), some (.own B'.ds), some (.v true (.int l)), some (.own Ns), sv a4, some (.v true (wishD false W)), sv a6, sv a7, sv a8, some (.own H9), sv a10, sv b11]) (m := m) (s := 0) (ρ := [some (.v ks S), some (.own B.ds), some (.v true (.int l)), some (.own Ns), sv a4, some (.v true (wishD false W)), sv a6, sv a7, sv a8, some (.own H9), sv a10, sv a11]) ⟨B, a11, hB, rfl⟩ fun t ρ _ ht ⟨B1, b11, g1, hj⟩ => by
      subst hj
      obtain ⟨B2, g2, g3⟩ := hR W ns h hg h3 B1 g1
      refine ⟨_, ?_, B2, some (true, .int (t : Int)), g2, rfl⟩
      unfold forF
      dsimp only
      exact trial_step g3
  exact ⟨B', b11, g1, h1⟩
theorem lap_spec {n : Nat} (hR : Refuses (n + 4)) {S : D} {ks : Bool} {l : Int} {B : Bag} (hB : B.Ok) {a4 a5 a6 a7 a8 a10 a11 : Option (Bool × D)} {x3 : Option Slot} {x9 : Option (List D)} :
    ∃ B' : Bag, ∃ q3 : List D, ∃ b4 b5 b6 b7 b8 b10 b11 : Option (Bool × D), ∃ q9 : List D, B'.Ok ∧ evB (csT tab (n + 4)) [false] cs_law_f2 [some (.v ks S), some (.own B.ds), some (.v true (.int l)), x3, sv a4, sv a5, sv a6, sv a7, sv a8, x9.map .own, sv a10, sv a11] = some (.nx [some (.v ks S), some (.own B'.ds), some (.v true (.int l)), some (.own q3), sv b4, sv b5, sv b6, sv b7, sv b8, some (.own q9), sv b10, sv b11]) := by
  have m9 : (csT tab (n + 4)).M 9 = [true, false] := cs_M (T := tab) (f := 9) rfl
  have m14 : (csT tab (n + 4)).M 14 = [true, false, false] := cs_M (T := tab) (f := 14) rfl
  have m13 : (csT tab (n + 4)).M 13 = [false] := cs_M (T := tab) (f := 13) rfl
  have m3 : (csT tab (n + 4)).M 3 = [false] := cs_M (T := tab) (f := 3) rfl
  have m10 : (csT tab (n + 4)).M 10 = [false, false] := cs_M (T := tab) (f := 10) rfl
  have m18 : (csT tab (n + 4)).M 18 = [true, false, false] := cs_M (T := tab) (f := 18) rfl
  have hsz := size_eq
  obtain ⟨m, hm, o⟩ := of_nats (n := n + 2) hB (ms := [3, 2, 4, 1, 5]) (by decide) (by decide) (k := true)
  have o9 : (csT tab (n + 4)).C 9 [.own B.ds, .v true (.lst [.int 3, .int 2, .int 4, .int 1, .int 5])] = some (.val (.int (m : Nat)), [.own (B.next 5).ds, .v true (.lst [.int 3, .int 2, .int 4, .int 1, .int 5])]) := o
  have hm2 : m ≤ 5 := by
    have : ∀ m ∈ [3, 2, 4, 1, 5], m ≤ 5 := by decide
    exact this m hm
  have hN := next_ok hB (t := 5) (by omega)
  obtain ⟨ns, B1, b4, g1, g2, g3, g4, g5⟩ := lap_names (n := n) (S := S) (ks := ks) (l := l) hN (a4 := a4) (a5 := a5) (a6 := a6) (a7 := a7) (a8 := a8) (a10 := a10) (a11 := a11) (x9 := x9.map .own) (m := m) (by omega)
  obtain ⟨W, B2, h1, h2, h3, h4⟩ := law_wants_spec (n := n + 1) (k := false) (k2 := true) g3 (by omega) g1
  have fW : FineW W := ⟨⟨h2.1, by omega⟩, fun r hr => by have := (h3 r hr).ln; omega, fun r hr z hz => g4 z ((h3 r hr).sb z hz), fun r hr => (h3 r hr).nd⟩
  have due := due_fine (n := n + 3) (k := true) (b := false) fW
  have wy := ways_fine (n := n + 1) (k := true) (b := false) fW
  have wf := ways_fine (n := n + 1) (k := true) (b := true) fW.flat
  rw [ways_flat] at wf
  obtain ⟨wl1, wl2⟩ := ways_len fW.wlen
  have okw := ok_ways (waysOf W) (by omega) (fun w hw => by have := wl2 w hw; omega) 0
  have like1 := like_spec 2 (n := n + 1) okw false true
  have like2 := like_spec 2 (n := n + 1) okw true true
  have like3 := like_spec 2 (n := n + 1) (ok_wish fW.wlen false 0) true true
  obtain ⟨B3, w1, w2⟩ := wider_spec (n := n) (kn := false) (kw := true) (ns := ns) (by omega) fW h3 h1
  obtain ⟨B4, b11, t1, t2⟩ := trials_loop (n := n + 4) (S := S) (ks := ks) (l := l) (Ns := ns.map .str) (H9 := ((waysOf W).map tupS ++ [D.tup [D.str "-"]]).reverse) (W := W) (ns := ns) hR fW h3 h2.2 w1 (a4 := b4) (a6 := some (true, .lst ((waysOf W).map tupS))) (a7 := some (true, .lst (W.map rowD))) (a8 := a8) (a10 := some (true, .tup ((flatW W).map rowD))) (a11 := a11) 4
  have c1 := copy_list (n := n + 4) (S := S) (X6 := .lst ((waysOf W).map tupS)) (ks := ks) (l := l) (Ns := ns.map .str) (Bs := B2.ds) (a4 := b4) (a7 := a7) (a8 := a8) (a10 := a10) (a11 := a11) (W := W) (fun r hr => (h3 r hr).ls) (x9 := x9)
  have c2 := flat_list (n := n + 4) (S := S) (ks := ks) (l := l) (Ns := ns.map .str) (H9 := ((waysOf W).map tupS ++ [D.tup [D.str "-"]]).reverse) (Bs := B2.ds) (a4 := b4) (a6 := some (true, .lst ((waysOf W).map tupS))) (a7 := some (true, .lst (W.map rowD))) (a8 := a8) (a10 := a10) (a11 := a11) (W := W) (fun r hr => (h3 r hr).ls) (fun r hr => by have := (h3 r hr).ln; omega)
  refine ⟨B4, ns.map .str, b4, some (true, .lst (W.map rowD)), some (true, .lst ((waysOf W).map tupS)), some (true, .lst (W.map rowD)), a8, some (true, .tup ((flatW W).map rowD)), b11, ((waysOf W).map tupS ++ [D.tup [D.str "-"]]).reverse, t1, ?_⟩
  rw [wish_lst] at due wy like3 w2 t2 c1 c2
  rw [wish_tup] at wf
  have e1 : (W.map rowD).length = W.length := List.length_map _
  have e2 : W.length ≤ sizeLine := by omega
  have e3 : ((flatW W).map rowD).length = W.length := by rw [List.length_map]; unfold flatW; rw [List.length_map]
  have e4 : ((waysOf W).map tupS).length < sizeLine := by rw [List.length_map]; omega
  have s0 : 0 ≤ sizeLine := by omega
  have s1 : 1 ≤ sizeLine := by omega
  have s5 : 5 ≤ sizeLine := by omega
  have r1 : (-4611686018427387904 : Int) ≤ ((m : Nat) : Int) ∧ ((m : Nat) : Int) < 4611686018427387904 := ⟨by omega, by omega⟩
  have r2 : (((m : Nat) : Int)).toNat = m := rfl
  generalize (waysOf W).map tupS = Q at *
  generalize (flatW W).map rowD = F at *
  generalize W.map rowD = R at *
  generalize ns.map D.str = N at *
  generalize B.next 5 = B0 at *
  clear hR hB hm o hm2 hN g1 g2 g3 g4 h1 h2 h3 fW wl1 wl2 okw w1 t1 hsz
  have svS : ∀ (k : Bool) (d : D), sv (some (k, d)) = some (.v k d) := fun _ _ => rfl
  simp only [svS] at t2 c1 c2 ⊢
  clear svS
  unfold cs_law_f2
  k_whileD _ _ _ "ev"
theorem law_spec {n : Nat} (hR : Refuses (n + 4)) {k : Bool} {ns : List Int} (h : ns.length ≤ 63) :
    (csT tab (n + 5)).C 19 [.v k (.lst (ns.map .int))] = some (.val (.bl true), [.v k (.lst (ns.map .int))]) := by
  rw [call_eq (T := tab) (f := 19) rfl rfl]
  show (evB (csT tab (n + 4)) [false] cs_law [some (.v k _), none, none, none, none, none, none, none, none, none, none, none]).bind _ = _
  have m7 : (csT tab (n + 4)).M 7 = [false] := cs_M (T := tab) (f := 7) rfl
  have bg := bag_spec (n := n + 3) (k := k || isSc (.lst (ns.map .int))) h
  have sc : isSc (.lst (ns.map .int)) = false := rfl
  rw [sc, Bool.or_false] at bg
  obtain ⟨ρ', h1, B', a2, x3, x9, b4, b5, b6, b7, b8, b10, b11, g1, rfl⟩ := forL_ind (f := forF (csT tab (n + 4)) [false] (.nm 2) (fun t => .one (.val (.int (t : Int)))) cs_law_f2)
    (fun t ρ => ∃ B' : Bag, ∃ a2 x3, ∃ x9 : Option (List D), ∃ b4 b5 b6 b7 b8 b10 b11, B'.Ok ∧ ρ = [some (.v k (.lst (ns.map .int))), some (.own B'.ds), a2, x3, sv b4, sv b5, sv b6, sv b7, sv b8, x9.map .own, sv b10, sv b11]) (m := 3) (s := 0) (ρ := [some (.v k (.lst (ns.map .int))), some (.own (bag0 ns).ds), none, none, none, none, none, none, none, none, none, none]) ⟨bag0 ns, none, none, none, none, none, none, none, none, none, none, bag0_ok ns, rfl⟩ fun t ρ _ ht ⟨B1, a2, x3, x9, b4, b5, b6, b7, b8, b10, b11, g1, hj⟩ => by
      subst hj
      obtain ⟨B2, q3, c4, c5, c6, c7, c8, c10, c11, q9, f1, f2⟩ := lap_spec (n := n) hR (S := .lst (ns.map .int)) (ks := k) (l := (t : Int)) g1 (a4 := b4) (a5 := b5) (a6 := b6) (a7 := b7) (a8 := b8) (a10 := b10) (a11 := b11) (x3 := x3) (x9 := x9)
      refine ⟨_, ?_, B2, some (.v true (.int (t : Int))), some (.own q3), some q9, c4, c5, c6, c7, c8, c10, c11, f1, rfl⟩
      unfold forF
      dsimp only
      exact f2
  have r0 : 3 ≤ sizeLine := by decide
  clear hR h g1 sc
  unfold cs_law
  k_whileD _ _ _ "ev"
end K09
namespace K09
open PySem L2 DL RL PyProof.Rows
local macro_rules | `(tactic| k_whileD _ _ _ "ev") => `(tactic| simp only [*, is_non_list, is_non_tuple, is_non_bool, is_non_str, is_non_int, is_non_dict, pl_non, isn_non, is_bl_list, is_bl_tuple, is_bl_bool, is_bl_str, is_bl_int, is_bl_dict, pl_bl, isn_bl, is_int_list, is_int_tuple, is_int_bool, is_int_str, is_int_int, is_int_dict, pl_int, isn_int, is_str_list, is_str_tuple, is_str_bool, is_str_str, is_str_int, is_str_dict, pl_str, isn_str, is_lst_list, is_lst_tuple, is_lst_bool, is_lst_str, is_lst_int, is_lst_dict, pl_lst, isn_lst, is_tup_list, is_tup_tuple, is_tup_bool, is_tup_str, is_tup_int, is_tup_dict, pl_tup, isn_tup, is_dk_list, is_dk_tuple, is_dk_bool, is_dk_str, is_dk_int, is_dk_dict, pl_dk, isn_dk, qv_atN, qv_atL, qv_ixLit, qv_mulL, qv_fdivL, qv_modL, qv_powL, Nat.reduceLT, Nat.reduceLeDiff, Nat.reduceAdd, Nat.zero_add, Nat.add_zero, Int.reduceLT, Int.reduceLE, Int.reducePow, Int.reduceToNat, Int.reduceEq, Int.reduceNeg, Int.reduceAdd, Int.reduceSub, Int.reduceMul, and_self, and_true, true_and, eq_self, not_true_eq_false, not_false_eq_true,
  ob_o, ob_v, ob_n, ob_s, fr_nil, fr_0, fr_s, nt_t, nt_f, iv_cst, iv_bin, iv_neg, iv_no, iv_one, iv_conj, iv_disj, iv_cmp, iv_ite, iv_idx, iv_sl, iv_lst, iv_tup, iv_fn, iv_isi, iv_call, iv_app, iv_ext, iv_pop, iv_rev, iv_count, iv_join, iv_comp, iv_compI, iv_comp2, iv_dk0, bf_int, bf_str, bf_list, bf_tuple, bf_sum, bf_all, bf_any, bf_sorted, bf_lenSet, chk_true,
  b_nil, b_seq, b_set, b_setIx, b_set2, b_expr, b_ret, b_retN, b_ife, b_for, b_pass, b_brk, b_cont, qv_nx, qv_ct, qv_bk, qv_ret, m_own, m_var, m_any,
  e_cst, e_var, e_bin, e_neg, e_no, e_one, e_conj, e_disj, e_cmp, e_ite, e_idxO, e_idxV, e_idx, e_sl, e_lst, e_tup, e_lenO, e_fnV, e_fnL, e_fn, e_isi, e_call, e_app, e_ext, e_pop, e_rev, e_count, e_join, e_comp, e_compI, e_comp2, e_dk0, f_range,
  t_no, t_one, t_conj, t_disj, t_cmp, t_chain, t_varB, t_fn, t_isi, t_call, o_nil, o_one, a_nil, a_cons, a_star, s_nil, s_own, s_var, s_cons, w_range, w_zip, w_enum, w_one,
  Option.bind_some, Option.bind_none, Option.map_some, List.getElem?_cons_zero, List.getElem?_cons_succ, List.set_cons_zero, List.set_cons_succ, chk_pos, List.length_cons, List.length_nil, List.length_map, List.all_cons, List.all_nil, Bool.and_true, Bool.true_and, Bool.false_and, Bool.and_false, Bool.and_self, Bool.not_false, Bool.not_true,
  qv_int, qv_bl, qv_str, qv_toT, qv_toO, qv_toI, qv_toS, qv_toB, qv_toN, qv_fixV, qv_fixO, qv_datV, qv_datO, qv_add, qv_addI, qv_addS, qv_addL, qv_sub, qv_mulC, qv_fdivC, qv_modC, qv_powC, qv_in, qv_nin, qv_is, qv_isnt, qv_eq, qv_ne, qv_eqI, qv_eqS, qv_eqB, qv_lt, qv_le, qv_gt, qv_ge, qv_dle, qv_inS, qv_inL, qv_inT,
  qv_ixL, qv_ixT, qv_ixS, qv_lenL, qv_lenT, qv_lenO, qv_lenS, qv_itO, qv_itL, qv_itT, qv_itL', qv_itT', qv_sqO, qv_sqL, qv_sqT, qv_lsO, qv_lsV, qv_lkO, qv_lkT, qv_lkS, qv_len, qv_intf, qv_strf, qv_list, qv_tupleT, qv_tupleL, qv_tupleO, qv_sum, qv_all, qv_any, qv_sorted, qv_lenSet, qv_slS, qv_slL, qv_slO, qv_wkO, qv_wkL, qv_wkT, qv_wkS, qv_getO0, qv_getOS, qv_varV, qv_varO,
  qv_nvT, qv_nvI, qv_nvS, qv_nvB, qv_nvN, qv_nvO, qv_argV, qv_argO, qv_atp, qv_ixp, qv_isi1, qv_isi2, qv_call, qv_aNil, qv_aCons, qv_aEx, qv_aOwn, qv_aBor, qv_backV, qv_backO, qv_backB, qv_backN, if_true, if_false, Bool.false_eq_true, reduceIte, decide_true, decide_false, Bool.or_true, Bool.true_or, Bool.or_false, Bool.false_or, sc_non, sc_bl, sc_int, sc_str, sc_lst, sc_tup, sc_dk,
  mk_sv, kp_sv, bk_sv, no_sv, x_ext, wp_nil, wp_cons, mk_nil, mk_o, mk_v, mk_n, mg_nil, mg_cons, mg_t, mg_f, kp_v, kp_n, kp_o, bk_same, bk_o, bk_t, bk_f, bk_n, by_nm, by_two, no_nil, no_o, no_v, no_n, rb_v, rb_o, os_nil, os_o, os_v, fin_ret, fin_nx, List.contains_cons, List.contains_nil, Nat.reduceBEq, Nat.reduceEqDiff, List.nodup_cons, List.nodup_nil, varsOf, List.not_mem_nil, List.mem_cons, List.mem_singleton, or_false, false_or, or_true, true_or, decide_eq_true_eq, Tgt.ix, isOwn, List.map_cons, List.map_nil, List.cons_append, List.nil_append])
def bentH : CS := (.ife (.cmp .Eq (.var 4) (.cst (.int (0)))) (.seq (.ret (.call 9 (.cons (.var 0) (.cons (.lst (.cons (.var 2) (.cons (.lst .nil) (.cons (.tup .nil) (.cons (.fn .tuple (.var 1)) (.cons (.comp cs__law_bent_wants_e0 (.one (.var 1)) (.nm 6) [6]) .nil)))))) .nil)))) .nil) .nil)
def bentG : CS := (.ife (.cmp .Eq (.var 4) (.cst (.int (1)))) (.seq (.ret (.bin .Add (.bin .Add (.sl (.var 1) .nil (.one (.var 3))) (.lst (.cons (.var 2) .nil))) (.sl (.var 1) (.one (.bin .Add (.var 3) (.call 8 (.cons (.var 0) (.cons (.cst (.int (2))) .nil))))) .nil))) .nil) .nil)
def bentF : CS := (.ife (.conj (.cmp .Eq (.var 4) (.cst (.int (2)))) (.one (.cmp .NotEq (.var 5) (.lst .nil)))) (.seq (.set true 7 (.call 8 (.cons (.var 0) (.cons (.bin .Add (.fn .len (.var 5)) (.cst (.int (1)))) .nil)))) (.seq (.ret (.bin .Add (.bin .Add (.sl (.var 1) .nil (.one (.var 3))) (.lst (.cons (.bin .Add (.bin .Add (.sl (.var 5) .nil (.one (.var 7))) (.lst (.cons (.call 9 (.cons (.var 0) (.cons (.var 5) .nil))) .nil))) (.sl (.var 5) (.one (.var 7)) .nil)) .nil))) (.sl (.var 1) (.one (.bin .Add (.var 3) (.cst (.int (1))))) .nil))) .nil)) .nil)
def bentE : CS := (.seq (.set true 7 (.call 8 (.cons (.var 0) (.cons (.bin .Add (.fn .len (.var 5)) (.cst (.int (1)))) .nil)))) (.seq (.set true 8 (.call 9 (.cons (.var 0) (.cons (.lst (.cons (.var 2) (.cons (.cst (.str "-")) (.cons (.cst (.str "a.1")) (.cons (.cst (.str "abcdefghijklm")) (.cons (.lst .nil) (.cons (.cst (.str "A")) (.cons (.cst (.str "z")) .nil)))))))) .nil)))) (.seq (.ret (.bin .Add (.bin .Add (.sl (.var 1) .nil (.one (.var 3))) (.lst (.cons (.bin .Add (.bin .Add (.sl (.var 5) .nil (.one (.var 7))) (.lst (.cons (.var 8) .nil))) (.sl (.var 5) (.one (.bin .Add (.var 7) (.call 8 (.cons (.var 0) (.cons (.cst (.int (2))) .nil))))) .nil)) .nil))) (.sl (.var 1) (.one (.bin .Add (.var 3) (.cst (.int (1))))) .nil))) .nil)))
theorem bent_parts : cs__law_bent_wants = .seq (.set true 2 (.call 9 (.cons (.var 0) (.cons (.lst (.cons (.cst .non) (.cons (.cst (.bl true)) (.cons (.cst (.int (0))) (.cons (.cst (.str "")) (.cons (.cst (.str "ab")) (.cons (.tup .nil) (.cons .dk0 (.cons (.cst (.str "-")) (.cons (.cst (.str "1a")) (.cons (.cst (.int (7))) .nil))))))))))) .nil)))) (.seq (.set2 3 4 (.call 8 (.cons (.var 0) (.cons (.fn .len (.var 1)) .nil))) (.call 8 (.cons (.var 0) (.cons (.cst (.int (8))) .nil)))) (.seq (.set true 5 (.fn .list (.idx (.var 1) (.var 3)))) (.seq bentH (.seq bentG (.seq bentF bentE))))) := rfl
def Bit : D → Prop
  | .non => True
  | .bl _ => True
  | .int _ => True
  | .str z => z.length ≤ 100
  | .tup [] => True
  | .lst [] => True
  | .dk [] [] => True
  | _ => False
def BRow (m : Nat) (d : D) : Prop := Bit d ∨ ∃ b ys, d = seqD b ys ∧ ys.length ≤ m ∧ ∀ y ∈ ys, Bit y
def BWish (a m : Nat) (d : D) : Prop := Bit d ∨ ∃ b rows, d = seqD b rows ∧ rows.length ≤ a ∧ ∀ r ∈ rows, BRow m r
theorem of_any {n : Nat} {B : Bag} (hB : B.Ok) {ds : List D} (h0 : 0 < ds.length) (h1 : ds.length < 1073741824) :
    ∃ d ∈ ds, (csT tab (n + 2)).C 9 [.own B.ds, .v true (.lst ds)] = some (.val d, [.own (B.next ds.length).ds, .v true (.lst ds)]) := by
  have hd := digit_lt (B := B) (t := ds.length) (by omega)
  have hlt : (B.digit ds.length).toNat < ds.length := by omega
  refine ⟨_, ?_, of_spec (n := n) hB h0 h1 (.inl rfl)⟩
  rw [List.getD_eq_getElem?_getD, List.getElem?_eq_getElem hlt]; exact List.getElem_mem hlt
theorem draw_nat {n : Nat} {B : Bag} (hB : B.Ok) {t : Nat} (h0 : 0 < t) (h1 : t < 1073741824) {k : Bool} :
    ∃ g : Nat, g < t ∧ (csT tab (n + 1)).C 8 [.own B.ds, .v k (.int (t : Nat))] = some (.val (.int (g : Nat)), [.own (B.next (t : Nat)).ds, .v k (.int (t : Nat))]) := by
  have hd := digit_lt (B := B) (t := (t : Nat)) (by omega)
  refine ⟨(B.digit (t : Nat)).toNat, by omega, ?_⟩
  have := draw_spec (n := n) hB (t := (t : Nat)) (by omega) (by omega) (k := k)
  rw [this]
  have e : (((B.digit (t : Nat)).toNat : Nat) : Int) = B.digit (t : Nat) := by omega
  rw [e]
theorem cut_drop (ds : List D) (m : Nat) : DL.cutD ds (some (m : Int)) none = ds.drop m := by
  unfold DL.cutD
  rw [HT.sIx_nat]
  show (ds.drop (min m ds.length)).take (HT.sIx ds.length ds.length none - min m ds.length) = _
  rw [HT.sIx_none]
  by_cases h : m ≤ ds.length
  · rw [Nat.min_eq_left h, List.take_of_length_le (by rw [List.length_drop]; exact Nat.le_refl _)]
  · rw [Nat.min_eq_right (by omega), List.drop_length, List.drop_eq_nil_of_le (by omega), List.take_nil]
def toTup : D → D
  | .lst ys => .tup ys
  | d => d
structure BentIn (a m : Nat) (rows : List D) : Prop where
  pos : 0 < rows.length
  len : rows.length ≤ a
  row : ∀ r ∈ rows, ∃ b ys, r = seqD b ys ∧ ys.length ≤ m ∧ ∀ y ∈ ys, Bit y
theorem bentH_no {c : Cs} {Bs rows ys : List D} {st : D} {sp pk : Int} (h : pk ≠ 0) :
    evB c [true, false] bentH [some (.own Bs), some (.v true (.lst rows)), some (.v true st), some (.v true (.int sp)), some (.v true (.int pk)), some (.v true (.lst ys)), none, none, none] = some (.nx [some (.own Bs), some (.v true (.lst rows)), some (.v true st), some (.v true (.int sp)), some (.v true (.int pk)), some (.v true (.lst ys)), none, none, none]) := by
  unfold bentH
  k_whileD _ _ _ "ev"
theorem bentG_no {c : Cs} {Bs rows ys : List D} {st : D} {sp pk : Int} (h : pk ≠ 1) :
    evB c [true, false] bentG [some (.own Bs), some (.v true (.lst rows)), some (.v true st), some (.v true (.int sp)), some (.v true (.int pk)), some (.v true (.lst ys)), none, none, none] = some (.nx [some (.own Bs), some (.v true (.lst rows)), some (.v true st), some (.v true (.int sp)), some (.v true (.int pk)), some (.v true (.lst ys)), none, none, none]) := by
  unfold bentG
  k_whileD _ _ _ "ev"
theorem eq_nil (ys : List D) : eqX (.lst ys) (.lst []) = some (decide (ys = [])) := by
  cases ys with
  | nil =>
    have e1 : eqL (.lst []) (.lst []) = none := by
      unfold eqL
      exact if_neg (by simp)
    have e2 : pyD (.lst []) = .list [] := by rw [pyD, pyDs]
    have e3 : dataD (.lst []) = true := by simp [dataD, dataDs]
    have e4 : SeqAt.shaped (.list []) = true := by simp [SeqAt.shaped, PyData.canLay0, PyData.canLayAll0, PyData.depth, PyData.depthAll]
    have e5 : PyData.eqv (.list []) (.list []) = true := by simp [PyData.eqv, PyData.eqvAll]
    unfold eqX
    rw [e1, e2, e3, e4, e5]
    show Option.or none (Option.or none (chk _ _)) = _
    rw [chk_pos ⟨rfl, rfl, rfl, rfl⟩]; rfl
  | cons y ys =>
    have e1 : eqL (.lst (y :: ys)) (.lst []) = some false := by
      unfold eqL
      exact chk_pos (by simp)
    unfold eqX
    rw [e1]
    show Option.or none (Option.or (some false) _) = some (decide (y :: ys = []))
    rfl
theorem bentF_no {c : Cs} {Bs rows ys : List D} {st : D} {sp pk : Int} (h : pk ≠ 2 ∨ ys = []) :
    evB c [true, false] bentF [some (.own Bs), some (.v true (.lst rows)), some (.v true st), some (.v true (.int sp)), some (.v true (.int pk)), some (.v true (.lst ys)), none, none, none] = some (.nx [some (.own Bs), some (.v true (.lst rows)), some (.v true st), some (.v true (.int sp)), some (.v true (.int pk)), some (.v true (.lst ys)), none, none, none]) := by
  unfold bentF
  have h0 : 0 ≤ sizeLine := Nat.zero_le _
  by_cases hp : pk = 2
  · have hy : ys = [] := h.resolve_left (fun e => e hp)
    subst hy
    have e := eq_nil []
    rw [decide_eq_true rfl] at e
    clear h
    k_whileD _ _ _ "ev"
  · clear h
    k_whileD _ _ _ "ev"
theorem bit_lst {b : Bool} {ys : List D} (h : Bit (seqD b ys)) : ys = [] := by
  cases b <;> cases ys <;> first | rfl | exact h.elim
theorem BentIn.wish {a m : Nat} {rows : List D} (h : BentIn a m rows) (b : Bool) : BWish (a + 1) (m + 1) (seqD b rows) :=
  .inr ⟨b, rows, rfl, by have := h.len; omega, fun r hr => by
    obtain ⟨b, ys, rfl, h1, h2⟩ := h.row r hr
    exact .inr ⟨b, ys, rfl, by omega, h2⟩⟩
theorem BentIn.rowB {a m : Nat} {rows : List D} (h : BentIn a m rows) : ∀ r ∈ rows, BRow (m + 1) r := fun r hr => by
  obtain ⟨b, ys, rfl, h1, h2⟩ := h.row r hr
  exact .inr ⟨b, ys, rfl, by omega, h2⟩
theorem tup_list {n : Nat} {rows : List D} {a m : Nat} (ha : a ≤ 1000) (hm : m ≤ 1000) (h : BentIn a m rows) {Bs ys : List D} {st : D} {sp pk : Int} :
    compL (compF (csT tab n) cs__law_bent_wants_e0 (.nm 6) [6] (fun t => .one (.v true (rows.getD t .non)))) 0 rows.length [some (.own Bs), some (.v true (.lst rows)), some (.v true st), some (.v true (.int sp)), some (.v true (.int pk)), some (.v true (.lst ys)), none, none, none] [] = some (rows.map toTup, [some (.own Bs), some (.v true (.lst rows)), some (.v true st), some (.v true (.int sp)), some (.v true (.int pk)), some (.v true (.lst ys)), none, none, none]) := by
  have hsz := size_eq
  refine compL_list toTup fun t d hd => ?_
  obtain ⟨b, zs, rfl, h1, h2⟩ := h.row d (List.mem_of_getElem? hd)
  have hs : zs.length ≤ sizeLine := by omega
  have e : toTup (seqD b zs) = .tup zs := by cases b <;> rfl
  rw [e]
  unfold compF
  dsimp only
  rw [getD_of hd]
  clear hd h h1 h2 e hsz hm
  unfold cs__law_bent_wants_e0
  cases b with
  | true =>
    show (((bindY (.nm 6) (.one (.v true (.tup zs)))).bind _) : Option _) = _
    k_whileD _ _ _ "ev"
  | false =>
    show (((bindY (.nm 6) (.one (.v true (.lst zs)))).bind _) : Option _) = _
    k_whileD _ _ _ "ev"
theorem bentH_yes {n : Nat} {a m : Nat} (ha : a ≤ 1000) (hm : m ≤ 1000) {B : Bag} (hB : B.Ok) {rows ys : List D} (h : BentIn a m rows) {st : D} (hs : Bit st) {sp : Int} :
    ∃ d, ∃ B' : Bag, B'.Ok ∧ BWish (a + 1) (m + 1) d ∧ evB (csT tab (n + 2)) [true, false] bentH [some (.own B.ds), some (.v true (.lst rows)), some (.v true st), some (.v true (.int sp)), some (.v true (.int 0)), some (.v true (.lst ys)), none, none, none] = some (.ret (.val d) [some (.own B'.ds), some (.v true (.lst rows)), some (.v true st), some (.v true (.int sp)), some (.v true (.int 0)), some (.v true (.lst ys)), none, none, none]) := by
  have m9 : (csT tab (n + 2)).M 9 = [true, false] := cs_M (T := tab) (f := 9) rfl
  obtain ⟨d, hd, o9⟩ := of_any (n := n) hB (ds := [st, .lst [], .tup [], .tup rows, .lst (rows.map toTup)]) (show 0 < 5 by decide) (show 5 < 1073741824 by decide)
  replace o9 : (csT tab (n + 2)).C 9 [.own B.ds, .v true (.lst [st, .lst [], .tup [], .tup rows, .lst (rows.map toTup)])] = some (.val d, [.own (B.next 5).ds, .v true (.lst [st, .lst [], .tup [], .tup rows, .lst (rows.map toTup)])]) := o9
  refine ⟨d, B.next 5, next_ok hB (by omega), ?_, ?_⟩
  · simp only [List.mem_cons, List.not_mem_nil, or_false] at hd
    rcases hd with rfl | rfl | rfl | rfl | rfl
    · exact .inl hs
    · exact .inl trivial
    · exact .inl trivial
    · exact h.wish true
    · refine .inr ⟨false, rows.map toTup, rfl, by rw [List.length_map]; have := h.len; omega, fun r hr => ?_⟩
      obtain ⟨x, hx, rfl⟩ := List.mem_map.mp hr
      obtain ⟨b, zs, rfl, h1, h2⟩ := h.row x hx
      refine .inr ⟨true, zs, by cases b <;> rfl, by omega, h2⟩
  · have c1 := tup_list (n := n + 2) ha hm h (Bs := B.ds) (ys := ys) (st := st) (sp := sp) (pk := 0)
    have hl := h.len
    have hsz := size_eq
    have s1 : rows.length ≤ sizeLine := by omega
    have s5 : 5 ≤ sizeLine := by omega
    have s0 : 0 ≤ sizeLine := by omega
    generalize rows.map toTup = Q at *
    generalize B.next 5 = B1 at *
    clear hB h hs hd hl hsz hm
    unfold bentH
    k_whileD _ _ _ "ev"
theorem BRow.mono {m m2 : Nat} (h : m ≤ m2) {d : D} (hd : BRow m d) : BRow m2 d := by
  rcases hd with hd | ⟨b, ys, rfl, h1, h2⟩
  · exact .inl hd
  · exact .inr ⟨b, ys, rfl, by omega, h2⟩
theorem row_take {m : Nat} {rows : List D} (h : ∀ r ∈ rows, BRow m r) (i j : Nat) {d : D} (hd : BRow m d) : ∀ r ∈ rows.take i ++ [d] ++ rows.drop j, BRow m r := fun r hr => by
  rcases List.mem_append.mp hr with hr | hr
  · rcases List.mem_append.mp hr with hr | hr
    · exact h r (List.mem_of_mem_take hr)
    · rw [List.mem_singleton.mp hr]; exact hd
  · exact h r (List.mem_of_mem_drop hr)
theorem take_len (rows : List D) (i j : Nat) (d : D) (h : i ≤ j) : (rows.take i ++ [d] ++ rows.drop j).length ≤ rows.length + 1 := by
  rw [List.length_append, List.length_append, List.length_take, List.length_drop, List.length_singleton]; omega
theorem bentG_yes {n : Nat} {a m : Nat} (ha : a ≤ 1000) (hm : m ≤ 1000) {B : Bag} (hB : B.Ok) {rows ys : List D} (h : BentIn a m rows) {st : D} (hs : Bit st) {sp : Nat} :
    ∃ d, ∃ B' : Bag, B'.Ok ∧ BWish (a + 1) (m + 1) (.lst d) ∧ evB (csT tab (n + 2)) [true, false] bentG [some (.own B.ds), some (.v true (.lst rows)), some (.v true st), some (.v true (.int (sp : Nat))), some (.v true (.int 1)), some (.v true (.lst ys)), none, none, none] = some (.ret (.own d) [some (.own B'.ds), some (.v true (.lst rows)), some (.v true st), some (.v true (.int (sp : Nat))), some (.v true (.int 1)), some (.v true (.lst ys)), none, none, none]) := by
  have m8 : (csT tab (n + 2)).M 8 = [true, false] := cs_M (T := tab) (f := 8) rfl
  obtain ⟨g, hg, d8⟩ := draw_nat (n := n + 1) hB (t := 2) (by decide) (by decide) (k := true)
  replace d8 : (csT tab (n + 2)).C 8 [.own B.ds, .v true (.int 2)] = some (.val (.int (g : Nat)), [.own (B.next 2).ds, .v true (.int 2)]) := d8
  have hl := h.len
  have htl := take_len rows sp (sp + g) st (by omega)
  refine ⟨rows.take sp ++ [st] ++ rows.drop (sp + g), B.next 2, next_ok hB (by omega), .inr ⟨false, _, rfl, by omega, row_take h.rowB _ _ (.inl hs)⟩, ?_⟩
  have c1 := cut_take rows sp
  have c2 : DL.cutD rows (some ((sp : Int) + (g : Int))) none = rows.drop (sp + g) := by
    have := cut_drop rows (sp + g)
    rw [Int.natCast_add] at this; exact this
  have hsz := size_eq
  have s1 : 1 ≤ sizeLine := by omega
  have s2 : (rows.take sp).length + 1 ≤ sizeLine := by rw [List.length_take]; omega
  have s3 : (rows.take sp).length + 1 + (rows.drop (sp + g)).length ≤ sizeLine := by rw [List.length_take, List.length_drop]; omega
  have s4 : (rows.take sp ++ [st]).length + (rows.drop (sp + g)).length ≤ sizeLine := by rw [List.length_append]; exact s3
  generalize B.next 2 = B1 at *
  generalize rows.take sp = T at *
  generalize rows.drop (sp + g) = R at *
  clear hB h hs hl hsz hm htl hg
  unfold bentG
  k_whileD _ _ _ "ev"
theorem bit_row {m : Nat} {ys : List D} (hl : ys.length ≤ m) (h : ∀ y ∈ ys, Bit y) (i j : Nat) (hij : i ≤ j) {d : D} (hd : Bit d) : BRow (m + 1) (.lst (ys.take i ++ [d] ++ ys.drop j)) := by
  refine .inr ⟨false, _, rfl, by have := take_len ys i j d hij; omega, fun r hr => ?_⟩
  rcases List.mem_append.mp hr with hr | hr
  · rcases List.mem_append.mp hr with hr | hr
    · exact h r (List.mem_of_mem_take hr)
    · rw [List.mem_singleton.mp hr]; exact hd
  · exact h r (List.mem_of_mem_drop hr)
theorem bentF_yes {n : Nat} {a m : Nat} (ha : a ≤ 1000) (hm : m ≤ 1000) {B : Bag} (hB : B.Ok) {rows ys : List D} (h : BentIn a m rows) (hy : ys.length ≤ m) (hyb : ∀ y ∈ ys, Bit y) (hne : ys ≠ []) {st : D} {sp : Nat} :
    ∃ d, ∃ B' : Bag, ∃ ρ', B'.Ok ∧ BWish (a + 1) (m + 1) (.lst d) ∧ evB (csT tab (n + 2)) [true, false] bentF [some (.own B.ds), some (.v true (.lst rows)), some (.v true st), some (.v true (.int (sp : Nat))), some (.v true (.int 2)), some (.v true (.lst ys)), none, none, none] = some (.ret (.own d) (some (.own B'.ds) :: some (.v true (.lst rows)) :: ρ')) := by
  have m8 : (csT tab (n + 2)).M 8 = [true, false] := cs_M (T := tab) (f := 8) rfl
  have m9 : (csT tab (n + 2)).M 9 = [true, false] := cs_M (T := tab) (f := 9) rfl
  have hsz := size_eq
  obtain ⟨g, hg, d8⟩ := draw_nat (n := n + 1) hB (t := ys.length + 1) (by omega) (by omega) (k := true)
  rw [show (((ys.length + 1 : Nat)) : Int) = (ys.length : Int) + 1 by omega] at d8
  have hN := next_ok hB (t := (ys.length : Int) + 1) (by omega)
  have hp : 0 < ys.length := List.length_pos_iff.mpr hne
  obtain ⟨y, hym, o9⟩ := of_any (n := n) hN (ds := ys) hp (by omega)
  have hN2 := next_ok hN (t := (ys.length : Int)) (by omega)
  have hl := h.len
  refine ⟨rows.take sp ++ [.lst (ys.take g ++ [y] ++ ys.drop g)] ++ rows.drop (sp + 1), (B.next ((ys.length : Int) + 1)).next ys.length, [some (.v true st), some (.v true (.int (sp : Nat))), some (.v true (.int 2)), some (.v true (.lst ys)), none, some (.v true (.int (g : Nat))), none], hN2, .inr ⟨false, _, rfl, ?_, row_take h.rowB _ _ (bit_row hy hyb g g (by omega) (hyb y hym))⟩, ?_⟩
  · have := take_len rows sp (sp + 1) (.lst (ys.take g ++ [y] ++ ys.drop g)) (by omega); omega
  have c1 := cut_take rows sp
  have c2 : DL.cutD rows (some ((sp : Int) + 1)) none = rows.drop (sp + 1) := cut_drop rows (sp + 1)
  have c3 := cut_take ys g
  have c4 := cut_drop ys g
  have s1 : 1 ≤ sizeLine := by omega
  have s2 : (rows.take sp).length + 1 ≤ sizeLine := by rw [List.length_take]; omega
  have s3 : (rows.take sp).length + 1 + (rows.drop (sp + 1)).length ≤ sizeLine := by rw [List.length_take, List.length_drop]; omega
  have s5 : (ys.take g).length + 1 ≤ sizeLine := by rw [List.length_take]; omega
  have s6 : (ys.take g).length + 1 + (ys.drop g).length ≤ sizeLine := by rw [List.length_take, List.length_drop]; omega
  have s4 : (rows.take sp ++ [D.lst (ys.take g ++ [y] ++ ys.drop g)]).length + (rows.drop (sp + 1)).length ≤ sizeLine := by rw [List.length_append]; exact s3
  have s7 : (ys.take g ++ [y]).length + (ys.drop g).length ≤ sizeLine := by rw [List.length_append]; exact s6
  have e1 := eq_nil ys
  rw [decide_eq_false hne] at e1
  have h0 : 0 ≤ sizeLine := Nat.zero_le _
  generalize B.next ((ys.length : Int) + 1) = B1 at *
  generalize B1.next (ys.length : Int) = B2 at *
  generalize rows.take sp = T at *
  generalize rows.drop (sp + 1) = R at *
  generalize ys.take g = T2 at *
  generalize ys.drop g = R2 at *
  clear hB h hl hsz hm hg hy hyb hne hN hN2 hp hym
  unfold bentF
  k_whileD _ _ _ "ev"
theorem bentE_yes {n : Nat} {a m : Nat} (ha : a ≤ 1000) (hm : m ≤ 1000) {B : Bag} (hB : B.Ok) {rows ys : List D} (h : BentIn a m rows) (hy : ys.length ≤ m) (hyb : ∀ y ∈ ys, Bit y) {st : D} (hs : Bit st) {sp : Nat} {pk : Int} :
    ∃ d, ∃ B' : Bag, ∃ ρ', B'.Ok ∧ BWish (a + 1) (m + 1) (.lst d) ∧ evB (csT tab (n + 2)) [true, false] bentE [some (.own B.ds), some (.v true (.lst rows)), some (.v true st), some (.v true (.int (sp : Nat))), some (.v true (.int pk)), some (.v true (.lst ys)), none, none, none] = some (.ret (.own d) (some (.own B'.ds) :: some (.v true (.lst rows)) :: ρ')) := by
  have m8 : (csT tab (n + 2)).M 8 = [true, false] := cs_M (T := tab) (f := 8) rfl
  have m9 : (csT tab (n + 2)).M 9 = [true, false] := cs_M (T := tab) (f := 9) rfl
  have hsz := size_eq
  obtain ⟨g, hg, d8⟩ := draw_nat (n := n + 1) hB (t := ys.length + 1) (by omega) (by omega) (k := true)
  rw [show (((ys.length + 1 : Nat)) : Int) = (ys.length : Int) + 1 by omega] at d8
  have hN := next_ok hB (t := (ys.length : Int) + 1) (by omega)
  obtain ⟨od, hod, o9⟩ := of_any (n := n) hN (ds := [st, .str "-", .str "a.1", .str "abcdefghijklm", .lst [], .str "A", .str "z"]) (show 0 < 7 by decide) (show 7 < 1073741824 by decide)
  replace o9 : (csT tab (n + 2)).C 9 [.own (B.next ((ys.length : Int) + 1)).ds, .v true (.lst [st, .str "-", .str "a.1", .str "abcdefghijklm", .lst [], .str "A", .str "z"])] = some (.val od, [.own ((B.next ((ys.length : Int) + 1)).next 7).ds, .v true (.lst [st, .str "-", .str "a.1", .str "abcdefghijklm", .lst [], .str "A", .str "z"])]) := o9
  have hob : Bit od := by
    simp only [List.mem_cons, List.not_mem_nil, or_false] at hod
    rcases hod with rfl | rfl | rfl | rfl | rfl | rfl | rfl
    · exact hs
    · show (Str.length "-") ≤ 100; decide
    · show (Str.length "a.1") ≤ 100; decide
    · show (Str.length "abcdefghijklm") ≤ 100; decide
    · trivial
    · show (Str.length "A") ≤ 100; decide
    · show (Str.length "z") ≤ 100; decide
  have hN2 := next_ok hN (t := 7) (by omega)
  obtain ⟨e, he, d2⟩ := draw_nat (n := n + 1) hN2 (t := 2) (by decide) (by decide) (k := true)
  replace d2 : (csT tab (n + 2)).C 8 [.own ((B.next ((ys.length : Int) + 1)).next 7).ds, .v true (.int 2)] = some (.val (.int (e : Nat)), [.own (((B.next ((ys.length : Int) + 1)).next 7).next 2).ds, .v true (.int 2)]) := d2
  have hN3 := next_ok hN2 (t := 2) (by omega)
  have hl := h.len
  refine ⟨rows.take sp ++ [.lst (ys.take g ++ [od] ++ ys.drop (g + e))] ++ rows.drop (sp + 1), ((B.next ((ys.length : Int) + 1)).next 7).next 2, [some (.v true st), some (.v true (.int (sp : Nat))), some (.v true (.int pk)), some (.v true (.lst ys)), none, some (.v true (.int (g : Nat))), some (.v true od)], hN3, .inr ⟨false, _, rfl, ?_, row_take h.rowB _ _ (bit_row hy hyb g (g + e) (by omega) hob)⟩, ?_⟩
  · have := take_len rows sp (sp + 1) (.lst (ys.take g ++ [od] ++ ys.drop (g + e))) (by omega); omega
  have c1 := cut_take rows sp
  have c2 : DL.cutD rows (some ((sp : Int) + 1)) none = rows.drop (sp + 1) := cut_drop rows (sp + 1)
  have c3 := cut_take ys g
  have c4 : DL.cutD ys (some ((g : Int) + (e : Int))) none = ys.drop (g + e) := by
    have := cut_drop ys (g + e)
    rw [Int.natCast_add] at this; exact this
  have s1 : 1 ≤ sizeLine := by omega
  have s0 : 7 ≤ sizeLine := by omega
  have sz : 0 ≤ sizeLine := by omega
  have s2 : (rows.take sp).length + 1 ≤ sizeLine := by rw [List.length_take]; omega
  have s3 : (rows.take sp).length + 1 + (rows.drop (sp + 1)).length ≤ sizeLine := by rw [List.length_take, List.length_drop]; omega
  have s5 : (ys.take g).length + 1 ≤ sizeLine := by rw [List.length_take]; omega
  have s6 : (ys.take g).length + 1 + (ys.drop (g + e)).length ≤ sizeLine := by rw [List.length_take, List.length_drop]; omega
  have s4 : (rows.take sp ++ [D.lst (ys.take g ++ [od] ++ ys.drop (g + e))]).length + (rows.drop (sp + 1)).length ≤ sizeLine := by rw [List.length_append]; exact s3
  have s7 : (ys.take g ++ [od]).length + (ys.drop (g + e)).length ≤ sizeLine := by rw [List.length_append]; exact s6
  generalize B.next ((ys.length : Int) + 1) = B1 at *
  generalize B1.next 7 = B2 at *
  generalize B2.next 2 = B3 at *
  generalize rows.take sp = T at *
  generalize rows.drop (sp + 1) = R at *
  generalize ys.take g = T2 at *
  generalize ys.drop (g + e) = R2 at *
  clear hB h hl hsz hm hg hy hyb hN hN2 hN3 hod hob hs he
  unfold bentE
  k_whileD _ _ _ "ev"
theorem bent_spec {n : Nat} {a m : Nat} (ha : a ≤ 1000) (hm : m ≤ 1000) {B : Bag} (hB : B.Ok) {rows : List D} (h : BentIn a m rows) :
    ∃ r d, ∃ B' : Bag, fixS r = .val d ∧ B'.Ok ∧ BWish (a + 1) (m + 1) d ∧ (csT tab (n + 3)).C 16 [.own B.ds, .v true (.lst rows)] = some (r, [.own B'.ds, .v true (.lst rows)]) := by
  have m8 : (csT tab (n + 2)).M 8 = [true, false] := cs_M (T := tab) (f := 8) rfl
  have m9 : (csT tab (n + 2)).M 9 = [true, false] := cs_M (T := tab) (f := 9) rfl
  have hsz := size_eq
  have hl := h.len
  obtain ⟨st, hst, o9⟩ := of_any (n := n) hB (ds := [.non, .bl true, .int 0, .str "", .str "ab", .tup [], .dk [] [], .str "-", .str "1a", .int 7]) (by decide) (by decide)
  replace o9 : (csT tab (n + 2)).C 9 [.own B.ds, .v true (.lst [.non, .bl true, .int 0, .str "", .str "ab", .tup [], .dk [] [], .str "-", .str "1a", .int 7])] = some (.val st, [.own (B.next 10).ds, .v true (.lst [.non, .bl true, .int 0, .str "", .str "ab", .tup [], .dk [] [], .str "-", .str "1a", .int 7])]) := o9
  have hsb : Bit st := by
    simp only [List.mem_cons, List.not_mem_nil, or_false] at hst
    rcases hst with rfl | rfl | rfl | rfl | rfl | rfl | rfl | rfl | rfl | rfl <;> first | trivial | (show Str.length _ ≤ 100; decide)
  have hN1 := next_ok hB (t := 10) (by omega)
  obtain ⟨sp, hsp, d1⟩ := draw_nat (n := n + 1) hN1 (t := rows.length) h.pos (by omega) (k := true)
  have hN2 := next_ok hN1 (t := (rows.length : Nat)) (by have := h.pos; omega)
  obtain ⟨pk, hpk, d2⟩ := draw_nat (n := n + 1) hN2 (t := 8) (by decide) (by decide) (k := true)
  replace d2 : (csT tab (n + 2)).C 8 [.own ((B.next 10).next (rows.length : Nat)).ds, .v true (.int 8)] = some (.val (.int (pk : Nat)), [.own (((B.next 10).next (rows.length : Nat)).next 8).ds, .v true (.int 8)]) := d2
  have hN3 := next_ok hN2 (t := 8) (by omega)
  have hx : rows[sp]? = some rows[sp] := List.getElem?_eq_getElem hsp
  obtain ⟨b, ys, hrow, hy, hyb⟩ := h.row _ (List.mem_of_getElem? hx)
  have hat : atI rows (sp : Int) = some (seqD b ys) := atI_nat (by rw [hx, hrow])
  have hit : itemsS (.v true (seqD b ys)) = some ys := by cases b <;> simp [seqD, itemsS, chk]
  have s0 : 10 ≤ sizeLine := by omega
  have s1 : 0 ≤ sizeLine := by omega
  generalize B.next 10 = B1 at *
  generalize B1.next (rows.length : Nat) = B2 at *
  generalize B2.next 8 = B3 at *
  rw [call_eq (T := tab) (f := 16) rfl rfl]
  show ∃ r d, ∃ B' : Bag, fixS r = .val d ∧ B'.Ok ∧ BWish (a + 1) (m + 1) d ∧ (evB (csT tab (n + 2)) [true, false] cs__law_bent_wants [some (.own B.ds), some (.v true _), none, none, none, none, none, none, none]).bind _ = _
  rw [bent_parts]
  by_cases p0 : pk = 0
  · subst p0
    obtain ⟨d, B', g1, g2, g3⟩ := bentH_yes (n := n) ha hm hN3 h (ys := ys) hsb (sp := sp)
    refine ⟨.val d, d, B', rfl, g1, g2, ?_⟩
    have z0 : ((0 : Nat) : Int) = 0 := rfl
    rw [z0] at d2
    clear hB h hsz hl hst hsb hN1 hN2 hN3 hsp hpk hx hrow hy hyb g1 g2 hm
    k_whileD _ _ _ "ev"
  · have q0 := bentH_no (c := csT tab (n + 2)) (Bs := B3.ds) (rows := rows) (ys := ys) (st := st) (sp := sp) (pk := pk) (by omega)
    by_cases p1 : pk = 1
    · subst p1
      obtain ⟨d, B', g1, g2, g3⟩ := bentG_yes (n := n) ha hm hN3 h (ys := ys) hsb (sp := sp)
      refine ⟨.own d, .lst d, B', rfl, g1, g2, ?_⟩
      have z0 : ((1 : Nat) : Int) = 1 := rfl
      rw [z0] at d2 q0
      clear hB h hsz hl hst hsb hN1 hN2 hN3 hsp hpk hx hrow hy hyb g1 g2 hm
      k_whileD _ _ _ "ev"
    · have q1 := bentG_no (c := csT tab (n + 2)) (Bs := B3.ds) (rows := rows) (ys := ys) (st := st) (sp := sp) (pk := pk) (by omega)
      by_cases p2 : pk = 2 ∧ ys ≠ []
      · obtain ⟨rfl, hne⟩ := p2
        obtain ⟨d, B', ρ', g1, g2, g3⟩ := bentF_yes (n := n) ha hm hN3 h hy hyb hne (st := st) (sp := sp)
        refine ⟨.own d, .lst d, B', rfl, g1, g2, ?_⟩
        have z0 : ((2 : Nat) : Int) = 2 := rfl
        rw [z0] at d2 q0 q1
        clear hB h hsz hl hst hsb hN1 hN2 hN3 hsp hpk hx hrow hy hyb g1 g2 hm
        k_whileD _ _ _ "ev"
      · have q2 := bentF_no (c := csT tab (n + 2)) (Bs := B3.ds) (rows := rows) (ys := ys) (st := st) (sp := sp) (pk := pk) (by
          by_cases e : ys = []
          · exact .inr e
          · exact .inl fun e2 => p2 ⟨by omega, e⟩)
        obtain ⟨d, B', ρ', g1, g2, g3⟩ := bentE_yes (n := n) ha hm hN3 h hy hyb hsb (sp := sp) (pk := pk)
        refine ⟨.own d, .lst d, B', rfl, g1, g2, ?_⟩
        clear hB h hsz hl hst hsb hN1 hN2 hN3 hsp hpk hx hrow hy hyb g1 g2 hm p2
        k_whileD _ _ _ "ev"
end K09
namespace K09
open PySem L2 DL RL PyProof.Rows
local macro_rules | `(tactic| k_whileD _ _ _ "ev") => `(tactic| simp only [*, is_non_list, is_non_tuple, is_non_bool, is_non_str, is_non_int, is_non_dict, pl_non, isn_non, is_bl_list, is_bl_tuple, is_bl_bool, is_bl_str, is_bl_int, is_bl_dict, pl_bl, isn_bl, is_int_list, is_int_tuple, is_int_bool, is_int_str, is_int_int, is_int_dict, pl_int, isn_int, is_str_list, is_str_tuple, is_str_bool, is_str_str, is_str_int, is_str_dict, pl_str, isn_str, is_lst_list, is_lst_tuple, is_lst_bool, is_lst_str, is_lst_int, is_lst_dict, pl_lst, isn_lst, is_tup_list, is_tup_tuple, is_tup_bool, is_tup_str, is_tup_int, is_tup_dict, pl_tup, isn_tup, is_dk_list, is_dk_tuple, is_dk_bool, is_dk_str, is_dk_int, is_dk_dict, pl_dk, isn_dk, qv_atN, qv_atL, qv_ixLit, qv_mulL, qv_fdivL, qv_modL, qv_powL, Nat.reduceLT, Nat.reduceLeDiff, Nat.reduceAdd, Nat.zero_add, Nat.add_zero, Int.reduceLT, Int.reduceLE, Int.reducePow, Int.reduceToNat, Int.reduceEq, Int.reduceNeg, Int.reduceAdd, Int.reduceSub, Int.reduceMul, and_self, and_true, true_and, eq_self, not_true_eq_false, not_false_eq_true,
  ob_o, ob_v, ob_n, ob_s, fr_nil, fr_0, fr_s, nt_t, nt_f, iv_cst, iv_bin, iv_neg, iv_no, iv_one, iv_conj, iv_disj, iv_cmp, iv_ite, iv_idx, iv_sl, iv_lst, iv_tup, iv_fn, iv_isi, iv_call, iv_app, iv_ext, iv_pop, iv_rev, iv_count, iv_join, iv_comp, iv_compI, iv_comp2, iv_dk0, bf_int, bf_str, bf_list, bf_tuple, bf_sum, bf_all, bf_any, bf_sorted, bf_lenSet, chk_true,
  b_nil, b_seq, b_set, b_setIx, b_set2, b_expr, b_ret, b_retN, b_ife, b_for, b_pass, b_brk, b_cont, qv_nx, qv_ct, qv_bk, qv_ret, m_own, m_var, m_any,
  e_cst, e_var, e_bin, e_neg, e_no, e_one, e_conj, e_disj, e_cmp, e_ite, e_idxO, e_idxV, e_idx, e_sl, e_lst, e_tup, e_lenO, e_fnV, e_fnL, e_fn, e_isi, e_call, e_app, e_ext, e_pop, e_rev, e_count, e_join, e_comp, e_compI, e_comp2, e_dk0, f_range,
  t_no, t_one, t_conj, t_disj, t_cmp, t_chain, t_varB, t_fn, t_isi, t_call, o_nil, o_one, a_nil, a_cons, a_star, s_nil, s_own, s_var, s_cons, w_range, w_zip, w_enum, w_one,
  Option.bind_some, Option.bind_none, Option.map_some, List.getElem?_cons_zero, List.getElem?_cons_succ, List.set_cons_zero, List.set_cons_succ, chk_pos, List.length_cons, List.length_nil, List.length_map, List.all_cons, List.all_nil, Bool.and_true, Bool.true_and, Bool.false_and, Bool.and_false, Bool.and_self, Bool.not_false, Bool.not_true,
  qv_int, qv_bl, qv_str, qv_toT, qv_toO, qv_toI, qv_toS, qv_toB, qv_toN, qv_fixV, qv_fixO, qv_datV, qv_datO, qv_add, qv_addI, qv_addS, qv_addL, qv_sub, qv_mulC, qv_fdivC, qv_modC, qv_powC, qv_in, qv_nin, qv_is, qv_isnt, qv_eq, qv_ne, qv_eqI, qv_eqS, qv_eqB, qv_lt, qv_le, qv_gt, qv_ge, qv_dle, qv_inS, qv_inL, qv_inT,
  qv_ixL, qv_ixT, qv_ixS, qv_lenL, qv_lenT, qv_lenO, qv_lenS, qv_itO, qv_itL, qv_itT, qv_itL', qv_itT', qv_sqO, qv_sqL, qv_sqT, qv_lsO, qv_lsV, qv_lkO, qv_lkT, qv_lkS, qv_len, qv_intf, qv_strf, qv_list, qv_tupleT, qv_tupleL, qv_tupleO, qv_sum, qv_all, qv_any, qv_sorted, qv_lenSet, qv_slS, qv_slL, qv_slO, qv_wkO, qv_wkL, qv_wkT, qv_wkS, qv_getO0, qv_getOS, qv_varV, qv_varO,
  qv_nvT, qv_nvI, qv_nvS, qv_nvB, qv_nvN, qv_nvO, qv_argV, qv_argO, qv_atp, qv_ixp, qv_isi1, qv_isi2, qv_call, qv_aNil, qv_aCons, qv_aEx, qv_aOwn, qv_aBor, qv_backV, qv_backO, qv_backB, qv_backN, if_true, if_false, Bool.false_eq_true, reduceIte, decide_true, decide_false, Bool.or_true, Bool.true_or, Bool.or_false, Bool.false_or, sc_non, sc_bl, sc_int, sc_str, sc_lst, sc_tup, sc_dk,
  mk_sv, kp_sv, bk_sv, no_sv, x_ext, wp_nil, wp_cons, mk_nil, mk_o, mk_v, mk_n, mg_nil, mg_cons, mg_t, mg_f, kp_v, kp_n, kp_o, bk_same, bk_o, bk_t, bk_f, bk_n, by_nm, by_two, no_nil, no_o, no_v, no_n, rb_v, rb_o, os_nil, os_o, os_v, fin_ret, fin_nx, List.contains_cons, List.contains_nil, Nat.reduceBEq, Nat.reduceEqDiff, List.nodup_cons, List.nodup_nil, varsOf, List.not_mem_nil, List.mem_cons, List.mem_singleton, or_false, false_or, or_true, true_or, decide_eq_true_eq, Tgt.ix, isOwn, List.map_cons, List.map_nil, List.cons_append, List.nil_append])
theorem isi_seq {x : D} (h : plainD x = true) : (isiD x "list" || isiD x "tuple") = (seqOf x).isSome := by
  cases x with
  | ty _ => cases h
  | ins _ _ _ => cases h
  | _ => simp only [is_non_list, is_non_tuple, is_bl_list, is_bl_tuple, is_int_list, is_int_tuple, is_str_list, is_str_tuple, is_lst_list, is_lst_tuple, is_tup_list, is_tup_tuple, is_dk_list, is_dk_tuple, seqOf]; rfl
theorem count_all (zs : List Str) : (zs.map fun z => decide (zs.count z = 1)).all id = decide zs.Nodup := by
  rw [List.all_map, Bool.eq_iff_iff, List.all_eq_true, decide_eq_true_eq]
  constructor
  · intro h
    rw [List.nodup_iff_count]
    intro z
    by_cases hz : z ∈ zs
    · have := of_decide_eq_true (h z hz); omega
    · rw [List.count_eq_zero.mpr hz]; omega
  · intro h z hz
    have h1 := List.nodup_iff_count.mp h z
    have h2 := List.count_pos_iff.mpr hz
    exact decide_eq_true (by omega)
theorem wrong_row {n : Nat} {k b : Bool} {ds : List D} {t : Nat} {x : D} {a3 : Option (Bool × D)} (hx : RowOk x) (ht : ds[t]? = some x) :
    ∃ ρr a, evB (csT tab (n + 1)) [false] cs__law_wants_wrong_f0 [some (.v k (seqD b ds)), some (.val (.int (t : Int))), none, sv a3] = some (if badRow x then .ret (.val (.int (t : Int))) (some (.v k (seqD b ds)) :: ρr) else .nx [some (.v k (seqD b ds)), some (.val (.int (t : Int))), none, sv a]) := by
  have m11 : (csT tab (n + 1)).M 11 = [false] := cs_M (T := tab) (f := 11) rfl
  have hat : idxS (.v k (seqD b ds)) (t : Int) = some (.v k x) := by
    have e : atI ds (t : Int) = some x := atI_nat ht
    cases b
    · show idxS (.v k (.lst ds)) _ = _
      rw [qv_ixL, e]; rfl
    · show idxS (.v k (.tup ds)) _ = _
      rw [qv_ixT, e]; rfl
  have hi := isi_seq hx.pl
  have hpl := hx.pl
  cases hq : seqOf x with
  | none =>
    have hb : badRow x = true := by unfold badRow; rw [hq]
    rw [hq] at hi
    replace hi : (isiD x "list" || isiD x "tuple") = false := hi
    refine ⟨[some (.val (.int (t : Int))), none, sv a3], none, ?_⟩
    rw [hb]
    generalize seqD b ds = DD at *
    clear hx hb hq ht
    unfold cs__law_wants_wrong_f0
    k_whileD _ _ _ "ev"
  | some ys =>
    rw [hq] at hi
    replace hi : (isiD x "list" || isiD x "tuple") = true := hi
    obtain ⟨hl, hy⟩ := hx.it ys hq
    have hsz : ys.length ≤ sizeLine := by
      have : scanBound ≤ sizeLine := by decide
      omega
    have w1 : wkS (.v k x) = some ⟨ys.length, fun t => .one (.v k (ys.getD t .non))⟩ := by
      cases x <;> first | (cases hq; done) | (injection hq with hq; subst hq; rfl)
    have hc : compL (compF (csT tab (n + 1)) cs__law_wants_wrong_e0 (.nm 2) [2] (fun t => .one (.v k (ys.getD t .non)))) 0 ys.length [some (.v k (seqD b ds)), some (.val (.int (t : Int))), none, sv a3] [] = some (ys.map (fun y => .bl (isNameD y)), [some (.v k (seqD b ds)), some (.val (.int (t : Int))), none, sv a3]) := by
      refine names_loop fun t' y h => ?_
      have n1 := form_specD (n := n) (k := k || isSc y) (hy y (List.mem_of_getElem? h))
      unfold compF cs__law_wants_wrong_e0
      dsimp only
      rw [getD_of h]
      generalize seqD b ds = DD at *
      clear h hy hl hsz hx hq w1 hi hpl ht hat
      k_whileD _ _ _ "ev"
    have b1 := bls_names ys
    have b2 := all_names ys
    have hbr : badRow x = (!(ys.all isNameD) || !decide ((strsOf ys).getD []).Nodup) := by unfold badRow; rw [hq]
    cases ha : ys.all isNameD with
    | false =>
      have hb : badRow x = true := by rw [hbr, ha]; rfl
      refine ⟨[some (.val (.int (t : Int))), none, sv a3], none, ?_⟩
      rw [hb]
      generalize seqD b ds = DD at *
      clear hx hb hq ht hbr hl hy
      unfold cs__law_wants_wrong_f0
      k_whileD _ _ _ "ev"
    | true =>
      obtain ⟨zs, hzs⟩ := names_strs ha
      have hsc : ys.all isSc = true := by rw [hzs, List.all_map]; exact List.all_eq_true.mpr fun _ _ => rfl
      have hit : itemsS (.v k x) = some ys := by
        cases x <;> first | (cases hq; done) | (injection hq with hq; subst hq; simp [itemsS, chk, hsc])
      have hb : badRow x = !decide zs.Nodup := by rw [hbr, ha, hzs, strsOf_map]; rfl
      have hzl : ys.length = zs.length := by rw [hzs, List.length_map]
      have hc2 : compL (compF (csT tab (n + 1)) cs__law_wants_wrong_e1 (.nm 2) [2] (fun t => .one (.v true (ys.getD t .non)))) 0 ys.length [some (.v k (seqD b ds)), some (.val (.int (t : Int))), none, some (.v true (.lst ys))] [] = some (zs.map (fun z => .bl (decide (zs.count z = 1))), [some (.v k (seqD b ds)), some (.val (.int (t : Int))), none, some (.v true (.lst ys))]) := by
        rw [hzl]
        rw [compL_map (fun t => .bl (decide (zs.count (zs.getD t "") = 1))) fun t ht => ?_]
        · rw [range_getD zs "" fun z => D.bl (decide (zs.count z = 1))]
        · have hg : ys.getD t .non = .str (zs.getD t "") := by rw [hzs]; exact getD_map D.str zs t "" .non ht
          have hct := count_str zs (zs.getD t "")
          rw [← hzs] at hct
          have hfl : ys.all flatD = true := by rw [hzs]; exact flat_strsD zs
          have hf : flatD (.str (zs.getD t "")) = true := rfl
          unfold compF cs__law_wants_wrong_e1
          dsimp only
          rw [hg]
          generalize zs.getD t "" = z at *
          generalize seqD b ds = DD at *
          by_cases hone : zs.count z = 1
          · rw [decide_eq_true hone]
            have hone' : ((zs.count z : Nat) : Int) = 1 := by omega
            clear hone hc hb hit hsc hbr b1 b2 hx hq hl hy w1 hi hpl ha hzs hzl ht hat hg
            k_whileD _ _ _ "ev"
          · rw [decide_eq_false hone]
            have hone' : ¬ ((zs.count z : Nat) : Int) = 1 := by omega
            clear hone hc hb hit hsc hbr b1 b2 hx hq hl hy w1 hi hpl ha hzs hzl ht hat hg
            k_whileD _ _ _ "ev"
      have b3 : blsOf (zs.map (fun z => D.bl (decide (zs.count z = 1)))) = some (zs.map fun z => decide (zs.count z = 1)) := by
        rw [← blsOf_map, List.map_map]; rfl
      have b4 := count_all zs
      refine ⟨[some (.val (.int (t : Int))), none, some (.v true (.lst ys))], some (true, .lst ys), ?_⟩
      rw [show sv (some (true, D.lst ys)) = some (.v true (.lst ys)) from rfl, hb]
      generalize seqD b ds = DD at *
      generalize zs.map (fun z => D.bl (decide (zs.count z = 1))) = Q at *
      generalize zs.map (fun z => decide (zs.count z = 1)) = Q2 at *
      clear hx hb hq ht hbr hl hy hzs hzl hsc
      unfold cs__law_wants_wrong_f0
      by_cases hn : zs.Nodup
      · rw [decide_eq_true hn] at b4 ⊢
        k_whileD _ _ _ "ev"
      · rw [decide_eq_false hn] at b4 ⊢
        k_whileD _ _ _ "ev"
theorem wrong_spec {n : Nat} {k : Bool} {d : D} (hd : WishOk d) : (csT tab (n + 2)).C 15 [.v k d] = some (.val (faultD d), [.v k d]) := by
  rw [call_eq (T := tab) (f := 15) rfl rfl]
  show (evB (csT tab (n + 1)) [false] cs__law_wants_wrong [some (.v k _), none, none, none]).bind _ = _
  have hi := isi_seq hd.pl
  have hpl := hd.pl
  cases hq : seqOf d with
  | none =>
    rw [hq] at hi
    replace hi : (isiD d "list" || isiD d "tuple") = false := hi
    have hf : faultD d = .int (-1) := by unfold faultD; rw [hq]
    rw [hf]
    clear hf hq hd
    unfold cs__law_wants_wrong
    k_whileD _ _ _ "ev"
  | some ds =>
    rw [hq] at hi
    replace hi : (isiD d "list" || isiD d "tuple") = true := hi
    obtain ⟨hl, hx⟩ := hd.it ds hq
    obtain ⟨b, rfl⟩ : ∃ b, d = seqD b ds := by
      cases d <;> first | (cases hq; done) | (injection hq with hq; subst hq; first | exact ⟨false, rfl⟩ | exact ⟨true, rfl⟩)
    have g1 : lenS (.v k (seqD b ds)) = some ds.length := by cases b <;> rfl
    have hf : faultD (seqD b ds) = if ds.length = 0 then .int (-1) else match ds.findIdx? badRow with
      | some t => .int (t : Nat)
      | none => .non := by unfold faultD; rw [hq]; first | done | rfl
    rw [hf]
    clear hf hq
    by_cases h0 : ds.length = 0
    · rw [if_pos h0]
      have h0' : ((ds.length : Nat) : Int) = 0 := by omega
      generalize seqD b ds = DD at *
      clear hx hd hl h0
      unfold cs__law_wants_wrong
      k_whileD _ _ _ "ev"
    · rw [if_neg h0]
      have h0' : ¬ ((ds.length : Nat) : Int) = 0 := by omega
      have hz := size_eq
      have r1 : (-4611686018427387904 : Int) ≤ ((ds.length : Nat) : Int) ∧ ((ds.length : Nat) : Int) < 4611686018427387904 := ⟨by omega, by omega⟩
      have r2 : (((ds.length : Nat) : Int)).toNat = ds.length := rfl
      rcases forL_ret (f := forF (csT tab (n + 1)) [false] (.nm 1) (fun t => .one (.val (.int (t : Int)))) cs__law_wants_wrong_f0)
        (fun t ρ => (∀ y ∈ ds.take t, badRow y = false) ∧ ∃ a b3, ρ = [some (.v k (seqD b ds)), a, none, sv b3]) (fun v ρ => ∃ t : Nat, ds.findIdx? badRow = some t ∧ v = .val (.int (t : Nat)) ∧ ∃ ρr, ρ = some (.v k (seqD b ds)) :: ρr) (m := ds.length) (s := 0) (ρ := [some (.v k (seqD b ds)), none, none, none]) ⟨by simp, none, none, rfl⟩ (fun t ρ _ ht hj => by
          obtain ⟨hg, a, b3, rfl⟩ := hj
          have hxt : ds[t]? = some ds[t] := List.getElem?_eq_getElem (by omega)
          obtain ⟨ρr, a3, hr⟩ := wrong_row (n := n) (k := k) (b := b) (a3 := b3) (hx _ (List.mem_of_getElem? hxt)) hxt
          have he : forF (csT tab (n + 1)) [false] (.nm 1) (fun t => .one (.val (.int (t : Int)))) cs__law_wants_wrong_f0 t [some (.v k (seqD b ds)), a, none, sv b3] = evB (csT tab (n + 1)) [false] cs__law_wants_wrong_f0 [some (.v k (seqD b ds)), some (.val (.int (t : Int))), none, sv b3] := rfl
          rw [he, hr]
          cases hb : badRow ds[t] with
          | true => exact .inr ⟨_, _, rfl, t, find_at hxt hb hg, rfl, ρr, rfl⟩
          | false => exact .inl ⟨_, rfl, take_snoc hxt hb hg, _, a3, rfl⟩) with ⟨ρ', h1, h2, a, b3, rfl⟩ | ⟨v, ρ', h1, t, h2, rfl, ρr, rfl⟩
      · rw [find_none (by rw [Nat.zero_add] at h2; exact h2)]
        generalize seqD b ds = DD at *
        clear h2 hx hd hz
        unfold cs__law_wants_wrong
        k_whileD _ _ _ "ev"
      · rw [h2]
        generalize seqD b ds = DD at *
        clear h2 hx hd hz
        unfold cs__law_wants_wrong
        k_whileD _ _ _ "ev"
theorem Bit.pl {d : D} (h : Bit d) : plainD d = true := by
  cases d <;> first | rfl | exact h.elim | skip
  all_goals rename_i a b; cases a <;> cases b <;> first | rfl | exact h.elim
theorem Bit.seq {d : D} (h : Bit d) {ds : List D} (hq : seqOf d = some ds) : ds = [] := by
  cases d <;> first | (cases hq; done) | skip
  all_goals (injection hq with hq; subst hq; rename_i a; cases a <;> first | rfl | exact h.elim)
theorem Bit.it {d : D} (h : Bit d) : ItOk d := ⟨h.pl, fun z hz => by
  subst hz
  have h : z.length ≤ 100 := h
  have := size_eq
  omega⟩
theorem BRow.ok {m : Nat} (hm : m ≤ 50) {d : D} (h : BRow m d) : RowOk d := by
  have hb : 100 < scanBound := by decide
  rcases h with h | ⟨b, ys, rfl, h1, h2⟩
  · refine ⟨h.pl, fun ys hq => ?_⟩
    rw [h.seq hq]
    exact ⟨by show 0 + 1 < _; omega, fun y hy => by cases hy⟩
  · refine ⟨plain_seq _ _, fun zs hq => ?_⟩
    rw [seqOf_seq] at hq
    injection hq with hq
    subst hq
    exact ⟨by omega, fun y hy => (h2 y hy).it⟩
theorem BWish.ok {a m : Nat} (ha : a ≤ 50) (hm : m ≤ 50) {d : D} (h : BWish a m d) : WishOk d := by
  have hz := size_eq
  rcases h with h | ⟨b, rows, rfl, h1, h2⟩
  · refine ⟨h.pl, fun ys hq => ?_⟩
    rw [h.seq hq]
    exact ⟨Nat.zero_le _, fun y hy => by cases hy⟩
  · refine ⟨plain_seq _ _, fun zs hq => ?_⟩
    rw [seqOf_seq] at hq
    injection hq with hq
    subst hq
    exact ⟨by omega, fun y hy => (h2 y hy).ok hm⟩
theorem FineW.bent {W : List Wish} (h : FineW W) {a m : Nat} (h3 : W.length ≤ a) (hm : ∀ r ∈ W, r.2.length ≤ m) : BentIn a m (W.map rowD) := by
  refine ⟨by rw [List.length_map]; have := h.len; omega, by rw [List.length_map]; exact h3, fun r hr => ?_⟩
  obtain ⟨w, hw, rfl⟩ := List.mem_map.mp hr
  refine ⟨w.1, w.2.map .str, rfl, by rw [List.length_map]; exact hm w hw, fun y hy => ?_⟩
  obtain ⟨z, hz, rfl⟩ := List.mem_map.mp hy
  have := name_len (h.nm w hw z hz)
  show z.length ≤ 100
  omega
end K09
namespace K09
open PySem L2 DL RL PyProof.Rows
local macro_rules | `(tactic| k_whileD _ _ _ "ev") => `(tactic| simp only [*, is_non_list, is_non_tuple, is_non_bool, is_non_str, is_non_int, is_non_dict, pl_non, isn_non, is_bl_list, is_bl_tuple, is_bl_bool, is_bl_str, is_bl_int, is_bl_dict, pl_bl, isn_bl, is_int_list, is_int_tuple, is_int_bool, is_int_str, is_int_int, is_int_dict, pl_int, isn_int, is_str_list, is_str_tuple, is_str_bool, is_str_str, is_str_int, is_str_dict, pl_str, isn_str, is_lst_list, is_lst_tuple, is_lst_bool, is_lst_str, is_lst_int, is_lst_dict, pl_lst, isn_lst, is_tup_list, is_tup_tuple, is_tup_bool, is_tup_str, is_tup_int, is_tup_dict, pl_tup, isn_tup, is_dk_list, is_dk_tuple, is_dk_bool, is_dk_str, is_dk_int, is_dk_dict, pl_dk, isn_dk, qv_atN, qv_atL, qv_ixLit, qv_mulL, qv_fdivL, qv_modL, qv_powL, Nat.reduceLT, Nat.reduceLeDiff, Nat.reduceAdd, Nat.zero_add, Nat.add_zero, Int.reduceLT, Int.reduceLE, Int.reducePow, Int.reduceToNat, Int.reduceEq, Int.reduceNeg, Int.reduceAdd, Int.reduceSub, Int.reduceMul, and_self, and_true, true_and, eq_self, not_true_eq_false, not_false_eq_true,
  ob_o, ob_v, ob_n, ob_s, fr_nil, fr_0, fr_s, nt_t, nt_f, iv_cst, iv_bin, iv_neg, iv_no, iv_one, iv_conj, iv_disj, iv_cmp, iv_ite, iv_idx, iv_sl, iv_lst, iv_tup, iv_fn, iv_isi, iv_call, iv_app, iv_ext, iv_pop, iv_rev, iv_count, iv_join, iv_comp, iv_compI, iv_comp2, iv_dk0, bf_int, bf_str, bf_list, bf_tuple, bf_sum, bf_all, bf_any, bf_sorted, bf_lenSet, chk_true,
  b_nil, b_seq, b_set, b_setIx, b_set2, b_expr, b_ret, b_retN, b_ife, b_for, b_pass, b_brk, b_cont, qv_nx, qv_ct, qv_bk, qv_ret, m_own, m_var, m_any,
  e_cst, e_var, e_bin, e_neg, e_no, e_one, e_conj, e_disj, e_cmp, e_ite, e_idxO, e_idxV, e_idx, e_sl, e_lst, e_tup, e_lenO, e_fnV, e_fnL, e_fn, e_isi, e_call, e_app, e_ext, e_pop, e_rev, e_count, e_join, e_comp, e_compI, e_comp2, e_dk0, f_range,
  t_no, t_one, t_conj, t_disj, t_cmp, t_chain, t_varB, t_fn, t_isi, t_call, o_nil, o_one, a_nil, a_cons, a_star, s_nil, s_own, s_var, s_cons, w_range, w_zip, w_enum, w_one,
  Option.bind_some, Option.bind_none, Option.map_some, List.getElem?_cons_zero, List.getElem?_cons_succ, List.set_cons_zero, List.set_cons_succ, chk_pos, List.length_cons, List.length_nil, List.length_map, List.all_cons, List.all_nil, Bool.and_true, Bool.true_and, Bool.false_and, Bool.and_false, Bool.and_self, Bool.not_false, Bool.not_true,
  qv_int, qv_bl, qv_str, qv_toT, qv_toO, qv_toI, qv_toS, qv_toB, qv_toN, qv_fixV, qv_fixO, qv_datV, qv_datO, qv_add, qv_addI, qv_addS, qv_addL, qv_sub, qv_mulC, qv_fdivC, qv_modC, qv_powC, qv_in, qv_nin, qv_is, qv_isnt, qv_eq, qv_ne, qv_eqI, qv_eqS, qv_eqB, qv_lt, qv_le, qv_gt, qv_ge, qv_dle, qv_inS, qv_inL, qv_inT,
  qv_ixL, qv_ixT, qv_ixS, qv_lenL, qv_lenT, qv_lenO, qv_lenS, qv_itO, qv_itL, qv_itT, qv_itL', qv_itT', qv_sqO, qv_sqL, qv_sqT, qv_lsO, qv_lsV, qv_lkO, qv_lkT, qv_lkS, qv_len, qv_intf, qv_strf, qv_list, qv_tupleT, qv_tupleL, qv_tupleO, qv_sum, qv_all, qv_any, qv_sorted, qv_lenSet, qv_slS, qv_slL, qv_slO, qv_wkO, qv_wkL, qv_wkT, qv_wkS, qv_getO0, qv_getOS, qv_varV, qv_varO,
  qv_nvT, qv_nvI, qv_nvS, qv_nvB, qv_nvN, qv_nvO, qv_argV, qv_argO, qv_atp, qv_ixp, qv_isi1, qv_isi2, qv_call, qv_aNil, qv_aCons, qv_aEx, qv_aOwn, qv_aBor, qv_backV, qv_backO, qv_backB, qv_backN, if_true, if_false, Bool.false_eq_true, reduceIte, decide_true, decide_false, Bool.or_true, Bool.true_or, Bool.or_false, Bool.false_or, sc_non, sc_bl, sc_int, sc_str, sc_lst, sc_tup, sc_dk,
  mk_sv, kp_sv, bk_sv, no_sv, x_ext, wp_nil, wp_cons, mk_nil, mk_o, mk_v, mk_n, mg_nil, mg_cons, mg_t, mg_f, kp_v, kp_n, kp_o, bk_same, bk_o, bk_t, bk_f, bk_n, by_nm, by_two, no_nil, no_o, no_v, no_n, rb_v, rb_o, os_nil, os_o, os_v, fin_ret, fin_nx, List.contains_cons, List.contains_nil, Nat.reduceBEq, Nat.reduceEqDiff, List.nodup_cons, List.nodup_nil, varsOf, List.not_mem_nil, List.mem_cons, List.mem_singleton, or_false, false_or, or_true, true_or, decide_eq_true_eq, Tgt.ix, isOwn, List.map_cons, List.map_nil, List.cons_append, List.nil_append])
theorem row_fine {m : Nat} {r : D} (h : BRow m r) (hb : badRow r = false) : ∃ w : Wish, r = rowD w ∧ w.2.length ≤ m ∧ (∀ z ∈ w.2, nameOk z = true) ∧ w.2.Nodup := by
  have key : ∀ (b : Bool) (ys : List D), r = seqD b ys → ys.length ≤ m → ∃ w : Wish, r = rowD w ∧ w.2.length ≤ m ∧ (∀ z ∈ w.2, nameOk z = true) ∧ w.2.Nodup := by
    rintro b ys rfl hl
    unfold badRow at hb
    rw [seqOf_seq] at hb
    replace hb : (!(ys.all isNameD) || !decide ((strsOf ys).getD []).Nodup) = false := hb
    rw [Bool.or_eq_false_iff, Bool.not_eq_false', Bool.not_eq_false'] at hb
    obtain ⟨zs, rfl⟩ := names_strs hb.1
    rw [strsOf_map] at hb
    refine ⟨(b, zs), rfl, by rw [List.length_map] at hl; exact hl, fun z hz => ?_, of_decide_eq_true hb.2⟩
    exact List.all_eq_true.mp hb.1 (.str z) (List.mem_map.mpr ⟨z, hz, rfl⟩)
  rcases h with h | ⟨b, ys, rfl, h1, h2⟩
  · cases hq : seqOf r with
    | none => unfold badRow at hb; rw [hq] at hb; cases hb
    | some ds =>
      have he := h.seq hq
      subst he
      cases r <;> first | (cases hq; done) | (injection hq with hq; subst hq; first | exact key false [] rfl (Nat.zero_le _) | exact key true [] rfl (Nat.zero_le _))
  · exact key b ys rfl h1
theorem rows_fine {m : Nat} : ∀ {rows : List D}, (∀ r ∈ rows, BRow m r) → (∀ r ∈ rows, badRow r = false) → ∃ W : List Wish, rows = W.map rowD ∧ ∀ r ∈ W, r.2.length ≤ m ∧ (∀ z ∈ r.2, nameOk z = true) ∧ r.2.Nodup
  | [], _, _ => ⟨[], rfl, fun _ h => by cases h⟩
  | r :: rows, h, hb => by
    obtain ⟨W, rfl, hW⟩ := rows_fine (fun x hx => h x (List.mem_cons_of_mem _ hx)) (fun x hx => hb x (List.mem_cons_of_mem _ hx))
    obtain ⟨w, rfl, hw⟩ := row_fine (h r List.mem_cons_self) (hb r List.mem_cons_self)
    exact ⟨w :: W, rfl, fun x hx => by
      rcases List.mem_cons.mp hx with rfl | hx
      · exact hw
      · exact hW x hx⟩
theorem BWish.fine {a m : Nat} (ha : a ≤ 5) (hm : m ≤ 7) {d : D} (h : BWish a m d) (hf : faultD d = .non) : ∃ b, ∃ W : List Wish, d = wishD b W ∧ FineW W := by
  have key : ∀ (b : Bool) (rows : List D), d = seqD b rows → rows.length ≤ a → (∀ r ∈ rows, BRow m r) → ∃ b, ∃ W : List Wish, d = wishD b W ∧ FineW W := by
    rintro b rows rfl h1 h2
    unfold faultD at hf
    rw [seqOf_seq] at hf
    replace hf : (if rows.length = 0 then D.int (-1) else match rows.findIdx? badRow with
      | some t => .int (t : Nat)
      | none => .non) = .non := hf
    by_cases h0 : rows.length = 0
    · rw [if_pos h0] at hf; cases hf
    · rw [if_neg h0] at hf
      have hn : rows.findIdx? badRow = none := by
        cases hq : rows.findIdx? badRow with
        | none => rfl
        | some t => rw [hq] at hf; cases hf
      obtain ⟨W, rfl, hW⟩ := rows_fine h2 (List.findIdx?_eq_none_iff.mp hn)
      rw [List.length_map] at h0 h1
      exact ⟨b, W, rfl, ⟨by omega, by omega⟩, fun r hr => by have := (hW r hr).1; omega, fun r hr => (hW r hr).2.1, fun r hr => (hW r hr).2.2⟩
  rcases h with h | ⟨b, rows, rfl, h1, h2⟩
  · cases hq : seqOf d with
    | none => unfold faultD at hf; rw [hq] at hf; cases hf
    | some ds =>
      have he := h.seq hq
      subst he
      cases d <;> first | (cases hq; done) | (injection hq with hq; subst hq; first | exact key false [] rfl (Nat.zero_le _) (fun _ h => by cases h) | exact key true [] rfl (Nat.zero_le _) (fun _ h => by cases h))
  · exact key b rows rfl h1 h2
end K09
namespace K09
open PySem L2 DL RL PyProof.Rows
local macro_rules | `(tactic| k_whileD _ _ _ "ev") => `(tactic| simp only [*, is_non_list, is_non_tuple, is_non_bool, is_non_str, is_non_int, is_non_dict, pl_non, isn_non, is_bl_list, is_bl_tuple, is_bl_bool, is_bl_str, is_bl_int, is_bl_dict, pl_bl, isn_bl, is_int_list, is_int_tuple, is_int_bool, is_int_str, is_int_int, is_int_dict, pl_int, isn_int, is_str_list, is_str_tuple, is_str_bool, is_str_str, is_str_int, is_str_dict, pl_str, isn_str, is_lst_list, is_lst_tuple, is_lst_bool, is_lst_str, is_lst_int, is_lst_dict, pl_lst, isn_lst, is_tup_list, is_tup_tuple, is_tup_bool, is_tup_str, is_tup_int, is_tup_dict, pl_tup, isn_tup, is_dk_list, is_dk_tuple, is_dk_bool, is_dk_str, is_dk_int, is_dk_dict, pl_dk, isn_dk, qv_atN, qv_atL, qv_ixLit, qv_mulL, qv_fdivL, qv_modL, qv_powL, Nat.reduceLT, Nat.reduceLeDiff, Nat.reduceAdd, Nat.zero_add, Nat.add_zero, Int.reduceLT, Int.reduceLE, Int.reducePow, Int.reduceToNat, Int.reduceEq, Int.reduceNeg, Int.reduceAdd, Int.reduceSub, Int.reduceMul, and_self, and_true, true_and, eq_self, not_true_eq_false, not_false_eq_true,
  ob_o, ob_v, ob_n, ob_s, fr_nil, fr_0, fr_s, nt_t, nt_f, iv_cst, iv_bin, iv_neg, iv_no, iv_one, iv_conj, iv_disj, iv_cmp, iv_ite, iv_idx, iv_sl, iv_lst, iv_tup, iv_fn, iv_isi, iv_call, iv_app, iv_ext, iv_pop, iv_rev, iv_count, iv_join, iv_comp, iv_compI, iv_comp2, iv_dk0, bf_int, bf_str, bf_list, bf_tuple, bf_sum, bf_all, bf_any, bf_sorted, bf_lenSet, chk_true,
  b_nil, b_seq, b_set, b_setIx, b_set2, b_expr, b_ret, b_retN, b_ife, b_for, b_pass, b_brk, b_cont, qv_nx, qv_ct, qv_bk, qv_ret, m_own, m_var, m_any,
  e_cst, e_var, e_bin, e_neg, e_no, e_one, e_conj, e_disj, e_cmp, e_ite, e_idxO, e_idxV, e_idx, e_sl, e_lst, e_tup, e_lenO, e_fnV, e_fnL, e_fn, e_isi, e_call, e_app, e_ext, e_pop, e_rev, e_count, e_join, e_comp, e_compI, e_comp2, e_dk0, f_range,
  t_no, t_one, t_conj, t_disj, t_cmp, t_chain, t_varB, t_fn, t_isi, t_call, o_nil, o_one, a_nil, a_cons, a_star, s_nil, s_own, s_var, s_cons, w_range, w_zip, w_enum, w_one,
  Option.bind_some, Option.bind_none, Option.map_some, List.getElem?_cons_zero, List.getElem?_cons_succ, List.set_cons_zero, List.set_cons_succ, chk_pos, List.length_cons, List.length_nil, List.length_map, List.all_cons, List.all_nil, Bool.and_true, Bool.true_and, Bool.false_and, Bool.and_false, Bool.and_self, Bool.not_false, Bool.not_true,
  qv_int, qv_bl, qv_str, qv_toT, qv_toO, qv_toI, qv_toS, qv_toB, qv_toN, qv_fixV, qv_fixO, qv_datV, qv_datO, qv_add, qv_addI, qv_addS, qv_addL, qv_sub, qv_mulC, qv_fdivC, qv_modC, qv_powC, qv_in, qv_nin, qv_is, qv_isnt, qv_eq, qv_ne, qv_eqI, qv_eqS, qv_eqB, qv_lt, qv_le, qv_gt, qv_ge, qv_dle, qv_inS, qv_inL, qv_inT,
  qv_ixL, qv_ixT, qv_ixS, qv_lenL, qv_lenT, qv_lenO, qv_lenS, qv_itO, qv_itL, qv_itT, qv_itL', qv_itT', qv_sqO, qv_sqL, qv_sqT, qv_lsO, qv_lsV, qv_lkO, qv_lkT, qv_lkS, qv_len, qv_intf, qv_strf, qv_list, qv_tupleT, qv_tupleL, qv_tupleO, qv_sum, qv_all, qv_any, qv_sorted, qv_lenSet, qv_slS, qv_slL, qv_slO, qv_wkO, qv_wkL, qv_wkT, qv_wkS, qv_getO0, qv_getOS, qv_varV, qv_varO,
  qv_nvT, qv_nvI, qv_nvS, qv_nvB, qv_nvN, qv_nvO, qv_argV, qv_argO, qv_atp, qv_ixp, qv_isi1, qv_isi2, qv_call, qv_aNil, qv_aCons, qv_aEx, qv_aOwn, qv_aBor, qv_backV, qv_backO, qv_backB, qv_backN, if_true, if_false, Bool.false_eq_true, reduceIte, decide_true, decide_false, Bool.or_true, Bool.true_or, Bool.or_false, Bool.false_or, sc_non, sc_bl, sc_int, sc_str, sc_lst, sc_tup, sc_dk,
  mk_sv, kp_sv, bk_sv, no_sv, x_ext, wp_nil, wp_cons, mk_nil, mk_o, mk_v, mk_n, mg_nil, mg_cons, mg_t, mg_f, kp_v, kp_n, kp_o, bk_same, bk_o, bk_t, bk_f, bk_n, by_nm, by_two, no_nil, no_o, no_v, no_n, rb_v, rb_o, os_nil, os_o, os_v, fin_ret, fin_nx, List.contains_cons, List.contains_nil, Nat.reduceBEq, Nat.reduceEqDiff, List.nodup_cons, List.nodup_nil, varsOf, List.not_mem_nil, List.mem_cons, List.mem_singleton, or_false, false_or, or_true, true_or, decide_eq_true_eq, Tgt.ix, isOwn, List.map_cons, List.map_nil, List.cons_append, List.nil_append])
def isLst : D → Bool
  | .lst _ => true
  | _ => false
theorem isi_lst {x : D} (h : plainD x = true) : isiD x "list" = isLst x := by
  cases x with
  | ty _ => cases h
  | ins _ _ _ => cases h
  | _ => simp only [is_non_list, is_bl_list, is_int_list, is_str_list, is_lst_list, is_tup_list, is_dk_list, isLst]
theorem BWish.mono {a m a2 m2 : Nat} (ha : a ≤ a2) (hm : m ≤ m2) {d : D} (h : BWish a m d) : BWish a2 m2 d := by
  rcases h with h | ⟨b, rows, rfl, h1, h2⟩
  · exact .inl h
  · exact .inr ⟨b, rows, rfl, by omega, fun r hr => (h2 r hr).mono hm⟩
theorem row_in {m : Nat} {r : D} (h : BRow m r) (hs : (seqOf r).isSome = true) : ∃ b ys, r = seqD b ys ∧ ys.length ≤ m ∧ ∀ y ∈ ys, Bit y := by
  rcases h with h | h
  · cases hq : seqOf r with
    | none => rw [hq] at hs; cases hs
    | some ds =>
      have he := h.seq hq
      subst he
      cases r <;> first | (cases hq; done) | (injection hq with hq; subst hq; first | exact ⟨false, [], rfl, Nat.zero_le _, fun _ h => by cases h⟩ | exact ⟨true, [], rfl, Nat.zero_le _, fun _ h => by cases h⟩)
  · exact h
theorem bend_step {n a m : Nat} (ha : a ≤ 40) (hm : m ≤ 40) {B : Bag} (hB : B.Ok) {Wd d : D} {t : Int} (h : BWish a m d) :
    ∃ d', ∃ B' : Bag, B'.Ok ∧ BWish (a + 1) (m + 1) d' ∧ evB (csT tab (n + 3)) [true, false] bendS [some (.own B.ds), some (.v true Wd), some (.v true d), some (.val (.int t)), none, none, none, none] = some (.nx [some (.own B'.ds), some (.v true Wd), some (.v true d'), some (.val (.int t)), none, none, none, none]) := by
  have hok := h.ok (by omega) (by omega)
  have hi := isi_lst hok.pl
  have hpl := hok.pl
  have m16 : (csT tab (n + 3)).M 16 = [true, false] := cs_M (T := tab) (f := 16) rfl
  have h0 : 0 ≤ sizeLine := Nat.zero_le _
  have hmono := h.mono (a2 := a + 1) (m2 := m + 1) (by omega) (by omega)
  cases hl : isLst d with
  | false =>
    refine ⟨d, B, hB, hmono, ?_⟩
    rw [hl] at hi
    clear h hok hB hmono hl ha hm
    unfold bendS
    k_whileD _ _ _ "ev"
  | true =>
    obtain ⟨rows, rfl⟩ : ∃ rows, d = .lst rows := by cases d <;> first | (cases hl; done) | exact ⟨_, rfl⟩
    obtain ⟨hz, hrow⟩ := hok.it rows rfl
    have e1 := eq_nil rows
    by_cases hr : rows = []
    · subst hr
      refine ⟨_, B, hB, hmono, ?_⟩
      rw [decide_eq_true rfl] at e1
      clear h hok hB hmono hl hi ha hm hrow
      unfold bendS
      k_whileD _ _ _ "ev"
    · rw [decide_eq_false hr] at e1
      have hc : compL (compF (csT tab (n + 3)) bendE (.nm 4) [4] (fun t => .one (.v true (rows.getD t .non)))) 0 rows.length [some (.own B.ds), some (.v true Wd), some (.v true (.lst rows)), some (.val (.int t)), none, none, none, none] [] = some (rows.map (fun r => .bl (seqOf r).isSome), [some (.own B.ds), some (.v true Wd), some (.v true (.lst rows)), some (.val (.int t)), none, none, none, none]) := by
        refine compL_list (fun r => .bl (seqOf r).isSome) fun t' r hx => ?_
        have hp := (hrow r (List.mem_of_getElem? hx)).pl
        have hs := isi_seq hp
        unfold compF bendE
        dsimp only
        rw [getD_of hx]
        generalize (seqOf r).isSome = q at *
        clear h hok hB hmono hl hi hx hrow ha hm e1 hr hpl hz
        k_whileD _ _ _ "ev"
      have hbl : blsOf (rows.map (fun r => D.bl (seqOf r).isSome)) = some (rows.map fun r => (seqOf r).isSome) := by rw [← blsOf_map, List.map_map]; rfl
      have hall : (rows.map fun r => (seqOf r).isSome).all id = rows.all fun r => (seqOf r).isSome := by rw [List.all_map]; rfl
      cases hq : rows.all fun r => (seqOf r).isSome with
      | false =>
        refine ⟨_, B, hB, hmono, ?_⟩
        rw [hq] at hall
        generalize (rows.map (fun r => D.bl (seqOf r).isSome)) = Q at *
        generalize (rows.map (fun r => (seqOf r).isSome)) = Q2 at *
        clear h hok hB hmono hl hi hrow ha hm hr hq
        unfold bendS
        k_whileD _ _ _ "ev"
      | true =>
        rw [hq] at hall
        have hin : BentIn a m rows := by
          rcases h with h | ⟨b, rs, he, h1, h2⟩
          · exfalso
            exact hr (h.seq rfl)
          · have hb : rs = rows := by cases b <;> first | (injection he with he; exact he.symm) | cases he
            subst hb
            exact ⟨List.length_pos_iff.mpr hr, h1, fun r hx => row_in (h2 r hx) (List.all_eq_true.mp hq r hx)⟩
        obtain ⟨r, d', B', f1, g1, g2, g3⟩ := bent_spec (n := n) (by omega) (by omega) hB hin
        refine ⟨d', B', g1, g2, ?_⟩
        generalize (rows.map (fun r => D.bl (seqOf r).isSome)) = Q at *
        generalize (rows.map (fun r => (seqOf r).isSome)) = Q2 at *
        clear h hok hB hmono hl hi hrow ha hm hr hq hin g1 g2
        unfold bendS
        k_whileD _ _ _ "ev"
theorem bends_loop {n : Nat} {B : Bag} (hB : B.Ok) {Wd d : D} (h : BWish 3 4 d) {m : Nat} (hm : m ≤ 2) :
    ∃ d', ∃ B' : Bag, ∃ a3, B'.Ok ∧ BWish 5 6 d' ∧ forL (forF (csT tab (n + 3)) [true, false] (.nm 3) (fun t => .one (.val (.int (t : Int)))) bendS) 0 m [some (.own B.ds), some (.v true Wd), some (.v true d), none, none, none, none, none] = some (.nx [some (.own B'.ds), some (.v true Wd), some (.v true d'), a3, none, none, none, none]) := by
  obtain ⟨ρ', h1, d', B', a3, g1, g2, rfl⟩ := forL_ind (f := forF (csT tab (n + 3)) [true, false] (.nm 3) (fun t => .one (.val (.int (t : Int)))) bendS)
    (fun t ρ => ∃ d', ∃ B' : Bag, ∃ a3, B'.Ok ∧ BWish (3 + t) (4 + t) d' ∧ ρ = [some (.own B'.ds), some (.v true Wd), some (.v true d'), a3, none, none, none, none]) (m := m) (s := 0) (ρ := [some (.own B.ds), some (.v true Wd), some (.v true d), none, none, none, none, none]) ⟨d, B, none, hB, h, rfl⟩ fun t ρ _ ht ⟨d1, B1, a3, g1, g2, hj⟩ => by
      subst hj
      obtain ⟨d2, B2, f1, f2, f3⟩ := bend_step (n := n) (by omega) (by omega) g1 (Wd := Wd) (t := (t : Int)) g2
      refine ⟨_, ?_, d2, B2, some (.val (.int (t : Int))), f1, f2, rfl⟩
      unfold forF
      dsimp only
      exact f3
  exact ⟨d', B', a3, g1, g2.mono (by omega) (by omega), h1⟩
end K09
/-! HE0: the ends of iterators where an exception is handled; all(xs) there; zip of lists there. -/
namespace HE
open PySem PySem.Spec PyProof.Rows HotX
section
variable {prog : Program} {w : World} {A : Around} {E : Value → Shared → Prop} {s : Shared}
/-- the handled exception is no iterator over a list -/
theorem hot_ne_listiter {x1 it l : Addr} {i : Nat} {h : Heap} (hot : HotAt A x1 h) (hit : h.IsListIter it l i) : x1 ≠ it := fun e => by
  obtain ⟨_, o1, vs1, h1, d1, c1⟩ := hot
  obtain ⟨o, ho, hc, hd⟩ := hit
  subst e
  rw [h1] at ho; cases ho
  rw [d1] at hd
  have e2 := Data.fields.inj hd
  subst e2
  simp at c1
theorem hot_ne_zip {x1 z TI TO : Addr} {f0 : Value} {h : Heap} (hot : HotAt A x1 h) (hz : IsZip h z TI TO f0) : x1 ≠ z := fun e => by
  obtain ⟨_, o1, vs1, h1, d1, c1⟩ := hot
  subst e
  have hz : h.get? x1 = _ := hz
  rw [h1] at hz; cases hz
  have e2 := Data.fields.inj d1
  rw [← e2] at c1
  simp at c1
theorem hot_ne_pair {x1 T : Addr} {a b : Value} {h : Heap} (hot : HotAt A x1 h) (hz : IsPair h T a b) : x1 ≠ T := fun e => by
  obtain ⟨_, o1, vs1, h1, d1, c1⟩ := hot
  subst e
  have hz : h.get? x1 = _ := hz
  rw [h1] at hz; cases hz
  cases d1
theorem _root_.HotX.HotAt.mov {x1 : Addr} {h h' : Heap} (hot : HotAt A x1 h) (k : ∀ o, h.get? x1 = some o → h'.get? x1 = some o) : HotAt A x1 h' := by
  obtain ⟨hh, o1, vs1, h1, d1, c1⟩ := hot
  exact ⟨hh, o1, vs1, k _ h1, d1, c1⟩
theorem nextOf_list_end_hot {it l x1 : Addr} {i : Nat} {items} {Q : Value → Shared → Prop} (hot : HotAt A x1 s.heap)
    (hit : s.heap.IsListIter it l i) (hl : s.heap.IsList l items) (hx : items[i]? = none)
    (hE : ∀ h' e, Heap.ExtBut it s.heap h' → (∃ o, h'.get? e = some o ∧ o.cls = .type "StopIteration") → E (.ref e) { s with heap := h' }) :
    wpAny (model prog w) A (Builtin.SmallTypes.nextOf (.ref it)) Q E s := by
  have hne := hot_ne_listiter hot hit
  obtain ⟨hh, o1, vs1, h1, d1, c1⟩ := hot
  obtain ⟨o, ho, hc, hd⟩ := id hit
  obtain ⟨ol, hol, _, nl, hdl⟩ := hl
  unfold Builtin.SmallTypes.nextOf
  refine wpAny_bind (wpAny_callSpecial?_slot (name := Str.ofString "__next__") hit.typeIs slot_listiter_next
    (wpAny_call_entry slot_listiter_next hit.typeIs entry_listiter_next ?_ (args_listiter_next _)))
  show wpAny _ _ (field (.ref it) 0 >>= _) _ _ s
  refine wpAny_bind (wpAny_field ho hd (x := .ref l) rfl ?_)
  show wpAny _ _ (if (Value.ref l == Value.none) = true then _ else _) _ _ s
  rw [if_neg (show ¬ ((Value.ref l == Value.none) = true) from Bool.false_ne_true)]
  show wpAny _ _ (field (.ref it) 1 >>= _) _ _ s
  refine wpAny_bind (wpAny_field ho hd (x := .int i 0) rfl ?_)
  show wpAny _ _ (seqItems? (.ref l) >>= _) _ _ s
  refine wpAny_bind (wpAny_seqItems hol hdl ?_)
  simp only [Int.toNat_natCast, hx]
  refine wpAny_bind (wpAny_rule (wpAny_bind (wpAny_setField ho hd (by simp) ?_)))
  show wpAny _ _ (newExc (.type "StopIteration") [] >>= _) _ _ _
  refine wpAny_bind ?_
  simp only [newExc, newTuple]
  refine wpAny_bind (wpAny_newObj_type ?_ (by size_fits))
  refine wpAny_bind (m := firstArgMember _ _) (wpAny_of_eq (a := Value.none) (by first | rfl | (simp only [firstArgMember]; rfl)) ?_)
  refine wpAny_newObj_type ?_ (by size_fits)
  have g1 : ∀ b u, b ≠ it → s.heap.get? b = some u → (s.heap.update it (Obj.mapFields (·.setIfInBounds 0 Value.none))).get? b = some u := fun b u hb e => (Heap.get?_update_other s.heap _ (Ne.symm hb)).trans e
  refine raiseNew_hot ⟨hh, o1, vs1, Heap.get?_push_of_some _ (Heap.get?_push_of_some _ (g1 _ _ hne h1)), d1, c1⟩ (Nat.ne_of_lt (Heap.lt_size (Heap.get?_push_of_some _ (g1 _ _ hne h1)))) (Heap.get?_push_size _ rfl) rfl (by first | (simp; done) | (simp; omega) | (simp only [Array.size_append]; simp; omega)) ?_
  refine hE _ _ (fun b o hb e => ?_) ⟨_, Heap.get?_update_self _ (Heap.get?_push_size _ rfl) rfl, rfl⟩
  rw [Heap.get?_update_other _ _ (Nat.ne_of_gt (Heap.lt_size (Heap.get?_push_of_some _ (g1 b o hb e))))]
  exact Heap.get?_push_of_some _ (Heap.get?_push_of_some _ (g1 b o hb e))
theorem pyNext_list_end_hot {it l x1 : Addr} {i : Nat} {items} {Q : Option Value → Shared → Prop} (hot : HotAt A x1 s.heap)
    (hit : s.heap.IsListIter it l i) (hl : s.heap.IsList l items) (hx : items[i]? = none)
    (hQ : ∀ h', Heap.ExtBut it s.heap h' → Q none { s with heap := h' }) : wpAny (model prog w) A (pyNext (.ref it)) Q E s := by
  have hne := hot_ne_listiter hot hit
  obtain ⟨hh, o1, vs1, h1, d1, c1⟩ := hot
  obtain ⟨o, ho, hc, hd⟩ := id hit
  obtain ⟨ol, hol, _, nl, hdl⟩ := hl
  unfold pyNext
  refine wpAny_bind (wpAny_attempt (wpAny_callSpecial?_slot (name := Str.ofString "__next__") hit.typeIs slot_listiter_next
    (wpAny_call_entry slot_listiter_next hit.typeIs entry_listiter_next ?_ (args_listiter_next _))))
  show wpAny _ _ (field (.ref it) 0 >>= _) _ _ s
  refine wpAny_bind (wpAny_field ho hd (x := .ref l) rfl ?_)
  show wpAny _ _ (if (Value.ref l == Value.none) = true then _ else _) _ _ s
  rw [if_neg (show ¬ ((Value.ref l == Value.none) = true) from Bool.false_ne_true)]
  show wpAny _ _ (field (.ref it) 1 >>= _) _ _ s
  refine wpAny_bind (wpAny_field ho hd (x := .int i 0) rfl ?_)
  show wpAny _ _ (seqItems? (.ref l) >>= _) _ _ s
  refine wpAny_bind (wpAny_seqItems hol hdl ?_)
  simp only [Int.toNat_natCast, hx]
  refine wpAny_bind (wpAny_rule (wpAny_bind (wpAny_setField ho hd (by simp) ?_)))
  show wpAny _ _ (newExc (.type "StopIteration") [] >>= _) _ _ _
  refine wpAny_bind ?_
  simp only [newExc, newTuple]
  refine wpAny_bind (wpAny_newObj_type ?_ (by size_fits))
  refine wpAny_bind (m := firstArgMember _ _) (wpAny_of_eq (a := Value.none) (by first | rfl | (simp only [firstArgMember]; rfl)) ?_)
  refine wpAny_newObj_type ?_ (by size_fits)
  have g1 : ∀ b u, b ≠ it → s.heap.get? b = some u → (s.heap.update it (Obj.mapFields (·.setIfInBounds 0 Value.none))).get? b = some u := fun b u hb e => (Heap.get?_update_other s.heap _ (Ne.symm hb)).trans e
  refine raiseNew_hot ⟨hh, o1, vs1, Heap.get?_push_of_some _ (Heap.get?_push_of_some _ (g1 _ _ hne h1)), d1, c1⟩ (Nat.ne_of_lt (Heap.lt_size (Heap.get?_push_of_some _ (g1 _ _ hne h1)))) (Heap.get?_push_size _ rfl) rfl (by first | (simp; done) | (simp; omega) | (simp only [Array.size_append]; simp; omega)) ?_
  refine wpAny_bind (wpAny_isInstance (T := "StopIteration") (b := true) ⟨_, Heap.get?_update_self _ (Heap.get?_push_size _ rfl) rfl, rfl⟩ isSubtype_stop ?_)
  refine wpAny_pure (hQ _ fun b o hb e => ?_)
  rw [Heap.get?_update_other _ _ (Nat.ne_of_gt (Heap.lt_size (Heap.get?_push_of_some _ (g1 b o hb e))))]
  exact Heap.get?_push_of_some _ (Heap.get?_push_of_some _ (g1 b o hb e))
theorem zip_next_end_hot {z TI TO i1 i2 l1 l2 x1 : Addr} {k1 k2 : Nat} {xs ys : Array Value} {a b : Value} {Q : Fin → Shared → Prop} (hot : HotAt A x1 s.heap) (D : ZipApart z TI TO i1 i2 l1 l2)
    (hz : IsZip s.heap z TI TO .none) (hTI : IsPair s.heap TI (.ref i1) (.ref i2)) (hTO : IsPair s.heap TO a b)
    (h1 : s.heap.IsListIter i1 l1 k1) (h2 : s.heap.IsListIter i2 l2 k2) (hl1 : s.heap.IsList l1 xs) (hl2 : s.heap.IsList l2 ys) (hend : xs[k1]? = none ∨ ys[k2]? = none)
    (hE : ∀ h' e, (∀ c o, c ≠ z → c ≠ TO → c ≠ i1 → c ≠ i2 → s.heap.get? c = some o → h'.get? c = some o) → (∃ o, h'.get? e = some o ∧ o.cls = .type "StopIteration") → E (.ref e) { s with heap := h' }) :
    wpAny (model prog w) A (Builtin.«zip.__next__» ⟨[.ref z], []⟩) Q E s := by
  have nz := hot_ne_zip hot hz
  have nTO := hot_ne_pair hot hTO
  have n1 := hot_ne_listiter hot h1
  show wpAny _ _ (field (.ref z) 2 >>= _) _ _ _
  refine wpAny_bind (wpAny_field hz rfl (x := .bool false) rfl ?_)
  show wpAny _ _ (field (.ref z) 3 >>= _) _ _ _
  refine wpAny_bind (wpAny_field hz rfl (x := .ref TI) rfl ?_)
  refine wpAny_bind (wpAny_seqItems hTI rfl ?_)
  show wpAny _ _ (Builtin.SmallTypes.ownedTupleIsFree (.ref z) >>= _) _ _ _
  refine wpAny_bind ?_
  unfold Builtin.SmallTypes.ownedTupleIsFree
  refine wpAny_bind (wpAny_field hz rfl (x := .none) rfl (wpAny_pure ?_))
  simp only [if_true]
  refine wpAny_bind (wpAny_rule ?_)
  refine wpAny_bind (wpAny_field hz rfl (x := .ref TO) rfl ?_)
  refine wpAny_bind (wpAny_setField_rec hz (by simp) fun h₁ hz₁ hs₁ => ?_)
  replace hz₁ : IsZip h₁ z TI TO .ellipsis := hz₁
  refine wpAny_bind ?_
  simp only [List.zipIdx_cons, List.zipIdx_nil, List.forIn_cons, List.forIn_nil]
  refine wpAny_bind (wpAny_bind (wpAny_onRaise ?_))
  show wpAny _ _ (Builtin.SmallTypes.nextOf (.ref i1) >>= _) _ _ _
  cases hx : xs[k1]? with
  | none =>
    refine wpAny_bind (nextOf_list_end_hot (x1 := x1) (hot.mov fun o e => hs₁.extBut _ _ nz e) (h1.extBut hs₁.extBut D.i1z) (hl1.extBut hs₁.extBut D.l1z) hx fun h₂ e hs₂ he => ?_)
    obtain ⟨oe, hoe, hce⟩ := he
    have hz₂ : IsZip h₂ z TI TO .ellipsis := hs₂ _ _ D.i1z.symm hz₁
    have hez : e ≠ z := fun x => by subst x; rw [hz₂] at hoe; cases hoe; simp at hce
    refine wpAny_setField_rec hz₂ (by simp) fun h₃ _ hs₃ => hE h₃ e (fun c o c1 _ c3 _ x => hs₃.extBut _ _ c1 (hs₂ _ _ c3 (hs₁.extBut _ _ c1 x))) ⟨oe, hs₃.extBut _ _ hez hoe, hce⟩
  | some x =>
    have hy : ys[k2]? = none := by rcases hend with h | h; rw [hx] at h; cases h; exact h
    refine wpAny_bind (wpAny_nextOf_list_item (h1.extBut hs₁.extBut D.i1z) (hl1.extBut hs₁.extBut D.l1z) hx fun h₂ h1₂ hs₂ => wpAny_pure ?_)
    have hTO₂ : IsPair h₂ TO a b := hs₂.extBut _ _ D.TOi1 (hs₁.extBut _ _ D.TOz hTO)
    refine wpAny_bind (wpAny_seqItems hTO₂ rfl ?_)
    refine wpAny_bind (wpAny_updateSeq_pair hTO₂ fun h₃ hTO₃ hs₃ => ?_)
    refine wpAny_bind (wpAny_letGo (wpAny_pure ?_))
    refine wpAny_bind (wpAny_bind (wpAny_onRaise ?_))
    show wpAny _ _ (Builtin.SmallTypes.nextOf (.ref i2) >>= _) _ _ _
    refine wpAny_bind (nextOf_list_end_hot (x1 := x1) (hot.mov fun o e => hs₃.extBut _ _ nTO (hs₂.extBut _ _ n1 (hs₁.extBut _ _ nz e))) (((h2.extBut hs₁.extBut D.i2z).extBut hs₂.extBut D.i12.symm).extBut hs₃.extBut D.TOi2.symm)
      (((hl2.extBut hs₁.extBut D.l2z).extBut hs₂.extBut D.l2i1).extBut hs₃.extBut D.l2TO) hy fun h₄ e hs₄ he => ?_)
    obtain ⟨oe, hoe, hce⟩ := he
    have hz₄ : IsZip h₄ z TI TO .ellipsis := hs₄ _ _ D.i2z.symm (hs₃.extBut _ _ D.TOz.symm (hs₂.extBut _ _ D.i1z.symm hz₁))
    have hez : e ≠ z := fun x => by subst x; rw [hz₄] at hoe; cases hoe; simp at hce
    refine wpAny_setField_rec hz₄ (by simp) fun h₅ _ hs₅ => hE h₅ e (fun c o c1 c2 c3 c4 x => hs₅.extBut _ _ c1 (hs₄ _ _ c4 (hs₃.extBut _ _ c2 (hs₂.extBut _ _ c3 (hs₁.extBut _ _ c1 x))))) ⟨oe, hs₅.extBut _ _ hez hoe, hce⟩
theorem pyNext_zip_end_hot {z TI TO i1 i2 l1 l2 x1 : Addr} {k1 k2 : Nat} {xs ys : Array Value} {a b : Value} {Q : Option Value → Shared → Prop} (hot : HotAt A x1 s.heap) (D : ZipApart z TI TO i1 i2 l1 l2)
    (hz : IsZip s.heap z TI TO .none) (hTI : IsPair s.heap TI (.ref i1) (.ref i2)) (hTO : IsPair s.heap TO a b)
    (h1 : s.heap.IsListIter i1 l1 k1) (h2 : s.heap.IsListIter i2 l2 k2) (hl1 : s.heap.IsList l1 xs) (hl2 : s.heap.IsList l2 ys) (hend : xs[k1]? = none ∨ ys[k2]? = none)
    (hQ : ∀ h', (∀ c o, c ≠ z → c ≠ TO → c ≠ i1 → c ≠ i2 → s.heap.get? c = some o → h'.get? c = some o) → Q none { s with heap := h' }) : wpAny (model prog w) A (pyNext (.ref z)) Q E s := by
  have hT : s.TypeIs (.ref z) "zip" := ⟨_, hz, rfl⟩
  unfold pyNext
  refine wpAny_bind (wpAny_attempt (wpAny_callSpecial?_slot (name := Str.ofString "__next__") hT F.slot_zip_next
    (wpAny_call_entry F.slot_zip_next hT F.entry_zip_next (zip_next_end_hot (x1 := x1) ?_ D hz hTI hTO h1 h2 hl1 hl2 hend fun h' e hk he => ?_) (F.args_zip_next_1 _))))
  · exact hot
  · obtain ⟨o, ho, hc⟩ := he
    refine wpAny_bind (wpAny_isInstance (T := "StopIteration") (b := true) ⟨o, ho, hc⟩ isSubtype_stop ?_)
    exact wpAny_pure (hQ _ hk)
/-- a list is walked where an exception is handled -/
theorem Walks.listH {x1 : Addr} (hh : A.handled = some (.ref x1)) (I ax : Addr) (hne : ax ≠ I) (items : Array Value) :
    Walks prog w A I [I, ax, x1] [I] items.size (fun i v => items[i]? = some v) (fun i h => h.IsListIter I ax i ∧ h.IsList ax items ∧ HotAt A x1 h) where
  sub := fun b hb => by simp at hb; simp [hb]
  frame := fun _ _ _ st hk => ⟨st.1.at fun o e => hk I (by simp) o e, st.2.1.at fun o e => hk ax (by simp) o e, HotAt.mov st.2.2 fun o e => hk x1 (by simp) o e⟩
  item := fun i s Q E hi st hQ => by
    have n1 := hot_ne_listiter st.2.2 st.1
    refine wpAny_pyNext_list_item st.1 st.2.1 (x := items[i]) (by simp [hi]) fun h' hit' hs' => ?_
    exact hQ _ h' s.toks (by simp [hi]) ⟨hit', st.2.1.extBut hs'.extBut hne, HotAt.mov st.2.2 fun o e => hs'.extBut _ _ n1 e⟩ fun b o hb e => hs'.extBut b o (fun h => hb (by simp [h])) e
  done := fun s Q E st hQ => pyNext_list_end_hot st.2.2 st.1 st.2.1 (by simp) fun h' he' => hQ h' s.toks fun b o hb e => he' b o (fun h => hb (by simp [h])) e
  self := fun _ _ _ _ st hQ => wpAny_pyIter_listiter st.1 hQ
end
end HE
/-! HE1: zip of lists, all(xs) where an exception is handled. -/
namespace HE
open PySem PySem.Spec PyProof.Rows HotX L2 L2H
theorem turn_zipH {P : Program} {w : World} {K : PySem.W.Frag} {elts : List Expr} {kk : Nat} {tpos : Pos} {a b z TI TO i1 i2 : Addr} (D : ZipApart z TI TO i1 i2 a b) :
    TurnH P w K (.Tuple elts kk tpos) (Itz K a b) [z, TI, TO, i1, i2] z (fun i h => IsZip h z TI TO .none ∧ IsPair h TI (.ref i1) (.ref i2) ∧ (∃ x y, IsPair h TO x y) ∧ h.IsListIter i1 a i ∧ h.IsListIter i2 b i) where
  mem := by simp
  obj := fun i h st c hc => by
    obtain ⟨hz, hTI, ⟨x, y, hTO⟩, ⟨o1, e1, _, d1⟩, ⟨o2, e2, _, d2⟩⟩ := st
    have e' : c = z ∨ c = TI ∨ c = TO ∨ c = i1 ∨ c = i2 := by simpa using hc
    rcases e' with q | q | q | q | q
    · rw [q]; exact ⟨_, hz, fun v q => nomatch q⟩
    · rw [q]; exact ⟨_, hTI, fun v q => nomatch q⟩
    · rw [q]; exact ⟨_, hTO, fun v q => nomatch q⟩
    · rw [q]; exact ⟨o1, e1, fun v q => by rw [d1] at q; cases q⟩
    · rw [q]; exact ⟨o2, e2, fun v q => by rw [d2] at q; cases q⟩
  keep := fun i h h' st k => by
    obtain ⟨hz, hTI, ⟨x, y, hTO⟩, h1, h2⟩ := st
    exact ⟨k z (by simp) _ hz, k TI (by simp) _ hTI, ⟨x, y, k TO (by simp) _ hTO⟩, h1.at fun o q => k i1 (by simp) o q, h2.at fun o q => k i2 (by simp) o q⟩
  item := by
    intro X hP hw hK hc i pins s σ H E I hf st hg
    subst hP hw hK
    obtain ⟨hz, hTI, ⟨x0, y0, hTO⟩, h1, h2⟩ := st
    obtain ⟨xs, ys, x, y, hqx, hqy, hx, hy⟩ := hg
    obtain ⟨its, rv, p, _⟩ := I.list hqx
    obtain ⟨its2, rv2, p2, _⟩ := I.list hqy
    obtain ⟨u, hu, ru⟩ := rv.get hx
    obtain ⟨u2, hu2, ru2⟩ := rv2.get hy
    have hzl : z < s.heap.objs.size := Heap.lt_size hz
    refine wpAny_pyNext_zip_item D hz hTI hTO h1 h2 p.isList p2.isList (x := u) (y := u2) (by simpa using hu) (by simpa using hu2) fun h' z' TO' h1' h2' hT hsz hk => ?_
    refine ⟨_, rfl, wpAny_letOwnedTupleGo_zip (s := { s with heap := h' }) z' fun h'' z'' sb => ?_⟩
    have hT2 : h''.get? s.heap.objs.size = some { cls := .type "tuple", data := .seq #[u, u2] } := (sb.2 _ (Nat.ne_of_gt hzl)).trans hT
    have new : ObjOk X.prog X.w (upd H s.heap.objs.size (.tup [x, y])) h'' s.heap.objs.size (.tup [x, y]) :=
      ⟨by show 2 ≤ sizeLine; decide, [u, u2], .cons ru (.cons ru2 .nil), ⟨_, hT2, rfl, _, rfl⟩⟩
    have I1 : Inv X pins σ (upd H s.heap.objs.size (.tup [x, y])) { s with heap := h'' } :=
      I.turnedNew (t' := s.toks) (ch := [z, TI, TO, i1, i2]) (fun c o hb q => (sb.2 c (fun q' => hb (by simp [q']))).trans (hk c o (fun q' => hb (by simp [q'])) (fun q' => hb (by simp [q'])) (fun q' => hb (by simp [q'])) (fun q' => hb (by simp [q'])) q)) hf (Nat.le_refl _) new
    refine ⟨.ref s.heap.objs.size, _, I1, rfl, ⟨_, x, y, rfl, I.hok.fresh (Nat.le_refl _), rfl, fun l hl => by rw [I.list_inj hl hqx]; exact hx, fun l hl => by rw [I.list_inj hl hqy]; exact hy⟩, ⟨z'', ?_, ⟨u, u2, ?_⟩, ?_, ?_⟩, fun c hcm => ?_⟩
    · exact (sb.2 _ D.TIz).trans (hk _ _ D.TIz D.TITO D.TIi1 D.TIi2 hTI)
    · exact (sb.2 _ D.TOz).trans TO'
    · exact h1'.at fun o q => (sb.2 _ D.i1z).trans q
    · exact h2'.at fun o q => (sb.2 _ D.i2z).trans q
    · have hlt : c < s.heap.objs.size := by
        have e' : c = z ∨ c = TI ∨ c = TO ∨ c = i1 ∨ c = i2 := by simpa using hcm
        rcases e' with q | q | q | q | q
        · rw [q]; exact hzl
        · rw [q]; exact Heap.lt_size hTI
        · rw [q]; exact Heap.lt_size hTO
        · rw [q]; obtain ⟨_, e1, _⟩ := h1; exact Heap.lt_size e1
        · rw [q]; obtain ⟨_, e2, _⟩ := h2; exact Heap.lt_size e2
      rw [upd_ne (Nat.ne_of_lt hlt)]
      exact (hf c hcm).1
  done := by
    intro X hP hw hK hc i pins s σ H E I hf st hg
    subst hP hw hK
    obtain ⟨hz, hTI, ⟨x0, y0, hTO⟩, h1, h2⟩ := st
    obtain ⟨xs, ys, hqx, hqy, hend⟩ := hg
    obtain ⟨its, rv, p, _⟩ := I.list hqx
    obtain ⟨its2, rv2, p2, _⟩ := I.list hqy
    have l1 := rv.length
    have l2 := rv2.length
    have he : its.toArray[i]? = none ∨ its2.toArray[i]? = none := by
      rcases hend with q | q
      · exact .inl (by simp; omega)
      · exact .inr (by simp; omega)
    obtain ⟨x1, hot⟩ := hc.at I
    exact pyNext_zip_end_hot hot D hz hTI hTO h1 h2 p.isList p2.isList he fun h' hk => ⟨rfl, I.turnedL (t' := s.toks) (ch := [z, TI, TO, i1, i2]) (fun c o hb q =>
      hk c o (fun q' => hb (by simp [q'])) (fun q' => hb (by simp [q'])) (fun q' => hb (by simp [q'])) (fun q' => hb (by simp [q'])) q) hf⟩
  self := fun A i s Q E st h => wpAny_pyIter_zip st.1 h
theorem pi_zipH {X : Cx} {e e2 : Expr} {ta : TA} {p pos tpos : Pos} {elts : List Expr} {kk : Nat} (hg : Gl X "zip") (hm : X.mg "zip" = none) (ha : PA X [e, e2] ta)
    (hs : starEach [e, e2] X.env = (false, eval e X.env) :: starEach [e2] X.env := by rfl) (hpl : (backTo pos (starEach [e2] X.env)).any (·.1) = false := by rfl) :
    PIH X (.Tuple elts kk tpos) (.Call (.Name "zip" p) [e, e2] [] pos) (iZip X.K ta) := by
  refine ⟨fun pins s σ H R I h => ?_⟩
  refine Call_ (ld_blt I hg hm PyProof.Rows.boot_zip (PyProof.Rows.callWith_type1 (thn (ha.run pos pins s σ H _ I h) fun us s1 ⟨vs, H1, I1, r1, q1⟩ => ?_) hs hpl))
  obtain ⟨a, b, xs, ys, ex, hqx, hqy, q⟩ := q1
  subst ex
  cases r1 with
  | cons r rr =>
    cases rr with
    | cons r' rr =>
      cases rr
      cases r
      cases r'
      obtain ⟨its, rv, p1, _⟩ := I1.list hqx
      obtain ⟨its2, rv2, p2, _⟩ := I1.list hqy
      have la : a < s1.heap.objs.size := p1.lt
      have lb : b < s1.heap.objs.size := p2.lt
      refine call_zip_2 p1.isList p2.isList fun h' hz hTI hTO h1 h2 hsz hk => wpAny_pyIter_zip hz ?_
      have I2 : Inv X pins σ H1 { s1 with heap := h' } := I1.kept (t' := s1.toks) hk
      refine ⟨s1.heap.objs.size + 4, [s1.heap.objs.size + 4, s1.heap.objs.size + 2, s1.heap.objs.size + 3, s1.heap.objs.size, s1.heap.objs.size + 1], _, _, H1, rfl, I2, turn_zipH (PySem.W.ktu_apart s1.heap.objs.size a b la lb), ⟨hz, hTI, ⟨_, _, hTO⟩, h1, h2⟩, fun c hcm => ?_, q⟩
      have e' : c = s1.heap.objs.size + 4 ∨ c = s1.heap.objs.size + 2 ∨ c = s1.heap.objs.size + 3 ∨ c = s1.heap.objs.size ∨ c = s1.heap.objs.size + 1 := by simpa using hcm
      have hle : s1.heap.objs.size ≤ c := by
        rcases e' with z | z | z | z | z
        · rw [z]; exact Nat.le_add_right _ _
        · rw [z]; exact Nat.le_add_right _ _
        · rw [z]; exact Nat.le_add_right _ _
        · rw [z]; exact Nat.le_refl _
        · rw [z]; exact Nat.le_add_right _ _
      exact I1.fpOk hle (I1.hok.fresh hle)
theorem cr_allH {X : Cx} (hc : HotC X) : CallR X (.builtin "all") (rAll X.K) := by
  intro pins s σ H vs us Q I r h
  obtain ⟨a, bs, rfl, hs, q⟩ := h
  obtain ⟨its, rv, hl, _⟩ := I.list hs
  rw [Vals.ref1 r]
  have hb := rv.bls
  obtain ⟨x1, hot⟩ := hc.at I
  refine call_all_walk (iter_any hl.isList fun s₂ e2 st hne => ?_)
  subst e2
  refine ⟨_, _, _, _, _, _, _, rfl, Walks.listH (A := X.A.in1) (x1 := x1) hot.1 _ a hne its.toArray, ⟨st.1, st.2, hot.mov fun o e => Heap.get?_push_of_some _ e⟩, truth_bools hb, fun h' tk hk => ?_⟩
  refine ⟨.bl _, H, I.kept fun b o eo => hk b o (fun hmem => ?_) (Heap.get?_push_of_some _ eo), ?_, q⟩
  · rcases List.mem_cons.mp hmem with e1 | hmem
    · exact absurd (e1 ▸ Heap.lt_size eo) (Nat.lt_irrefl _)
    · cases hmem
  · show Value.bool _ = Value.bool _
    rw [← L2.all_range, hb, List.size_toArray, List.length_map]
end HE
/-! HE2: a tuple is unpacked where an exception is handled. -/
namespace HE
open PySem PySem.Spec PyProof.Rows HotX L2 L2H
section
variable {prog : Program} {w : World} {A : Around} {E : Value → Shared → Prop} {s : Shared}
theorem hot_ne_tupiter {x1 it l : Addr} {i : Nat} {h : Heap} (hot : HotAt A x1 h) (hit : IsTupIter h it l i) : x1 ≠ it := fun e => by
  obtain ⟨_, o1, vs1, h1, d1, c1⟩ := hot
  obtain ⟨o, ho, hc, hd⟩ := hit
  subst e
  rw [h1] at ho; cases ho
  rw [d1] at hd
  have e2 := Data.fields.inj hd
  subst e2
  simp at c1
theorem next_tuple_end_hot {it t x1 : Addr} {i : Nat} {items} {Q : Option Value → Shared → Prop} (hot : HotAt A x1 s.heap)
    (hit : IsTupIter s.heap it t i) (ht : IsTup s.heap t items) (hx : items[i]? = none)
    (hQ : ∀ h', Heap.ExtBut it s.heap h' → Q none { s with heap := h' }) : wpAny (model prog w) A (pyNext (.ref it)) Q E s := by
  have hne := hot_ne_tupiter hot hit
  obtain ⟨hh, o1, vs1, h1, d1, c1⟩ := hot
  obtain ⟨o, ho, hc, hd⟩ := id hit
  obtain ⟨ol, hol, _, nl, hdl⟩ := ht
  have g1 : ∀ b u, b ≠ it → s.heap.get? b = some u → (s.heap.update it (Obj.mapFields (·.setIfInBounds 0 Value.none))).get? b = some u := fun b u hb e => (Heap.get?_update_other s.heap _ (Ne.symm hb)).trans e
  unfold pyNext
  refine wpAny_bind (wpAny_attempt (wpAny_callSpecial?_slot (name := Str.ofString "__next__") hit.typeIs F.slot_tuple_iterator_next
    (wpAny_call_entry F.slot_tuple_iterator_next hit.typeIs F.entry_tuple_iterator_next ?_ (F.args_tuple_iterator_next_1 _))))
  show wpAny _ _ (field (.ref it) 0 >>= _) _ _ s
  refine wpAny_bind (wpAny_field ho hd (x := .ref t) rfl ?_)
  show wpAny _ _ (if (Value.ref t == Value.none) = true then _ else _) _ _ s
  rw [if_neg (show ¬ ((Value.ref t == Value.none) = true) from Bool.false_ne_true)]
  show wpAny _ _ (field (.ref it) 1 >>= _) _ _ s
  refine wpAny_bind (wpAny_field ho hd (x := .int i 0) rfl ?_)
  show wpAny _ _ (seqItems? (.ref t) >>= _) _ _ s
  refine wpAny_bind (wpAny_seqItems hol hdl ?_)
  simp only [Int.toNat_natCast, hx]
  refine wpAny_bind (wpAny_rule (wpAny_bind (wpAny_setField ho hd (by simp) ?_)))
  show wpAny _ _ (newExc (.type "StopIteration") [] >>= _) _ _ _
  refine wpAny_bind ?_
  simp only [newExc, newTuple]
  refine wpAny_bind (wpAny_newObj_type ?_ (by size_fits))
  refine wpAny_bind (m := firstArgMember _ _) (wpAny_of_eq (a := Value.none) (by first | rfl | (simp only [firstArgMember]; rfl)) ?_)
  refine wpAny_newObj_type ?_ (by size_fits)
  refine raiseNew_hot ⟨hh, o1, vs1, Heap.get?_push_of_some _ (Heap.get?_push_of_some _ (g1 _ _ hne h1)), d1, c1⟩ (Nat.ne_of_lt (Heap.lt_size (Heap.get?_push_of_some _ (g1 _ _ hne h1)))) (Heap.get?_push_size _ rfl) rfl (by first | (simp; done) | (simp; omega) | (simp only [Array.size_append]; simp; omega)) ?_
  refine wpAny_bind (wpAny_isInstance (T := "StopIteration") (b := true) ⟨_, Heap.get?_update_self _ (Heap.get?_push_size _ rfl) rfl, rfl⟩ isSubtype_stop ?_)
  refine wpAny_pure (hQ _ fun b o hb e => ?_)
  rw [Heap.get?_update_other _ _ (Nat.ne_of_gt (Heap.lt_size (Heap.get?_push_of_some _ (g1 b o hb e))))]
  exact Heap.get?_push_of_some _ (Heap.get?_push_of_some _ (g1 b o hb e))
theorem assign_tuple_hot {env : Env} {elts : List Expr} {k : Nat} {pos : Pos} {t x1 : Addr} {items : Array Value} {Q : Unit → Shared → Prop} (hot : HotAt A x1 s.heap) (ht : IsTup s.heap t items)
    (hn : (assignEach elts env).length = items.size) (hstar : (assignEach elts env).findIdx? (·.1) = none)
    (h : ∀ h', Heap.ExtBut s.heap.objs.size s.heap h' → wpAny (model prog w) A (assignInOrder ((assignEach elts env).map (·.2)) items.toList) Q E { s with heap := h' }) :
    wpAny (model prog w) A (assign (.Tuple elts k pos) env (.ref t)) Q E s := by
  have tlt : t ≠ s.heap.objs.size := by obtain ⟨o, ho, _⟩ := ht; exact Nat.ne_of_lt (Heap.lt_size ho)
  have xlt : x1 ≠ s.heap.objs.size := by obtain ⟨_, o, _, ho, _⟩ := hot; exact Nat.ne_of_lt (Heap.lt_size ho)
  rw [assign_Tuple]
  refine wpAny_bind (wpAny_standAt ?_)
  unfold unpack
  rw [hn, hstar]
  refine wpAny_bind (wpAny_holding ?_)
  unfold unpackItems
  refine wpAny_bind ?_
  unfold notIterableAtAll
  refine wpAny_bind (wpAny_specialOf ht.typeIs slot_tuple_iter.lookup (wpAny_pure ?_))
  simp only [Bool.false_eq_true, if_false]
  refine wpAny_bind (wpAny_holding (iter_tuple ht ?_))
  refine wpAny_bind (wpAny_holding (draw_tuple tlt items.size 0 _ _ ⟨_, Heap.get?_push_size _ rfl, rfl, rfl⟩ (ht.push _) (by omega) fun h₁ hit₁ hs₁ => ?_))
  rw [List.drop_zero, List.take_of_length_le (by simp : items.toList.length ≤ items.size), if_neg (by simp)]
  have ht₁ : IsTup h₁ t items := (ht.push _).extBut hs₁.extBut tlt
  have hot₁ : HotAt A x1 h₁ := hot.mov fun o e => hs₁.extBut _ _ xlt (Heap.get?_push_of_some _ e)
  refine wpAny_bind (wpAny_holding (next_tuple_end_hot hot₁ hit₁ ht₁ (by simp) fun h₂ he₂ => ?_))
  simp only [Option.isSome_none, Bool.false_eq_true, if_false]
  exact wpAny_pure (h h₂ fun b o hb e => he₂ b o hb (hs₁.extBut b o hb (Heap.get?_push_of_some _ e)))
end
theorem pg_tupH {X : Cx} {es : List Expr} {k n : Nat} {pos : Pos} {t : TGs} (hc : HotC X) (h : PGs X es t)
    (hn : (assignEach es X.env).length = n := by rfl) (hst : (assignEach es X.env).findIdx? (·.1) = none := by rfl) : PG X (.Tuple es k pos) (gTup X.K n t) := by
  refine ⟨fun pins s σ H v u Q I r hw => ?_⟩
  obtain ⟨a, xs, rfl, hq, hl, hw⟩ := hw
  cases r
  obtain ⟨x1, hot⟩ := hc.at I
  obtain ⟨its, rv, ht, hz⟩ := I.tuple hq
  refine assign_tuple_hot hot ht (by simp [hn, ← hl, rv.length]) hst fun h' hx => ?_
  exact h.run pins _ σ H xs _ Q (I.kept (t' := s.toks) fun b o e => hx b o (Nat.ne_of_lt (Heap.lt_size e)) e) (by simpa using rv) hw
end HE
/-! HE3: a list comprehension where an exception is handled. -/
namespace HE
open PySem PySem.Spec PyProof.Rows HotX L2 L2H
/-- the context of its block: the handled exception stays pinned -/
abbrev blkH (X : Cx) (p : Addr × Obj) (s : Shared) (H : Hp) (scope : Scope) (cenv : Env) (fp : List Addr) : Cx := (X.blk s H scope cenv fp).tr ([] ++ [p]) (fun _ _ => False)
variable {X : Cx}
theorem blkH_hot {p : Addr × Obj} {s : Shared} {H : Hp} {scope : Scope} {cenv : Env} {fp : List Addr} (hot : Hot1 X.A p) : HotC (blkH X p s H scope cenv fp) := ⟨p, hot, by simp⟩
theorem pin_blk {pins : List (Addr × Obj)} {σ : L2.St} {H : Hp} {s : Shared} {p : Addr × Obj} (I : Inv X pins σ H s) (hp : p ∈ X.pn) : s.heap.get? p.1 = some p.2 ∧ H p.1 = none ∧ p.1 ∉ frs X.stack ∧ ∀ v, p.2.data ≠ .cell v := by
  obtain ⟨g, f, nl, nf, nc⟩ := I.pin p (List.mem_append_left _ hp)
  exact ⟨g, f, fun z => (List.mem_cons.mp (I.stkSub p.1 z)).elim nl nf, nc⟩
theorem pe_lcH {p : Addr × Obj} {elt tg iter : Expr} {scope : Scope} {own : List (Str × Nat)} {pos : Pos} {wi : TI} {g : TG} {te : TE} (hot : Hot1 X.A p) (hp : p ∈ X.pn) (hN : X.N.Nodup) (hi : PIH X tg iter wi) (ok : BlkOk X.N X.env.scope scope own)
    (hg : ∀ (s : Shared) (H : Hp) (C : Addr) (cl : List (Str × Addr)) (fp : List Addr), PG (blkH X p s H scope (compEnvC scope cl C X.env) fp) tg g)
    (he : ∀ (s : Shared) (H : Hp) (C : Addr) (cl : List (Str × Addr)) (fp : List Addr), PE (blkH X p s H scope (compEnvC scope cl C X.env) fp) elt te) (hs : ∀ x, foldedSetIterable iter X.env x = pure x := by intro _; rfl) :
    PE X (.ListComp elt [⟨tg, iter, [], 0⟩] scope pos) (tLc wi g tYes te (own.map (·.2))) := by
  refine ⟨fun pins s σ H Q I h => ?_⟩
  rw [eval_ListComp]
  have hfree : ∀ y ∈ scope.names, y.2 = .free → ∃ c, X.env.cells.lookup y.1 = some c := fun y hy e => (ok.free y hy e).elim (fun k => I.ok.has _ (.inl k)) fun k => I.ok.has _ (.inr k)
  refine wpAny_comprehension_free (use := none) rfl hs (closure_ok hfree) ok.kind (fun y hy e => by rw [ok.uniq y hy, e]) (thn (hi.run pins s σ H _ I h) fun xv s1 hx => thn hx fun itv s2 h2 => ?_)
  obtain ⟨it, fp, tn, J, H2, rfl, I2, T, st2, f2, q⟩ := h2
  refine wpAny_newObj_type (newEnv_comp ?_) (by show 0 ≤ sizeLine; decide)
  obtain ⟨D, hD⟩ : ∃ D, s2.heap.objs.size = D := ⟨_, rfl⟩
  rw [hD]
  obtain ⟨W, ⟨m0, w0⟩, turn⟩ := q D (I2.hok.fresh (Nat.le_of_eq hD))
  obtain ⟨s3, hs3⟩ : ∃ t : Shared, ({ s2 with heap := s2.heap.push { cls := .type "list", data := .seq ([] : List Value).toArray } } : Shared) = t := ⟨_, rfl⟩
  rw [hs3]
  have h3 : s3.heap = s2.heap.push { cls := .type "list", data := .seq ([] : List Value).toArray } := by rw [← hs3]
  have I3 : Inv X pins σ (upd H2 D (.lst [])) s3 := by
    rw [← hs3]
    refine I2.laid (t' := s2.toks) (fun b o e => Heap.get?_push_of_some _ e) (Nat.le_of_eq hD) ⟨Nat.zero_le _, [], 0, .nil, ?_⟩
    rw [← hD]; exact Heap.get?_push_size _ rfl
  have f3 : ∀ b ∈ fp, FpOk X pins (upd H2 D (.lst [])) b ∧ b < s3.heap.objs.size := fun b hb => by
    obtain ⟨o, e, _⟩ := T.obj _ _ st2 b hb
    have lt := Heap.lt_size e
    exact ⟨⟨by rw [upd_ne (by rw [← hD]; exact Nat.ne_of_lt lt)]; exact (f2 b hb).1, (f2 b hb).2⟩, by rw [h3, Heap.size_push]; exact Nat.lt_succ_of_lt lt⟩
  have st3 : tn 0 s3.heap := T.keep _ _ _ st2 fun b _ o e => by rw [h3]; exact Heap.get?_push_of_some _ e
  have P3 := pin_blk I3 hp
  have I4 := block_start I3 ok hN f3
  have kp : ∀ b o, s3.heap.get? b = some o → (pushCells (s3.heap.push { cls := .type "dict", data := .dict #[] }) scope.names).get? b = some o := fun b o e => pushCells_keeps _ _ _ _ (Heap.get?_push_of_some _ e)
  have pg := hg s3 (upd H2 D (.lst [])) s3.heap.objs.size (cellsFrom (s3.heap.objs.size + 1) scope.names (cloFrom X.env.cells scope.names [])) fp
  have pe := he s3 (upd H2 D (.lst [])) s3.heap.objs.size (cellsFrom (s3.heap.objs.size + 1) scope.names (cloFrom X.env.cells scope.names [])) fp
  show codeAny _ _ (.compStart (.ListComp elt [⟨tg, iter, [], 0⟩] scope pos) 0 (.ref it) (.ref D) (compEnvC scope (cellsFrom (s3.heap.objs.size + 1) scope.names (cloFrom X.env.cells scope.names [])) s3.heap.objs.size X.env)) (compPost (model X.prog X.w) X.A X.xe none _ (.ref D) s3.heap.objs.size) { s3 with heap := pushCells (s3.heap.push { cls := .type "dict", data := .dict #[] }) scope.names }
  have cL : (compEnvC scope (cellsFrom (s3.heap.objs.size + 1) scope.names (cloFrom X.env.cells scope.names [])) s3.heap.objs.size X.env).locals = s3.heap.objs.size := rfl
  revert I4 pg pe cL
  generalize compEnvC scope (cellsFrom (s3.heap.objs.size + 1) scope.names (cloFrom X.env.cells scope.names [])) s3.heap.objs.size X.env = ce
  intro I4 pg pe cL
  have nfp : ∀ b ∈ fp, (upd H2 D (.lst [])) b = none := fun b hb => (f3 b hb).1.1
  revert I3 I4 pg pe w0 nfp f3 P3
  generalize upd H2 D (.lst []) = H3
  intro w0 I3 f3 P3 I4 pg pe nfp
  obtain ⟨s4, hs4⟩ : ∃ t : Shared, ({ s3 with heap := pushCells (s3.heap.push { cls := .type "dict", data := .dict #[] }) scope.names } : Shared) = t := ⟨_, rfl⟩
  rw [hs4] at I4 ⊢
  have k4 : ∀ b o, s3.heap.get? b = some o → s4.heap.get? b = some o := by rw [← hs4]; exact kp
  have I4 : Inv (blkH X p s3 H3 scope ce fp) [] (wipe σ (own.map (·.2))) H3 s4 :=
    (I4.pins_of (pins' := [p]) fun q hq => by
      have e : q = p := by simpa using hq
      rw [e]
      exact ⟨k4 _ _ P3.1, P3.2.1, by show p.1 ≠ ce.locals; rw [cL]; exact Nat.ne_of_lt (Heap.lt_size P3.1), P3.2.2.1, P3.2.2.2⟩).toTry _
  have hotB : HotC (blkH X p s3 H3 scope ce fp) := blkH_hot hot
  have st4 : tn 0 s4.heap := T.keep _ _ _ st3 fun b _ o e => k4 b o e
  have stat : ∀ {σ' : L2.St} {H' : Hp} {s' : Shared}, Inv (blkH X p s3 H3 scope ce fp) [] σ' H' s' → (∀ b ∈ fp, H' b = none) → ∀ b ∈ fp, FpOk (blkH X p s3 H3 scope ce fp) [] H' b := fun {σ' H' s'} I' hn b hb =>
    ⟨hn b hb, (I'.ok.exf b hb).1, I'.ok.exfs b hb, .inl hb, fun x c e => (I'.ok.exf b hb).2 x c e, fun q hq => by
      have e : q = p := by simpa using (show q ∈ ([] ++ [p]) ++ [] from hq)
      rw [e]
      exact (f3 b hb).1.2.2.2.2.2 p (List.mem_append_left _ hp)⟩
  have loop : codeAny (model X.prog X.w) X.A (.compLoop (.ListComp elt [⟨tg, iter, [], 0⟩] scope pos) 0 (.ref it) (.ref D) ce) (compPost (model X.prog X.w) X.A X.xe none (EP X pins σ Q) (.ref D) s3.heap.objs.size) s4 := by
    refine compLoop_any (fun n s' => ∃ i H', Inv (blkH X p s3 H3 scope ce fp) [] (wipe σ (own.map (·.2))) H' s' ∧ tn i s'.heap ∧ (∀ b ∈ fp, H' b = none) ∧ W i n H') ?_ m0 ⟨0, H3, I4, st4, nfp, w0⟩
    rintro n s5 ⟨i, H5, I5, st5, n5, w5⟩
    rcases turn i n H5 w5 with ⟨stop, qq⟩ | ⟨go, Nx, hNx, step⟩
    · refine thnF (T.done (blkH X p s3 H3 scope ce fp) rfl rfl rfl hotB i [] s5 _ H5 (fun _ _ => False) I5 (stat I5 n5) st5 stop) fun r s6 ⟨hr, I6⟩ => ?_
      subst hr
      have I7 : Inv X pins σ H5 s6 := I3.call' (ch := fp) I6.os I6.base I6.hok I6.bare fun b hb => ⟨(f3 b hb).1.2.2.2.1, (f3 b hb).1.2.1, (f3 b hb).1.2.2.2.2.1, (f3 b hb).1.2.2.2.2.2⟩
      have nC : H5 s3.heap.objs.size = none := by
        have z : H5 ce.locals = none := I6.free
        rwa [cL] at z
      obtain ⟨m, hn, _⟩ := I6.loc
      have hn : s6.heap.Ns ce.locals m := hn
      rw [cL] at hn
      obtain ⟨f0, f1, f2, f3, f4, f5⟩ := I3.fpOk (Nat.le_refl _) nC
      exact ⟨m, hn, fun h'' sb => ⟨.ref D, H5, I7.turned (t' := s6.toks) (fun b o hb e => (sb.2 b hb).trans e) f0 f1 f3 f4 f5, rfl, qq⟩⟩
    · refine thnF (T.item (blkH X p s3 H3 scope ce fp) rfl rfl rfl hotB i [] s5 _ H5 (fun _ _ => False) I5 (stat I5 n5) st5 go) fun r s6 ⟨u, hr, h6⟩ => ?_
      subst hr
      refine thnF h6 fun _ s7 ⟨x, H7, I7, r7, y7, st7, n7⟩ => ?_
      have I7' := I7.pinned (stat I7 n7) (T.obj _ _ st7)
      refine thnF (pg.run _ s7 _ H7 x u _ I7' r7 (step x H7 y7)) fun _ s8 ⟨σ8, H8, I8, hw8, q8⟩ => ?_
      refine thnF ((pts_nil (X := blkH X p s3 H3 scope ce fp)).run _ s8 σ8 H8 _ I8 q8) fun b s9 ⟨H9, I9, q9⟩ => ?_
      have fin : ∀ {s' : Shared} {H' : Hp}, Inv (blkH X p s3 H3 scope ce fp) ([] ++ pinsAt fp s7.heap) σ8 H' s' → Nx H' → ∃ m, m < n ∧ ∃ i H', Inv (blkH X p s3 H3 scope ce fp) [] (wipe σ (own.map (·.2))) H' s' ∧ tn i s'.heap ∧ (∀ b ∈ fp, H' b = none) ∧ W i m H' := fun {s' H'} I' nx => by
        obtain ⟨m', hm, w'⟩ := hNx H' nx
        have pin' : ∀ b ∈ fp, ∀ o, s7.heap.get? b = some o → s'.heap.get? b = some o ∧ H' b = none := fun b hb o e =>
          let z := I'.pin (b, o) (List.mem_append_right _ (List.mem_append_right _ (mem_pinsAt hb e)))
          ⟨z.1, z.2.1⟩
        refine ⟨m', hm, i + 1, H', (I'.unpinned (pins := [])).weak (by rw [← hw8, wipe_length]) (fun j v e => by rw [← hw8] at e; exact (wipe_some e).1), T.keep _ _ _ st7 fun b hb o e => (pin' b hb o e).1, fun b hb => ?_, w'⟩
        obtain ⟨o, e, _⟩ := T.obj _ _ st7 b hb
        exact (pin' b hb o e).2
      cases b with
      | false =>
        simp only [Bool.false_eq_true, if_false] at q9 ⊢
        exact fin I9 q9
      | true =>
        simp only [if_true] at q9 ⊢
        refine thnF (pe.run _ s9 σ8 H9 _ I9 q9) fun z s10 ⟨yv, H10, I10, r10, acc, hD10, hz10, nx⟩ => ?_
        exact app_ok (X := blkH X p s3 H3 scope ce fp) I10 hD10 hz10 r10 fun s11 I11 => fin I11 nx
  exact codeAny_compStart_list loop (T.self X.A 0 _ _ _ st4 loop)
end HE
/-! IsE: isinstance of a caught error that bears fields. -/
namespace PySem.W
open PySem PySem.Spec PySem.Calls PyProof.Rows
section
variable {prog : Program} {w : World} {A : Around} {E : Value → Shared → Prop} {s : Shared} {K : Frag} {x D : Addr} {ox : Obj} {od : Option Obj}
theorem findObj_dataA {C : Addr} {name : Str} {a g : Value} (hc : (clsIn K C).isSome = true) (ha : findIn K (.ref C) name = some (some a)) (hg : specialIn K a "__get__" = some (some g)) (ht : takesIn K a = some true) : findObj K C od name = some (.bind g a) := by
  obtain ⟨cd, hc⟩ := Option.isSome_iff_exists.mp hc
  unfold findObj
  rw [hc, Option.bind_some, ha, Option.bind_some]
  simp [hg, ht]
theorem kin_classEA {Q : Option Value → Shared → Prop} (T : L2.ExcC K D) (X : K.In s.heap) (I : InstAt s.heap x ox D od) (h : Q (some (.ref D)) { s with toks := s.toks + 1 }) : wpAny (model prog w) A (getAttr? (.ref x) "__class__") Q E s := by
  have hf : findObj K D od "__class__" = some (.bind (.builtin "getset_descriptor.__get__") (.builtin "object.__class__")) := findObj_dataA (by obtain ⟨cd, hc, _⟩ := any_some T.hd; rw [hc]; rfl) T.ha T.hn T.ht
  obtain ⟨hp, g, d, t, os⟩ := s
  have A0 := I.type (M := model prog w)
  have A1 := looks_findIn (M := model prog w) X T.hg
  have A2 := looks_findIn (M := model prog w) X T.hk
  have A3 := looks_find (M := model prog w) X I hf
  have sub : Looks (model prog w) hp (isInstance (.ref x) (.type "BaseException")) true := A0.andThen (looks_subIn X T.hs)
  have n1 : (Value.builtin "BaseException.__getattribute__" == Value.builtin "object.__getattribute__") = false := by decide +kernel
  have n2 : (onTheHeap (Value.ref D) && Value.builtin "BaseException.__getattribute__" == Value.builtin "object.__getattribute__") = false := by rw [n1]; rfl
  have n3 : (false && onTheHeap (Value.builtin "BaseException.__getattribute__")) = false := rfl
  unfold getAttr? getAttrBy? getAttrBy
  refine wpAny_bind (wpAny_mkText (wpAny_bind (wpAny_attempt (wpAny_holding (wpAny_bind (A0.at (wpAny_bind (A1.at ?_))))))))
  show wpAny _ _ (if (onTheHeap (Value.ref D) && Value.builtin "BaseException.__getattribute__" == Value.builtin "object.__getattribute__") = true then _ else _) _ _ _
  rw [n2, if_neg Bool.false_ne_true]
  unfold getAttrByItsOwn hookBefore
  refine wpAny_bind ?_
  rw [if_pos (show onTheHeap (Value.ref D) = true from rfl)]
  refine A2.at ?_
  refine wpAny_bind (wpAny_attempt (wpAny_holding ?_))
  unfold callGetattribute
  rw [n3, if_neg Bool.false_ne_true]
  unfold boundAndCalled
  rw [PySem.F.excAttr_ValueError.ga.bind (.ref x)]
  refine wpAny_bind (wpAny_pure ?_)
  show wpAny _ _ (call (.builtin "BaseException.__getattribute__") [.ref x, .str "__class__" t]) _ _ _
  refine wpAny_call (codeAny_call_builtin PySem.F.excAttr_ValueError.ga.plain PySem.F.entry_bexc_ga ?_)
  refine @check_slot (model prog w) _ _ ⟨hp, g, d, t + 1, os⟩ "BaseException.__getattribute__" "BaseException" "__getattribute__" (.ref x) [.str "__class__" t] [] _ (by decide +kernel) (by decide +kernel) sub (PySem.F.args_bexc_ga (.ref x) (.str "__class__" t)) ?_
  unfold Builtin.«object.__getattribute__»
  refine wpAny_bind (wpAny_of_eq (a := ((Value.ref x : Value), [Value.str "__class__" t])) (by first | rfl | (simp only [slotArgs]; rfl)) ?_)
  refine wpAny_bind (wpAny_pure (wpAny_bind (A0.at (wpAny_bind (A3.at ?_)))))
  show wpAny _ _ (holding [Value.builtin "object.__class__"] (call (.builtin "getset_descriptor.__get__") [.builtin "object.__class__", .ref x, .ref D]) >>= ret) _ _ _
  refine wpAny_bind (wpAny_holding (wpAny_call (class_get (s := ⟨hp, g, d, t + 1, os⟩) (ox := ox) (od := od) X I T.hm ?_)))
  refine wpAny_pure ?_
  show wpAny _ _ (handedOut (.ref D)) _ _ _
  rw [handedOut_of (v := .ref D) rfl]
  first
    | exact wpAny_pure (wpAny_pure h)
    | exact wpAny_pure h
    | exact wpAny_pure (wpAny_bind (wpAny_pure (wpAny_pure h)))
/-- the class of an error, whatever fields it bears -/
theorem kitx_excA (T : L2.ExcC K D) : KitX K (.ref x) (.ref D) (fun h => ∃ od, InstAt h x ox D od) where
  ty := fun _ _ _ ⟨_, I⟩ => I.type
  it := fun _ _ X _ => by
    obtain ⟨cdD, hcD, _⟩ := any_some T.hd
    unfold clsIn at hcD
    split at hcD
    · rename_i c' d' cd' sl' ho
      intro A' Q' E' s' k q
      unfold isType loadHead
      exact wpAny_bind (wpAny_loadPart (k _ _ (X _ _ ho)) (wpAny_pure q))
    · cases hcD
  ne := (handS_kitx_exc (x := x) (ox := ox) T.hg T.hk T.hs T.hd T.ha T.hn T.ht T.hm).ne
  ca := fun X ⟨_, I⟩ k => kin_classEA T X I k
end
end PySem.W
namespace L2
open PySem PySem.Spec PyProof.Rows
theorem call_isEA {X : Cx} {a D dd : Addr} {oe : Obj} {pn : List (Addr × Obj)} (C : ExcC X.K D) (hz : Zc (.ref D) (some dd) oe) (hf : ∃ vs, oe.data = .fields vs) :
    CallR (X.suite a ((a, oe) :: pn)) (.builtin "isinstance") (fun xs H Q => ∃ (c : V) (cv : Value) (b : Bool) (fs : List (Str × V)), xs = [.ref a, c] ∧ (∀ u, RelV c u → u = cv) ∧ PySem.W.kitOne X.K (.ref D) cv = some b ∧ H dd = some (.xd fs) ∧ Q (.bl b) H) := by
  intro pins s σ H xs us Q I r h
  obtain ⟨c, cv, b, fs, rfl, hcv, e, hd, q⟩ := h
  cases r with
  | cons rx rr =>
    cases rr with
    | cons rt rr =>
      cases rr
      cases rx
      have ec := hcv _ rt
      subst ec
      obtain ⟨hget, _⟩ := I.pin (a, oe) (List.mem_append.mpr (.inl List.mem_cons_self))
      obtain ⟨vs, hv⟩ := hf
      have hx : ObjOk X.prog X.w H s.heap dd (.xd fs) := I.hok dd _ hd
      obtain ⟨mA, hns, _⟩ := hx
      obtain ⟨od, ho, _⟩ := lookIn_ns hns
      have J : PySem.W.InstAt s.heap a oe D (some od) := ⟨hget, hz.1, by unfold PySem.W.notCls; rw [hv] <;> rfl, by rw [hz.2]; exact ho⟩
      exact PySem.W.kia_one (PySem.W.kitx_excA C) I.kIn ⟨_, J⟩ e (fun z => nomatch z) fun tk => ⟨.bl b, H, I.kept (t' := tk) fun _ _ z => z, rfl, q⟩
end L2
/-! HE4: rules over plain data where an exception is handled: all, zip, comprehensions, calls, defs. -/
namespace DL
open PySem L2 L2H PyProof.Rows HE
section
variable {X : Cx} {G G' : Gx} {e a b c o : Expr} {ρ ρ' ρ0 ρ1 ρ2 ρ3 : DL.Env} {r s z s1 s2 : Slot} {d x y w : D} {ds es : List D} {pos p p2 q2 apos cpos tpos kpos : Pos} {k k1 k2 k3 : Bool} {n : Str} {xs : List Expr} {m i j kk : Nat} {elts : List Expr} {as : List ArgS} {args outs : List Slot} {ps : List Str}
theorem ed_allH {bs : List Bool} (hc : HotC X) (hg : Gl X "all") (hm : X.mg "all" = none) (ha : ED X G a ρ ρ1 s) (hs : LstS s ds) (hd : ds = bs.map D.bl) (he : starEach [a] X.env = (false, eval a X.env) :: starEach [] X.env := by rfl) (hpl : (backTo pos (starEach [] X.env)).any (·.1) = false := by rfl) : ED X G (.Call (.Name "all" p) [a] [] pos) ρ ρ1 (.val (.bl (bs.all id))) :=
  ed_call1B (cr_allH hc) hg hm boot_all ha (fun σ F H v Q E r1 q => by
    obtain ⟨k, a, vs, rfl, h2, h3⟩ := lst_rd hs E r1
    rw [hd] at h3
    rw [h3.bls] at h2
    exact ⟨a, bs, rfl, sql_rd h2, q F H _ (Ext.refl _) E sr_bl⟩) (by decide) (by decide) he hpl
theorem pih_mono {tg iter : Expr} {t t' : TI} (h : PIH X tg iter t) (i : ∀ σ H R, t' σ H R → t σ H R) : PIH X tg iter t' := ⟨fun pins s σ H R I q => h.run pins s σ H R I (i σ H R q)⟩
theorem walk_zipL {K : PySem.W.Frag} {a b : Addr} {xs ys : List V} {n : Nat} (hn : n = min xs.length ys.length) : Walk (Itz K a b) n (fun H => SqL K H a xs ∧ SqL K H b ys) (YPair (fun i => xs[i]?) (fun i => ys[i]?)) :=
  ⟨fun i _ hi q => ⟨xs, ys, xs[i]'(by omega), ys[i]'(by omega), q.1, q.2, by simp [show i < xs.length by omega], by simp [show i < ys.length by omega]⟩, fun _ q => ⟨xs, ys, q.1, q.2, by omega⟩,
    fun i H x H' _ q y => by
      obtain ⟨T, a, b, h1, h2, h3, h4, h5⟩ := y
      exact ⟨T, a, b, h1, h2, h3, h4 xs q.1, h5 ys q.2⟩⟩
theorem at_any {F H : Hp} {a : Addr} {u : HO} (h : Rd (G.at F k) a u) (e1 : Ext F H) (e2 : Ext G.Hv H) : Rd H a u := by
  cases k
  · exact Ext.rd e2 h
  · exact Ext.rd e1 h
theorem wk_zipH (hg : Gl X "zip") (hm : X.mg "zip" = none) (ha : ED X G a ρ ρ1 (.v k1 (.lst ds))) (hb : ED X G b ρ1 ρ2 (.v k2 (.lst es))) (hn : m = min ds.length es.length) {dx : D}
    (hs : starEach [a, b] X.env = (false, eval a X.env) :: starEach [b] X.env := by rfl) (hs2 : starEach [b] X.env = (false, eval b X.env) :: starEach [] X.env := by rfl) (hpl : (backTo pos (starEach [b] X.env)).any (·.1) = false := by rfl) :
    PIH X (.Tuple elts kk tpos) (.Call (.Name "zip" p) [a, b] [] pos) (tW X.K G ρ ρ2 m (fun t => .two k1 (ds.getD t dx) k2 (es.getD t dx))) :=
  pih_mono (pi_zipH hg hm (ea_two ha hb hs hs2) hs hpl) fun σ H R ⟨F, E, q⟩ => ⟨F, E, fun F1 H1 v u e1 E1 r1 r2 => by
    obtain ⟨x, vs, rfl, hx, hr1⟩ : ∃ x vs, v = V.ref x ∧ Rd (G.at F1 k1) x (.lst vs) ∧ Reps X.K (G.at F1 k1) ds vs := rep_lst.mp r1
    obtain ⟨y, ws, rfl, hy, hr2⟩ : ∃ x vs, u = V.ref x ∧ Rd (G.at F1 k2) x (.lst vs) ∧ Reps X.K (G.at F1 k2) es vs := rep_lst.mp r2
    refine ⟨x, y, vs, ws, rfl, sql_rd (E1.atH.rd hx), sql_rd (E1.atH.rd hy), q F1 H1 _ e1 E1 ⟨_, _, walk_zipL (xs := vs) (ys := ws) (n := m) (by rw [hr1.length, hr2.length]; exact hn), fun H e2 e3 => ⟨sql_rd (at_any hx e2 e3), sql_rd (at_any hy e2 e3)⟩, fun t H x H' ht e2 e3 y => ?_⟩⟩
    obtain ⟨T, a, b, g1, g2, g3, g4, g5⟩ := y
    obtain ⟨d1, m1, m2⟩ := hr1.get g4
    obtain ⟨d2, m3, m4⟩ := hr2.get g5
    refine ⟨T, a, b, g1, g2, g3, ?_, ?_⟩
    · have : ds.getD t dx = d1 := by rw [List.getD_eq_getElem?_getD, m1]; rfl
      rw [this]; exact m2
    · have : es.getD t dx = d2 := by rw [List.getD_eq_getElem?_getD, m3]; rfl
      rw [this]; exact m4⟩
abbrev ElH (X : Cx) (p0 : Addr × Obj) (scope : Scope) (elt : Expr) (ρi : DL.Env) (x : D) : Prop := ∀ (s : Shared) (H : Hp) (C : Addr) (cl : List (Str × Addr)) (fp : List Addr) (F1 H1 : Hp) (ws : List V), ED (blkH X p0 s H scope (compEnvC scope cl C X.env) fp) ⟨F1, H1, ws, maskE ρi⟩ elt ρi ρi (.val x)
theorem ed_lcH {p0 : Addr × Obj} {elt tg iter : Expr} {scope : Scope} {own : List (Str × Nat)} {g : TG} {ix vs : List Nat} {it : Nat → Yld} {ft : Nat → DL.Env → DL.Env} {acc : List D} {f : Nat → D} (hot : Hot1 X.A p0) (hp : p0 ∈ X.pn) (ok : BlkOk X.N X.env.scope scope own) (hvs : own.map (·.2) = vs) (hN : X.N.Nodup)
    (hw : PIH X tg iter (tW X.K G ρ ρ1 m it)) (hg : ∀ (s : Shared) (H : Hp) (C : Addr) (cl : List (Str × Addr)) (fp : List Addr), PG (blkH X p0 s H scope (compEnvC scope cl C X.env) fp) tg g) (hy : ∀ t, t < m → TgR X.K G g ix (it t) (ft t) ∧ FtOk ix (ft t)) (hix : ∀ i ∈ ix, i ∈ vs) (hm : ∀ i ∈ vs, G.ms[i]? ≠ some true) (hz : m ≤ sizeLine)
    (hel : ∀ t, t < m → ElH X p0 scope elt (ft t (wipeE ρ1 vs)) (f t)) (hmg : ∀ t, t < m → mergeE 0 ρ1 (ft t (wipeE ρ1 vs)) vs = ρ1) (hacc : (List.range m).map f = acc)
    (hs : ∀ x, foldedSetIterable iter X.env x = pure x := by intro _; rfl) : ED X G (.ListComp elt [⟨tg, iter, [], 0⟩] scope pos) ρ ρ1 (.own acc) := by
  subst hvs
  let p : DL.Env → DL.Env → DL.D → Prop := fun ρi ρ3 x => ρ3 = ρi ∧ ElH X p0 scope elt ρi x
  have he : ∀ (s : Shared) (H : Hp) (C : Addr) (cl : List (Str × Addr)) (fp : List Addr), PE (blkH X p0 s H scope (compEnvC scope cl C X.env) fp) elt (tElt X.K p) := fun s H C cl fp => pe_any (p := fun q : Tq => p q.ρi q.ρ3 q.x) fun q hq => by
    obtain ⟨h1, h2⟩ := hq
    rw [h1]
    exact h2 s H C cl fp q.F1 q.H1 q.ws
  refine pe_mono (pe_lcH hot hp hN hw ok hg he hs) fun σ H Q h => lc_tD p (fun t ρ' acc => ρ' = ρ1 ∧ acc = (List.range t).map f) hy hix hm hz ⟨rfl, rfl⟩ ?_ ?_ ?_ h
  · rintro t ρ' acc ⟨_, rfl⟩; simp
  · rintro t ρ' acc ht ⟨rfl, rfl⟩
    exact ⟨_, f t, ⟨rfl, hel t ht⟩, hmg t ht, by rw [List.range_succ, List.map_append]; rfl⟩
  · rintro ρ' acc' ⟨rfl, rfl⟩
    exact ⟨rfl, hacc⟩
/-- a call of a def where an exception is handled -/
theorem ed_callH {f : Addr} {fd : FuncData} (Fo : FnH X.prog X.w X.K X.mg X.base CX0 kk f fd ps (spD X.K args r outs)) (hr : RoomH kk X.A) (hc : HotC X) (hg : Gl X n) (hm : X.mg n = some (.ref f)) (hk : PySem.W.keepIn X.K (.ref f) = true) (hb : Binds X.K fd ps [])
    (ha : EAs X G (a :: xs) ρ ρ1 as) (ht : ArgsTo ρ1 as args) (nd : (varsOf as).Nodup) (ho : OwnTo outs args) (hres : ResOk r) (hdb : (n == ("__debug__" : Str)) = false := by decide)
    (he : starEach (a :: xs) X.env = (false, eval a X.env) :: starEach xs X.env := by rfl) (hpl : (backTo pos (starEach xs X.env)).any (·.1) = false := by rfl) : ED X G (.Call (.Name n p) (a :: xs) [] pos) ρ (backE ρ1 as outs) r :=
  pe_mono (pe_callH (E := fun _ _ _ _ => False) Fo hr hc hg hm hk hb (fun _ _ _ _ _ _ _ h => h.elim) ha hdb he hpl) fun σ H Q ⟨F, E, q⟩ => ⟨F, E, fun F1 H1 vs e1 E1 r1 => by
    show spD X.K args r outs vs H1 Q _
    exact call_sp E1 e1 r1 ht nd ho hres q⟩
end
section
variable {P : Program} {w : World} {K : PySem.W.Frag} {mg : Str → Option Value} {base : Heap}
theorem fnDH {x qual : Str} {st : Stmt} {f : Addr} {fd : FuncData} {N ps : List Str} {k : Nat} {args outs : List Slot} {r : Slot} (Fu : Fun K x qual st f fd) (S : FnScope N ps (defScope st)) (hl : args.length = ps.length) (ho : OwnTo outs args)
    (hbody : ∀ (cdv : Value) (A : Around) (outer : List PySem.Env) (s : Shared) (H F0 : Hp) (vs : List V) (E : XK) (p : Addr × Obj), Hot1 A p → RoomH k (A.deeper (envOfC qual (defScope st) s.heap.objs.size f cdv)) →
      BD (cxH CX0 P w K mg base N qual (defScope st) f cdv A outer s H E p).nox (callG F0 H vs args) (defBody st) (startE N args) (EndP args r outs)) : FnH P w K mg base CX0 (k + 1) f fd ps (spD K args r outs) := by
  obtain ⟨oc, od, kV, doc, pm, an, cdv, ct, osl, rfl, lk, hcd⟩ := Fu.ex
  refine fn_ofH lk hcd S (fun vs H Q E h => h.1.trans hl) fun A outer s H vs Q E p hot hr hsp => ?_
  obtain ⟨F, h⟩ := start_tS S.pre hl ho hsp
  exact ⟨_, (hbody cdv A outer s H F vs E p hot hr).nox, h⟩
end
end DL
/-! HE5: an own error with fields is made and raised; defs that raise; try. -/
namespace DL
open PySem PySem.Spec L2 L2H PyProof.Rows HE
/-- an error's dict, with its fields as data -/
def XR (K : PySem.W.Frag) (F : Hp) (dd : Addr) (fs : List (Str × D)) : Prop := ∃ fvs : List (Str × V), F dd = some (.xd fvs) ∧ fvs.map (·.1) = fs.map (·.1) ∧ Reps K F (fs.map (·.2)) (fvs.map (·.2))
theorem XR.mono {K : PySem.W.Frag} {F H : Hp} {dd : Addr} {fs : List (Str × D)} (e : Ext F H) (h : XR K F dd fs) : XR K H dd fs := by
  obtain ⟨fvs, h1, h2, h3⟩ := h
  exact ⟨fvs, e _ _ h1, h2, Reps.mono e _ _ h3⟩
theorem xr_look {K : PySem.W.Frag} {F : Hp} {n : Str} {d : D} : ∀ {fs : List (Str × D)} {fvs : List (Str × V)}, fvs.map (·.1) = fs.map (·.1) → Reps K F (fs.map (·.2)) (fvs.map (·.2)) → fs.lookup n = some d → ∃ v, fvs.lookup n = some v ∧ Rep K F d v
  | [], _, _, _, h => by cases h
  | (a, x) :: fs, [], h1, _, _ => by cases h1
  | (a, x) :: fs, (b, y) :: fvs, h1, h2, h => by
    have ha : b = a := (List.cons.inj h1).1
    have h1' := (List.cons.inj h1).2
    subst ha
    obtain ⟨w, r, e, g1, g2⟩ := h2.cons_of
    obtain ⟨rfl, rfl⟩ := List.cons.inj e
    rw [List.lookup_cons] at h ⊢
    cases hb : n == b with
    | true =>
      rw [hb] at h
      cases h
      exact ⟨_, rfl, g1⟩
    | false =>
      rw [hb] at h
      exact xr_look h1' g2 h
/-! ### what raises -/
/-- it raises an error of the class C with these fields, the frame then being ρ' -/
def tX (K : PySem.W.Frag) (G : Gx) (ρ ρ' : DL.Env) (C : Addr) (fs : List (Str × D)) (W : WX) : L2.St → Hp → Prop := fun σ H => ∃ F, ER K G F H σ ρ ∧ ∀ F' H' σ' dd, Ext F F' → ER K G F' H' σ' ρ' → XR K F' dd fs → W (.ref C) (some dd) σ' H'
section
variable {X : Cx} {G : Gx} {ρ ρ1 ρ2 : DL.Env} {C : Addr} {fs : List (Str × D)} {W : WX} {st : Stmt} {rest sts els : List Stmt} {e c : Expr} {pos : Pos}
theorem bx_cons (h : SD X G st ρ (fun o => o = .nx ρ1)) (hr : PSs X rest (fun _ => tX X.K G ρ1 ρ2 C fs W)) : PSs X (st :: rest) (fun _ => tX X.K G ρ ρ2 C fs W) := by
  refine pss_mono (pss_cons h hr) fun D σ H ⟨F, E, q⟩ => ⟨F, E, fun ρ' F' H' σ' hp e1 E1 => ?_, fun r ρ' F' H' σ' v hp => (by cases hp), fun ρ' F' H' σ' hp => (by cases hp), fun ρ' F' H' σ' hp => (by cases hp)⟩
  cases hp
  exact ⟨F', E1, fun F2 H2 σ2 dd e2 E2 x => q F2 H2 σ2 dd (e1.trans e2) E2 x⟩
theorem bx_last (h : PS X st (fun _ => tX X.K G ρ ρ2 C fs W)) : PSs X (st :: rest) (fun _ => tX X.K G ρ ρ2 C fs W) :=
  pss_mono (pss_cons h (pss_never (sts := rest))) fun D σ H q => q
theorem sx_if (hc : ET X G c ρ ρ1 true) (h : PSs X sts (fun _ => tX X.K G ρ1 ρ2 C fs W)) : PS X (.If c sts els pos) (fun _ => tX X.K G ρ ρ2 C fs W) := by
  refine ps_mono (ps_if (u := tNever) hc h pss_never) fun D σ H ⟨F, E, q⟩ => ⟨F, E, fun F1 H1 e1 E1 => ?_⟩
  show tX X.K G ρ1 ρ2 C fs W σ H1
  exact ⟨F1, E1, fun F2 H2 σ2 dd e2 E2 x => q F2 H2 σ2 dd (e1.trans e2) E2 x⟩
end
end DL
/-! HE6: an own error with fields is made and raised; defs that raise. -/
namespace DL
open PySem PySem.Spec L2 L2H PyProof.Rows HE
/-! ### C(e, ..), its context None -/
theorem pmkN {X : Cx} {CX : CXT} {x : Str} {e : Expr} {es : List Expr} {ta : TA} {p pos : Pos} {C fI : Addr} {k : Nat} {fd : FuncData} {ps : List Str} {sp : Sp} (T : OexC X.K C) (iC : PySem.W.findIn X.K (.ref C) "__init__" = some (some (.ref fI))) (tI : PySem.W.typeIn X.K (.ref fI) = some (.type "function"))
    (F1 : FnOk X.prog X.w X.K X.mg X.base CX k fI fd ps sp) (hr : Room (k + 1) X.A) (hb : Binds X.K fd ps []) (hx : Passes CX X (fun _ _ _ => False)) (hg : Gl X x) (hm : X.mg x = some (.ref C)) (ha : PA X (e :: es) ta)
    (hdb : (x == ("__debug__" : Str)) = false := by decide) (he : starEach (e :: es) X.env = (false, eval e X.env) :: starEach es X.env := by rfl) (hpl : (backTo pos (starEach es X.env)).any (·.1) = false := by rfl) :
    L2N.PMk X (.Call (.Name x p) (e :: es) [] pos) (tMkO C sp [] ta) := by
  intro pins s σ H Q I h
  obtain ⟨_, _, _, _, bm, _, _, _, _, _, _, _, _, _, _, hC, hbm⟩ := T.cls
  refine wpAny_Call_Name_kw (ld_glob I hg hm (PySem.W.callWith_K (h₀ := X.base) I.ok.mod.kin T.kC (thn (ha.run pos pins s σ H _ I h) fun us s1 ⟨vs, H1, I1, r1, hz, q1⟩ => ⟨I1.kIn, ?_⟩) he hpl) hdb)
  show wpAny _ _ (call (.ref C) us) _ _ _
  rcases s1 with ⟨hp, g, dr, tk, os⟩
  -- the place of the new error
  obtain ⟨a, ea0⟩ : ∃ a, hp.objs.size + 1 = a := ⟨_, rfl⟩
  have ha1 : hp.objs.size ≤ a := by omega
  have hq := q1 a (I1.hok.fresh ha1)
  rw [List.append_nil] at hq
  have old : ∀ b o, hp.get? b = some o → ((hp.push (PySem.W.kdv_tup us)).push (PySem.HandSPX.excO C hp.objs.size)).get? b = some o := fun b o e => Heap.get?_push_of_some _ (Heap.get?_push_of_some _ e)
  have new : ((hp.push (PySem.W.kdv_tup us)).push (PySem.HandSPX.excO C hp.objs.size)).get? a = some (PySem.HandSPX.excO C hp.objs.size) := by rw [← ea0]; heap_get
  have I2 := I1.laid (t' := tk) old ha1 (exo_ok (P := X.prog) (w := X.w) (H := upd H1 a (exo a C none)) new)
  have r2 : Vals (V.ref a :: vs) (Value.ref a :: us) := .cons rfl r1
  have hl : (Value.ref a :: us).length = ps.length := by rw [← r2.length]; exact F1.len _ _ _ _ hq
  have b2 := hb _ (Value.ref a :: us) I2.kIn (by rw [List.append_nil]; exact hl)
  rw [List.append_nil] at b2
  have hus : us.length ≤ sizeLine := by
    rw [← Paired.length r1, sizeLine_eq]; omega
  refine wpAny_call (PySem.HandSPX.call_own F.excBase_ValueError (fun Y => PySem.HandSPX.refsVE_contains Y bm hbm) (I1.kIn _ _ hC) (PySem.W.looks_findIn I1.kIn iC) (fun self => PySem.W.bind_fn I1.kIn self tI) hus ?_)
  rw [ea0]
  refine codeAny_mono (F1.run _ X.stack _ _ ⟨Value.ref a :: us, []⟩ (Value.ref a :: us) _ _ (fun _ _ _ => False) (hr.make C us []) (I2.env0.make C us []) b2 r2 hq) fun r s' hq' => ?_
  match r, hq' with
  | .error er, hq' => exact hx pins σ _ _ er s' I2 hq'
  | .ok (.ret u), hq' =>
    obtain ⟨v, H2, os2, bare2, un2, hok2, rv, rfl, d, fs, ea, ed, hd1, q2⟩ := hq'
    rcases s' with ⟨h2, g2, d2, t2, os'⟩
    obtain ⟨t0, G, J, kG, ge, hoe, na⟩ := mk_end0 (d2 := d2) (t2 := t2) I1 ha1 old un2 hok2 os2 bare2 ea ed hd1
    exact ⟨rv, a, _, _, ⟨G, g2, d2, t2, os'⟩, _, .ref C, some d, rfl, J, kG, ge, hoe, ⟨rfl, rfl, fun vs hv => by cases hv; rfl⟩, rfl, rfl, na, rfl, bare2, raises_own T.exC T.tyC, q2⟩
  | .ok .next, hq' => exact hq'.elim
  | .ok .brk, hq' => exact hq'.elim
  | .ok .cont, hq' => exact hq'.elim
end DL
/-! HE7: the __init__ of an own error that keeps its code and one value; raise. -/
namespace DL
open PySem PySem.Spec L2 L2H PyProof.Rows HE
def spI1 (C : Addr) (cn f : Str) : Sp := fun vs H Q _ => ∃ a v, vs = [.ref a, v] ∧ H a = some (exo a C none) ∧ ∀ d, H d = none → d ≠ a → Q .non (upd (upd H d (exd d [(f, v), ("code", .str cn)])) a (exo a C (some d)))
section
variable {P : Program} {w : World} {K : PySem.W.Frag} {mg : Str → Option Value} {base : Heap}
theorem init1 {qual y cn f : Str} {st : Stmt} {fI C : Addr} {fd : FuncData} {j : Nat} {p1 p2 p3 p4 q1 q2 q3 q4 : Pos} (hst : defBody st = [.Assign [.Attribute (.Name "self" p1) "code" p2] (.Constant (.str cn) j p3) p4, .Assign [.Attribute (.Name "self" q1) f q2] (.Name y q3) q4])
    (Fu : Fun K "__init__" qual st fI fd) (S : FnScope ["self", y] ["self", y] (defScope st)) (T : OexC K C) (n1 : PySem.W.findIn K (.ref C) "code" = some none) (n2 : PySem.W.findIn K (.ref C) f = some none)
    (hd : (y == ("__debug__" : Str)) = false := by decide) (hcd : (y == ("__classdict__" : Str)) = false := by decide) : FnOk P w K mg base CX0 1 fI fd ["self", y] (spI1 C cn f) := by
  refine Fu.ok S (fun vs H Q E h => by obtain ⟨a, v, rfl, _⟩ := h; rfl) fun cdv A outer s H vs Q E hr h => ?_
  obtain ⟨a, v, rfl, ha, q⟩ := h
  have vis : ∀ z ∈ ([("self" : Str), y] : List Str), Vis (cxOf CX0 P w K mg base ["self", y] qual (defScope st) fI cdv A outer s H E).nox.env.scope z := fun z hz => (S.par z hz).elim .inl fun h => .inr (.inl h)
  rw [hst]
  refine ⟨_, pss_cons (ps_ost (pe_var (i := 0) rfl (vis _ (by simp))) pe_str (by rfl)) (pss_cons (ps_ost (pe_var (i := 0) rfl (vis _ (by simp))) (pe_var (i := 1) rfl (vis _ (by simp)) hd hcd) (by rfl)) pss_nil), ?_⟩
  refine ⟨.ref a, rfl, a, C, rfl, T, n1, .inl ⟨ha, fun dx hx hne => ?_⟩⟩
  refine ⟨v, rfl, .ref a, rfl, a, C, rfl, T, n2, .inr ⟨dx, _, upd_same, ?_, (Nat.le_of_ble_eq_true rfl : ([(("code" : Str), V.str cn)] : List (Str × V)).length ≤ 900), ?_⟩⟩
  · rw [upd_ne hne]; exact upd_same
  · have e : upd (upd (upd H dx (exd dx [("code", V.str cn)])) a (exo a C (some dx))) dx (exd dx [(f, v), ("code", V.str cn)]) = upd (upd H dx (exd dx [(f, v), ("code", V.str cn)])) a (exo a C (some dx)) := by
      funext b
      by_cases hb : b = dx
      · subst hb; rw [upd_same, upd_ne hne, upd_same]
      · rw [upd_ne hb]
        by_cases h2 : b = a
        · subst h2; rw [upd_same, upd_same]
        · rw [upd_ne h2, upd_ne h2, upd_ne hb, upd_ne hb]
    show Q .non _
    rw [e]
    exact q dx hx hne
end
end DL
/-! HE8: raise C(e); defs that raise; calls of them. -/
namespace DL
open PySem PySem.Spec L2 L2H PyProof.Rows HE
section
variable {X : Cx} {G : Gx} {e a b c : Expr} {ρ ρ' ρ1 ρ2 : DL.Env} {s : Slot} {d : D} {pos p p2 : Pos} {n x : Str} {xs : List Expr} {k kk j : Nat} {as : List ArgS} {args : List Slot} {ps : List Str} {kws : List Keyword} {C fI : Addr} {fd : FuncData} {fs : List (Str × D)} {W : WX} {cn f y : Str}
/-- C(e): an error that bears its code and one value -/
theorem pmk1 (T : OexC X.K C) (iC : PySem.W.findIn X.K (.ref C) "__init__" = some (some (.ref fI))) (tI : PySem.W.typeIn X.K (.ref fI) = some (.type "function")) (F1 : FnOk X.prog X.w X.K X.mg X.base CX0 k fI fd ["self", y] (spI1 C cn f)) (hr : Room (k + 1) X.A) (hb : Binds X.K fd ["self", y] [])
    (hg : Gl X x) (hm : X.mg x = some (.ref C)) (he : ED X G e ρ ρ1 s) (hd : ToV s d) (hdb : (x == ("__debug__" : Str)) = false := by decide) (hst : starEach [e] X.env = (false, eval e X.env) :: starEach [] X.env := by rfl) (hpl : (backTo pos (starEach [] X.env)).any (·.1) = false := by rfl) :
    L2N.PMk X (.Call (.Name x p) [e] [] pos) (fun σ H Q => ∃ F, ER X.K G F H σ ρ ∧ ∀ F' H' dd, Ext F F' → ER X.K G F' H' σ ρ1 → XR X.K F' dd [(f, d), ("code", .str cn)] → Q (.ref C) (some dd) H') := by
  intro pins st σ H Q I ⟨F, E, q⟩
  refine pmkN T iC tI F1 hr hb pass0 hg hm (ea_one (ed_toV he hd) hst) hdb hst hpl pins st σ H Q I ⟨F, E, fun F1 H1 v e1 E1 r1 => ⟨by show 1 ≤ 1000; decide, fun a hn => ?_⟩⟩
  refine ⟨a, v, rfl, upd_same, fun dx hx hne => ⟨rfl, dx, [(f, v), ("code", .str cn)], upd_same, ?_, ?_, ?_⟩⟩
  · rw [upd_ne hne]; exact upd_same
  · rwa [upd_ne hne] at hx
  · rw [upd_ne hne] at hx
    have eq : upd (del (upd (upd (upd H1 a (exo a C none)) dx (exd dx [(f, v), ("code", V.str cn)])) a (exo a C (some dx))) a) dx (.xd [(f, v), ("code", V.str cn)]) = upd H1 dx (.xd [(f, v), ("code", V.str cn)]) := by
      funext b
      by_cases hb : b = dx
      · subst hb; rw [upd_same, upd_same]
      · rw [upd_ne hb, upd_ne hb]
        by_cases h2 : b = a
        · subst h2; rw [del_same, hn]
        · rw [del_ne h2, upd_ne h2, upd_ne hb, upd_ne h2]
    rw [eq]
    have e2 := Ext.lay (o := HO.xd [(f, v), ("code", V.str cn)]) (E1.sub.free hx)
    refine q (upd F1 dx (.xd [(f, v), ("code", V.str cn)])) _ dx (e1.trans e2) (E1.lay hx) ⟨_, upd_same, rfl, .cons ?_ (.cons ?_ .nil)⟩
    · exact Rep.mono e2 _ _ (show Rep X.K F1 d v from r1)
    · exact rep_str.mpr rfl
theorem sx_raise (hc : X.calm = true) (tk : L2N.Takes X W) (h : L2N.PMk X e (fun σ H Q => ∃ F, ER X.K G F H σ ρ ∧ ∀ F' H' dd, Ext F F' → ER X.K G F' H' σ ρ1 → XR X.K F' dd fs → Q (.ref C) (some dd) H')) : PS X (.Raise (some e) none pos) (fun _ => tX X.K G ρ ρ1 C fs W) :=
  ps_mono (L2N.ps_raise hc tk h) fun D σ H ⟨F, E, q⟩ => ⟨F, E, fun F' H' dd e' E' x => q F' H' σ dd e' E' x⟩
/-- a def that raises on arguments that it doesn't change -/
def spX (K : PySem.W.Frag) (args : List Slot) (C : Addr) (fs : List (Str × D)) : Sp := fun vs H _ E => vs.length = args.length ∧ ∃ F, ER K (callG F H vs args) F H (vs.map some) (args.map some) ∧
  ∀ F' H' dd, Ext F F' → ER K (callG F H vs args) F' H' (vs.map some) (args.map some) → XR K F' dd fs → E (.ref C) (some dd) H'
/-- back from a call that changed none of its arguments -/
theorem call_back0 {K : PySem.W.Frag} {F1 H1 F2 H2 : Hp} {σ : L2.St} {vs : List V} (E1 : ER K G F1 H1 σ ρ1) (ha : AsR K G F1 σ as vs) (ht : ArgsTo ρ1 as args) (nd : (varsOf as).Nodup) (no : ∀ (i : Nat) (ds : List DL.D), args[i]? ≠ some (Slot.own ds))
    (e2 : Ext F1 F2) (E2 : ER K (callG F1 H1 vs args) F2 H2 (vs.map some) (args.map some)) : ER K G F2 H2 σ ρ1 := by
  obtain ⟨Ec, hE, hO⟩ := call_env E1 ha ht nd
  refine ⟨E1.ext.trans e2, E2.sub, fun b o h => ?_, fun b o h => E2.keep b o (hE false b o h), fun b o h => ?_, E1.arg, fun i k d h => ?_, fun i es h => ?_, E1.inj, E1.len⟩
  · rcases E2.new b o h with h | h
    · exact E1.new b o h
    · exact .inr (E1.h0 h)
  · obtain ⟨u, hu⟩ := E1.there b o h
    exact E2.there b u hu
  · obtain ⟨v, g1, g2⟩ := E1.val i k d h
    exact ⟨v, g1, Rep.mono (at_ext e2) _ _ g2⟩
  · obtain ⟨a, ws, m1, m2, m3, m4, m5⟩ := E1.own i es h
    have hw : (callG F1 H1 vs args).Hv a = some (.lst ws) := hO i es h (fun l ds _ z2 => no l ds z2) a _ m1 m2
    refine ⟨a, ws, m1, E2.keep _ _ hw, ?_, m4, Reps.mono e2 _ _ m5⟩
    cases y : F2 a with
    | none => rfl
    | some o =>
      rcases E2.new a o y with y | y
      · rw [show F1 a = some o from y] at m3; cases m3
      · rw [show H1 a = none from y] at m2; cases m2
theorem spX_of {K : PySem.W.Frag} {F0 F1 H1 : Hp} {σ : L2.St} {vs : List V} {Q : VK} (E1 : ER K G F1 H1 σ ρ1) (e1 : Ext F0 F1) (ha : AsR K G F1 σ as vs) (ht : ArgsTo ρ1 as args) (nd : (varsOf as).Nodup) (no : ∀ (i : Nat) (ds : List DL.D), args[i]? ≠ some (Slot.own ds))
    (q : ∀ F' H' σ' dd, Ext F0 F' → ER K G F' H' σ' ρ1 → XR K F' dd fs → W (.ref C) (some dd) σ' H') : spX K args C fs vs H1 Q (WE W σ) :=
  ⟨ha.len.trans ht.len, F1, (call_env E1 ha ht nd).1, fun F2 H2 dd e2 E2 x => q F2 H2 σ dd (e1.trans e2) (call_back0 E1 ha ht nd no e2 E2) x⟩
theorem ex_call {f : Addr} (Fo : FnOk X.prog X.w X.K X.mg X.base (L2N.CX X.prog X.w) kk f fd ps (spX X.K args C fs)) (tk : L2N.Takes X W) (hr : Room kk X.A) (hg : Gl X n) (hm : X.mg n = some (.ref f)) (hk : PySem.W.keepIn X.K (.ref f) = true) (hb : Binds X.K fd ps [])
    (ha : EAs X G (a :: xs) ρ ρ1 as) (ht : ArgsTo ρ1 as args) (nd : (varsOf as).Nodup) (no : ∀ (i : Nat) (ds : List DL.D), args[i]? ≠ some (Slot.own ds)) (hdb : (n == ("__debug__" : Str)) = false := by decide)
    (he : starEach (a :: xs) X.env = (false, eval a X.env) :: starEach xs X.env := by rfl) (hpl : (backTo pos (starEach xs X.env)).any (·.1) = false := by rfl) : PE X (.Call (.Name n p) (a :: xs) [] pos) (fun σ H _ => tX X.K G ρ ρ1 C fs W σ H) :=
  pe_mono (pe_callS (E := WE W) Fo hr hg hm hk hb (fun σ => L2N.passAt tk σ) ha hdb he hpl) fun σ H Q ⟨F, E, q⟩ => ⟨F, E, fun F1 H1 vs e1 E1 r1 => spX_of E1 e1 r1 ht nd no q⟩
/-- with all parameters by keywords, in their order -/
theorem ex_callK {f : Addr} (Fo : FnOk X.prog X.w X.K X.mg X.base (L2N.CX X.prog X.w) kk f fd ps (spX X.K args C fs)) (tk : L2N.Takes X W) (hr : Room kk X.A) (hg : Gl X n) (hm : X.mg n = some (.ref f)) (hk : PySem.W.keepIn X.K (.ref f) = true) (hb : KB0 X.K fd ps)
    (ha : EKs X G kws ρ ρ1 as) (ht : ArgsTo ρ1 as args) (nd : (varsOf as).Nodup) (no : ∀ (i : Nat) (ds : List DL.D), args[i]? ≠ some (Slot.own ds))
    (hall : (backToKw pos (keywordEach kws X.env)).all (·.1.isSome) = true := by rfl) (hks : (backToKw pos (keywordEach kws X.env)).filterMap (·.1) = ps := by rfl)
    (hdb : (n == ("__debug__" : Str)) = false := by decide) (hpl : ((backTo pos (starEach [] X.env)).any (·.1) || (backToKw pos (keywordEach kws X.env)).any (·.1.isNone)) = false := by rfl) : PE X (.Call (.Name n p) [] kws pos) (fun σ H _ => tX X.K G ρ ρ1 C fs W σ H) := by
  refine ⟨fun pins s σ H Q I ⟨F, E, q⟩ => ?_⟩
  refine wpAny_Call_Name_kw (ld_glob I hg hm ?_ hdb)
  refine PySem.W.callWith_KW0 (h₀ := X.base) I.ok.mod.kin hk hall (thn (ha.run pos pins s σ H _ I ⟨F, E, fun F1 H1 vs e1 E1 r1 => spX_of (Q := Q) E1 e1 r1 ht nd no q⟩) fun ws s2 ⟨zs, H2, I2, rz, q2⟩ => ⟨I2.kIn, ?_⟩) hpl
  rw [hks]
  have hl : ws.length = ps.length := by rw [← rz.length]; exact Fo.len _ _ _ _ q2
  refine wpAny_call (codeAny_mono (Fo.run X.A X.stack s2 H2 ⟨[], ps.zip ws⟩ ws zs Q (WE W σ) hr I2.env0 (hb.to s2 ws I2.kIn hl) rz q2) fun r s' hq => ?_)
  match r, hq with
  | .error er, hq => exact L2N.passAt tk σ pins H2 s2 er s' I2 hq
  | .ok (.ret u), hq => exact I2.after hq
  | .ok .next, hq => exact hq.elim
  | .ok .brk, hq => exact hq.elim
  | .ok .cont, hq => exact hq.elim
end
section
variable {P : Program} {w : World} {K : PySem.W.Frag} {mg : Str → Option Value} {base : Heap}
theorem start_ER {N ps : List Str} {args : List Slot} {vs : List V} {F H : Hp} (hN : N.take ps.length = ps) (hl : args.length = ps.length) (hv : vs.length = args.length) (E0 : ER K (callG F H vs args) F H (vs.map some) (args.map some)) : ER K (callG F H vs args) F H (L2.start N vs) (startE N args) := by
  have hN : vs.length ≤ N.length := by
    have h2 : (N.take ps.length).length = ps.length := by rw [hN]
    rw [List.length_take] at h2
    omega
  refine ⟨E0.ext, E0.sub, E0.new, E0.keep, E0.there, fun i hi => ?_, fun i k d hi => ?_, fun i ds hi => ?_, fun i j a ds es n h1 h2 s1 s2 => ?_, ?_⟩
  · obtain ⟨v, h1, h2⟩ := E0.arg i hi
    exact ⟨v, h1, start_get (map_some_get.mp h2)⟩
  · obtain ⟨v, h1, h2⟩ := E0.val i k d (map_some_get.mpr (startE_get hi))
    exact ⟨v, start_get (map_some_get.mp h1), h2⟩
  · obtain ⟨a, ws, h1, h2⟩ := E0.own i ds (map_some_get.mpr (startE_get hi))
    exact ⟨a, ws, start_get (map_some_get.mp h1), h2⟩
  · obtain ⟨a1, _, z1, _⟩ := E0.own i ds (map_some_get.mpr (startE_get h1))
    obtain ⟨a2, _, z2, _⟩ := E0.own j es (map_some_get.mpr (startE_get h2))
    rw [start_get (map_some_get.mp z1)] at s1; cases s1
    rw [start_get (map_some_get.mp z2)] at s2; cases s2
    exact E0.inj i j a ds es n (map_some_get.mpr (startE_get h1)) (map_some_get.mpr (startE_get h2)) z1 z2
  · simp only [L2.start, startE, List.length_append, List.length_map, List.length_replicate]
    omega
theorem fnDX {x qual : Str} {st : Stmt} {f C : Addr} {fd : FuncData} {N ps : List Str} {k : Nat} {args : List Slot} {fs : List (Str × D)} (Fu : Fun K x qual st f fd) (S : FnScope N ps (defScope st)) (hl : args.length = ps.length) (no : ∀ (i : Nat) (ds : List DL.D), args[i]? ≠ some (Slot.own ds))
    (hbody : ∀ (cdv : Value) (A : Around) (outer : List PySem.Env) (s : Shared) (H F0 : Hp) (vs : List V) (E : XK) (W : WX), Room k (A.deeper (envOfC qual (defScope st) s.heap.objs.size f cdv)) → L2N.Takes (cxOf (L2N.CX P w) P w K mg base N qual (defScope st) f cdv A outer s H E) W →
      ∃ ρ2, PSs (cxOf (L2N.CX P w) P w K mg base N qual (defScope st) f cdv A outer s H E) (defBody st) (fun _ => tX K (callG F0 H vs args) (startE N args) ρ2 C fs W)) : FnOk P w K mg base (L2N.CX P w) (k + 1) f fd ps (spX K args C fs) := by
  obtain ⟨oc, od, kV, doc, pm, an, cdv, ct, osl, rfl, lk, hcd⟩ := Fu.ex
  refine fn_of lk hcd S (fun vs H Q E h => h.1.trans hl) fun A outer s H vs Q E hr hsp => ?_
  obtain ⟨hv, F, E0, q⟩ := hsp
  obtain ⟨ρ2, hb⟩ := hbody cdv A outer s H F vs E (fun cls d _ H => E cls d H) hr (L2N.takes_of rfl rfl rfl rfl)
  refine ⟨_, hb, F, start_ER S.pre hl hv E0, fun F' H' σ' dd e E1 x => ?_⟩
  have ho : OwnTo args args := ⟨rfl, fun i s hs => ⟨fun z => by cases s with | v k d => cases z | own ds => exact absurd hs (no i ds), fun _ => hs⟩⟩
  exact q F' H' dd e (end_env ho E0 e E1 fun i ds h => absurd h (no i ds)).1 x
end
end DL
/-! HE9: try: body, except x as n: suite. -/
namespace DL
open PySem PySem.Spec L2 L2H PyProof.Rows HE
/-- the frame as the suite finds it: the error at slot i -/
def xG (F H : Hp) (σ : L2.St) (ρ : DL.Env) (i : Nat) (a : Addr) : Gx := ⟨F, H, (σ.set i (some (.ref a))).map (·.getD .non), (maskE ρ).set i true⟩
/-- what is left of a frame behind the suite -/
def ownE (ρ : DL.Env) : DL.Env := ρ.map fun o => match o with | some (.own ds) => some (.own ds) | some (.v true d) => some (.v true d) | _ => none
theorem ownE_own {ρ : DL.Env} {i : Nat} {ds : List D} (h : (ownE ρ)[i]? = some (some (.own ds))) : ρ[i]? = some (some (.own ds)) := by
  unfold ownE at h
  rw [List.getElem?_map] at h
  cases q : ρ[i]? with
  | none => rw [q] at h; cases h
  | some o =>
    rw [q] at h
    match o, h with
    | some (.own es), h => cases h; rfl
    | some (.v true d), h => cases h
    | some (.v false d), h => cases h
    | none, h => cases h
theorem ownE_val {ρ : DL.Env} {i : Nat} {k : Bool} {d : D} (h : (ownE ρ)[i]? = some (some (.v k d))) : k = true ∧ ρ[i]? = some (some (.v true d)) := by
  unfold ownE at h
  rw [List.getElem?_map] at h
  cases q : ρ[i]? with
  | none => rw [q] at h; cases h
  | some o =>
    rw [q] at h
    match o, h with
    | some (.own es), h => cases h
    | some (.v true d), h => cases h; exact ⟨rfl, rfl⟩
    | some (.v false d), h => cases h
    | none, h => cases h
section
variable {K : PySem.W.Frag} {G : Gx} {F H F2 H2 : Hp} {σ σ2 : L2.St} {ρ ρ2 : DL.Env} {i : Nat} {a : Addr}
theorem xG_vs {j : Nat} {v : V} (hj : i ≠ j) (h : σ[j]? = some (some v)) : (xG F H σ ρ i a).vs[j]? = some v := by
  show ((σ.set i (some (.ref a))).map (·.getD .non))[j]? = _
  rw [List.getElem?_map, getset_ne hj, h]; rfl
theorem xG_vsi (hi : i < σ.length) : (xG F H σ ρ i a).vs[i]? = some (.ref a) := by
  show ((σ.set i (some (.ref a))).map (·.getD .non))[i]? = _
  rw [List.getElem?_map, List.getElem?_set, if_pos rfl, if_pos hi]; rfl
theorem xG_ms {j : Nat} (h : (xG F H σ ρ i a).ms[j]? = some true) : i = j ∨ (i ≠ j ∧ ∃ ds, ρ[j]? = some (some (.own ds))) := by
  by_cases q : i = j
  · exact .inl q
  · have h : ((maskE ρ).set i true)[j]? = some true := h
    rw [getset_ne q] at h
    exact .inr ⟨q, maskE_own h⟩
theorem xG_at (E : ER K G F H σ ρ) (ha : H a = none) (hi : i < ρ.length) (k : Bool) : Ext (G.at F k) ((xG F H σ ρ i a).at F k) := by
  cases k with
  | true => exact Ext.refl _
  | false =>
    intro b o h
    refine Gx.h0_hv (G := xG F H σ ρ i a) (E.keep b o h) fun j hj hv => ?_
    rcases xG_ms hj with rfl | ⟨nj, ds, hd⟩
    · rw [xG_vsi (by rw [E.len]; exact hi)] at hv
      cases hv
      rw [E.keep _ o h] at ha; cases ha
    · obtain ⟨a', vs, h1, h2, h3, h4, h5⟩ := E.own j ds hd
      rw [xG_vs nj h1] at hv
      cases hv
      rcases h4 with h4 | h4
      · rw [Gx.hv_h0 h] at h4; cases h4
      · obtain ⟨v, z1, z2⟩ := E.arg j h4
        rw [h1] at z2; cases z2
        exact Gx.hv_ne h h4 z1
theorem ER.rebX (E : ER K G F H σ ρ) (ha : H a = none) (hi : i < ρ.length) : ER K (xG F H σ ρ i a) F H (σ.set i (some (.ref a))) (ρ.set i none) := by
  have get {j : Nat} {s : Slot} (h : (ρ.set i none)[j]? = some (some s)) : i ≠ j ∧ ρ[j]? = some (some s) := by
    by_cases q : i = j
    · subst q
      rw [List.getElem?_set, if_pos rfl, if_pos hi] at h; cases h
    · rw [getset_ne q] at h; exact ⟨q, h⟩
  refine ⟨Ext.refl _, E.sub, fun b o h => .inl h, fun b o h => Gx.hv_h0 h, fun b o h => ⟨o, h⟩, fun j hj => ?_, fun j k d hj => ?_, fun j ds hj => ?_, fun j l b ds es n h1 h2 s1 s2 => ?_, by rw [List.length_set, List.length_set]; exact E.len⟩
  · rcases xG_ms hj with rfl | ⟨nj, ds, hd⟩
    · exact ⟨_, xG_vsi (by rw [E.len]; exact hi), by rw [List.getElem?_set, if_pos rfl, if_pos (by rw [E.len]; exact hi)]⟩
    · obtain ⟨a', vs, h1, _⟩ := E.own j ds hd
      exact ⟨_, xG_vs nj h1, by rw [getset_ne nj]; exact h1⟩
  · obtain ⟨nj, h⟩ := get hj
    obtain ⟨v, h1, h2⟩ := E.val j k d h
    exact ⟨v, by rw [getset_ne nj]; exact h1, Rep.mono (xG_at E ha hi k) _ _ h2⟩
  · obtain ⟨nj, h⟩ := get hj
    obtain ⟨a', vs, h1, h2, h3, h4, h5⟩ := E.own j ds h
    refine ⟨a', vs, by rw [getset_ne nj]; exact h1, h2, h3, .inr ?_, h5⟩
    show ((maskE ρ).set i true)[j]? = some true
    rw [getset_ne nj]; exact own_maskE h
  · obtain ⟨n1, g1⟩ := get h1
    obtain ⟨n2, g2⟩ := get h2
    rw [getset_ne n1] at s1
    rw [getset_ne n2] at s2
    exact E.inj j l b ds es n g1 g2 s1 s2
/-- back from the suite -/
theorem ER.unX (E : ER K G F H σ ρ) (E2 : ER K (xG F H σ ρ i a) F2 H2 σ2 ρ2) (e : Ext F F2) (ha : H a = none) (hi : i < ρ.length) (h2 : ∀ ds, ρ2[i]? ≠ some (some (.own ds))) (hm : ∀ j, G.ms[j]? = some true → i ≠ j ∧ ∃ ds, ρ[j]? = some (some (.own ds))) : ER K G F2 H2 σ2 (ownE ρ2) := by
  have same {j : Nat} {ds : List D} {v : V} (nj : i ≠ j) (h : ρ[j]? = some (some (.own ds))) (hv : σ[j]? = some (some v)) : σ2[j]? = some (some v) := by
    obtain ⟨w, z1, z2⟩ := E2.arg j (by
      show ((maskE ρ).set i true)[j]? = some true
      rw [getset_ne nj]; exact own_maskE h)
    rw [xG_vs nj hv] at z1; cases z1
    exact z2
  refine ⟨E.ext.trans e, E2.sub, fun b o h => ?_, fun b o h => E2.keep b o (xG_at E ha hi false b o h), fun b o h => ?_, fun j hj => ?_, fun j k d hj => ?_, fun j ds hj => ?_, fun j l b ds es n h1 h2 s1 s2 => E2.inj j l b ds es n (ownE_own h1) (ownE_own h2) s1 s2, by rw [E2.len]; unfold ownE; rw [List.length_map]⟩
  · rcases E2.new b o h with h | h
    · exact E.new b o h
    · exact .inr (E.h0 h)
  · obtain ⟨u, hu⟩ := E.there b o h
    exact E2.there b u hu
  · obtain ⟨v, z1, z2⟩ := E.arg j hj
    obtain ⟨nj, ds, hd⟩ := hm j hj
    exact ⟨v, z1, same nj hd z2⟩
  · obtain ⟨rfl, h⟩ := ownE_val hj
    exact E2.val j true d h
  · have h := ownE_own hj
    obtain ⟨a', ws, g1, g2, g3, g4, g5⟩ := E2.own j ds h
    refine ⟨a', ws, g1, g2, g3, ?_, g5⟩
    rcases g4 with g4 | g4
    · exact .inl (E.h0 g4)
    · rcases xG_ms g4 with rfl | ⟨nj, es, hd⟩
      · exact absurd h (h2 ds)
      · obtain ⟨a0, vs, k1, k2, k3, k4, k5⟩ := E.own j es hd
        rw [same nj hd k1] at g1; cases g1
        exact k4
theorem ER.gone (E : ER K G F H σ ρ) (hm : G.ms[i]? ≠ some true) : ER K G F H (σ.set i none) (ρ.set i none) := by
  have get {j : Nat} {s : Slot} (h : (ρ.set i none)[j]? = some (some s)) : i ≠ j ∧ ρ[j]? = some (some s) := by
    by_cases q : i = j
    · subst q
      rw [List.getElem?_set, if_pos rfl] at h
      split at h <;> cases h
    · rw [getset_ne q] at h; exact ⟨q, h⟩
  refine ⟨E.ext, E.sub, E.new, E.keep, E.there, fun j hj => ?_, fun j k d hj => ?_, fun j ds hj => ?_, fun j l b ds es n h1 h2 s1 s2 => ?_, by rw [List.length_set, List.length_set]; exact E.len⟩
  · have nj : i ≠ j := fun q => by subst q; exact hm hj
    rw [getset_ne nj]; exact E.arg j hj
  · obtain ⟨nj, h⟩ := get hj
    rw [getset_ne nj]; exact E.val j k d h
  · obtain ⟨nj, h⟩ := get hj
    rw [getset_ne nj]; exact E.own j ds h
  · obtain ⟨n1, g1⟩ := get h1
    obtain ⟨n2, g2⟩ := get h2
    rw [getset_ne n1] at s1
    rw [getset_ne n2] at s2
    exact E.inj j l b ds es n g1 g2 s1 s2
end
/-- what must hold behind the suite -/
def suP (i : Nat) (P : Out → Prop) : Out → Prop
  | .ret r ρ' => (∃ d, r = .val d) ∧ (∀ ds, ρ'[i]? ≠ some (some (.own ds))) ∧ P (.ret r (ownE ρ'))
  | .nx ρ' => (∀ ds, ρ'[i]? ≠ some (some (.own ds))) ∧ P (.nx ((ownE ρ').set i none))
  | _ => False
section
variable {X : Cx} {G : Gx} {ρ ρ1 : DL.Env} {P : Out → Prop} {x n : Str} {c : Value} {i : Nat} {body suite : List Stmt} {b₀ : Stmt} {np pos pos' : Pos} {C : Addr} {fs : List (Str × D)}
/-- the body raises, the suite takes it -/
theorem sd_tryX (hs : X.stack = X.env :: X.outer) (hf : X.env.frame = some X.env.locals) (hN : X.N.Nodup) (hi : X.N[i]? = some n) (hln : X.env.kindOf n = some .local) (hc : Names X x c) (hmt : PySem.W.exmOne X.K (.ref C) c = some true) (hl : i < ρ1.length)
    (hb : ∀ (W : WX) (pn : List (Addr × Obj)) (xe : Value → Shared → Prop), L2N.Takes (X.tr pn xe) W → PassesOwn (model X.prog X.w) X.A X.env xe → PSs (X.tr pn xe) body (fun _ => tX X.K G ρ ρ1 C fs W))
    (hm : ∀ j, G.ms[j]? = some true → i ≠ j ∧ ∃ ds, ρ1[j]? = some (some (.own ds)))
    (hsu : ∀ (a : Addr) (oe : Obj) (dd : Addr) (pn : List (Addr × Obj)) (F1 H1 : Hp) (σ1 : L2.St), i < σ1.length → L2N.Zn (.ref C) (some dd) oe → (∃ vs, oe.data = .fields vs) → XR X.K F1 dd fs → BD (X.suite a ((a, oe) :: pn)) (xG F1 H1 σ1 ρ1 i a) (b₀ :: suite) (ρ1.set i none) (suP i P)) :
    SD X G (.Try body [.ExceptHandler (some (.Name x np)) (some n) (b₀ :: suite) pos'] [] [] pos) ρ P := by
  let ts : Addr → Value → Option Addr → TS := fun a cls d D σ H => ∃ q : Hp × Hp × L2.St × Addr, (cls = .ref C ∧ d = some q.2.2.2 ∧ i < q.2.2.1.length ∧ XR X.K q.1 q.2.2.2 fs) ∧ tS X.K (xG q.1 q.2.1 q.2.2.1 ρ1 i a) (ρ1.set i none) (suP i P) D σ H
  refine ps_mono (L2N.ps_try_as (Wout := fun _ _ _ _ => False) (ts := ts) (tb := fun W _ => tX X.K G ρ ρ1 C fs W) hs hf hN hi hln hc (fun u s' z => ?_) hb fun a oe cls d pn hz hd => pss_any (p := fun q : Hp × Hp × L2.St × Addr => cls = .ref C ∧ d = some q.2.2.2 ∧ i < q.2.2.1.length ∧ XR X.K q.1 q.2.2.2 fs) fun q hq => ?_) fun D σ H ⟨F, E, q1, q2, q3, q4⟩ => ⟨F, E, fun F1 H1 σ1 dd e1 E1 xr => ⟨true, hmt, fun _ a ha => ?_, fun h => (by cases h)⟩⟩
  · obtain ⟨_, _, _, _, _, _, _, _, _, _, _, _, _, _, _, _, w⟩ := z
    exact w.elim
  · obtain ⟨rfl, rfl, hq, xr⟩ := hq
    exact hsu a oe q.2.2.2 pn q.1 q.2.1 q.2.2.1 hq hz hd xr
  · refine ⟨(F1, H1, σ1, dd), ⟨rfl, rfl, by rw [E1.len]; exact hl, xr⟩, F1, E1.rebX ha hl, fun ρ' F' H' σ' hp e' E' => ?_, fun r ρ' F' H' σ' v hp e' E' r' => ?_, fun ρ' F' H' σ' hp => hp.elim, fun ρ' F' H' σ' hp => hp.elim⟩
    · exact q1 _ F' H' _ hp.2 (e1.trans e') ((E1.unX E' e' ha hl hp.1 hm).gone fun z => (hm i z).1 rfl)
    · obtain ⟨⟨d, rfl⟩, h2, h3⟩ := hp
      exact q2 _ _ F' H' σ' v h3 (e1.trans e') (E1.unX E' e' ha hl h2 hm) r'
/-- the body raises nothing -/
theorem sd_tryN (hs : X.stack = X.env :: X.outer) (hf : X.env.frame = some X.env.locals) (hN : X.N.Nodup) (hi : X.N[i]? = some n) (hln : X.env.kindOf n = some .local) (hc : Names X x c)
    (hb : ∀ (pn : List (Addr × Obj)) (xe : Value → Shared → Prop), PassesOwn (model X.prog X.w) X.A X.env xe → BD (X.tr pn xe) G body ρ P) : SD X G (.Try body [.ExceptHandler (some (.Name x np)) (some n) (b₀ :: suite) pos'] [] [] pos) ρ P := by
  refine L2N.ps_try_as (i := i) (c := c) (Wout := fun _ _ _ _ => False) (ts := fun _ _ _ => tNever) (tb := fun W => tS X.K G ρ P) hs hf hN hi hln hc (fun u s' z => ?_) (fun W pn xe _ hp => hb pn xe hp) fun a oe cls d pn hz hd => pss_never
  obtain ⟨_, _, _, _, _, _, _, _, _, _, _, _, _, _, _, _, w⟩ := z
  exact w.elim
end
end DL
/-! HE10: what the suite says of its error. -/
namespace DL
open PySem PySem.Spec L2 L2H PyProof.Rows HE
section
variable {X : Cx} {G : Gx} {ρ : DL.Env} {i : Nat} {a C D2 dd : Addr} {oe : Obj} {pn : List (Addr × Obj)} {n f m : Str} {fs : List (Str × D)} {d : D} {p p2 p3 pos : Pos} {b : Bool}
theorem hot_suite {cls : Value} {d : Option Addr} (hz : L2N.Zn cls d oe) (hf : ∃ vs, oe.data = .fields vs) : Hot1 (X.suite a ((a, oe) :: pn)).A (a, oe) := by
  obtain ⟨vs, h⟩ := hf
  exact ⟨rfl, vs, h, hz.2.2 vs h⟩
/-- error.f -/
theorem ed_xf (T : XfC X.K C) (hno : PySem.W.findIn X.K (.ref C) f = some none) (hz : Zc (.ref C) (some dd) oe) (hf : ∃ vs, oe.data = .fields vs) (hN : X.N[i]? = some n) (hv : Vis X.env.scope n) (hms : G.ms[i]? = some true) (hvs : G.vs[i]? = some (.ref a)) (hx : XR X.K G.F0 dd fs) (hl : fs.lookup f = some d)
    (hd : (n == ("__debug__" : Str)) = false := by decide) (hcd : (n == ("__classdict__" : Str)) = false := by decide) (hb : attributeBase (.Name n p) f X.env (eval (.Name n p) X.env) = eval (.Name n p) X.env := by rfl) : ED (X.suite a ((a, oe) :: pn)) G (.Attribute (.Name n p) f pos) ρ ρ (.val d) :=
  pe_mono (pe_xf (X := X) T hno hz hf (pe_var (X := X.suite a ((a, oe) :: pn)) hN hv hd hcd) hb) fun σ H Q ⟨F, E, q⟩ => by
    obtain ⟨fvs, h1, h2, h3⟩ := hx
    obtain ⟨v, g1, g2⟩ := xr_look h2 h3 hl
    obtain ⟨w, k1, k2⟩ := E.arg i hms
    rw [hvs] at k1; cases k1
    exact ⟨_, k2, rfl, rfl, dd, fvs, v, rfl, E.sub _ _ (E.ext _ _ h1), g1, q F H v (Ext.refl _) E (sr_val (Rep.mono E.ext _ _ g2))⟩
/-- isinstance(error, D2) -/
theorem ed_isE (T : ExcC X.K C) (hz : Zc (.ref C) (some dd) oe) (hf : ∃ vs, oe.data = .fields vs) (hg : Gl X "isinstance") (hm : X.mg "isinstance" = none) (hN : X.N[i]? = some n) (hv : Vis X.env.scope n) (hms : G.ms[i]? = some true) (hvs : G.vs[i]? = some (.ref a)) (hx : XR X.K G.F0 dd fs)
    (hg2 : Gl X m) (hm2 : X.mg m = some (.ref D2)) (hk : PySem.W.kitOne X.K (.ref C) (.ref D2) = some b) (hd : (n == ("__debug__" : Str)) = false := by decide) (hcd : (n == ("__classdict__" : Str)) = false := by decide) (hd2 : (m == ("__debug__" : Str)) = false := by decide)
    (he : starEach [.Name n p2, .Name m p3] X.env = (false, eval (.Name n p2) X.env) :: starEach [.Name m p3] X.env := by rfl) (he2 : starEach [.Name m p3] X.env = (false, eval (.Name m p3) X.env) :: starEach [] X.env := by rfl)
    (hpl : (backTo pos (starEach [.Name m p3] X.env)).any (·.1) = false := by rfl) : ED (X.suite a ((a, oe) :: pn)) G (.Call (.Name "isinstance" p) [.Name n p2, .Name m p3] [] pos) ρ ρ (.val (.bl b)) :=
  pe_mono (pe_callB (X := X.suite a ((a, oe) :: pn)) (call_isEA T hz hf) hg hm boot_isinstance (pa_cons (pe_var (X := X.suite a ((a, oe) :: pn)) hN hv hd hcd) (pa_cons (pe_glob (v := .ref D2) hg2 hm2 rfl hd2) pa_nil he2) he) (by decide) (by decide) he hpl) fun σ H Q ⟨F, E, q⟩ => by
    obtain ⟨fvs, h1, h2, h3⟩ := hx
    obtain ⟨w, k1, k2⟩ := E.arg i hms
    rw [hvs] at k1; cases k1
    exact ⟨_, k2, .ref D2, .ref D2, b, fvs, rfl, fun u hu => hu, hk, E.sub _ _ (E.ext _ _ h1), q F H _ (Ext.refl _) E sr_bl⟩
end
end DL
/-! K26: _law_like of equal lists of ints and texts, where an exception is handled. -/
namespace K09
open PySem L2 L2H DL RL PyProof.Rows HE
local macro_rules | `(tactic| k_whileD _ _ _ "dv") => `(tactic| first | exact Or.inl rfl | exact Or.inr (Or.inl rfl) | exact Or.inr (Or.inr rfl))
local macro_rules | `(tactic| k_whileD _ _ _ "dn") => `(tactic| first
  | exact ed_var (i := 0) rfl (by k_whileD _ _ _ "dv") rfl | exact ed_var (i := 1) rfl (by k_whileD _ _ _ "dv") rfl | exact ed_var (i := 2) rfl (by k_whileD _ _ _ "dv") rfl | exact ed_var (i := 3) rfl (by k_whileD _ _ _ "dv") rfl)
local macro_rules | `(tactic| k_whileD _ _ _ "dm") => `(tactic| first | exact ms_ne (.inl rfl) | exact ms_ne (.inr rfl))
local macro_rules | `(tactic| k_whileD _ _ _ "dl") => `(tactic| first | exact Or.inl rfl | exact Or.inr rfl)
abbrev sLike : Stmt := top 22
/-- an int or a text -/
def IsB : DL.D → Prop
  | .int _ => True
  | .str _ => True
  | _ => False
theorem scLike : FnScope ["told", "due", "a", "b"] ["told", "due"] (defScope sLike) := ⟨rfl, rfl, rfl, by decide +kernel, rfl, by decide +kernel, by decide +kernel⟩
theorem ne_self (b : Bool) : CmpD .NotEq (.bl b) (.bl b) false := by
  have := @CmpD.neB b b
  simpa using this
theorem eq_self (b : Bool) : CmpD .Eq (.bl b) (.bl b) true := by
  have := @CmpD.eqB b b
  simpa using this
theorem isB_pl {d : DL.D} (h : IsB d) : plainD d = true := by cases d <;> first | rfl | exact h.elim
theorem isB_seq {d : DL.D} (h : IsB d) : (isiD d "list" || isiD d "tuple") = false := by
  cases d <;> first | exact h.elim | (simp only [is_int_list, is_int_tuple, is_str_list, is_str_tuple]; rfl)
theorem isB_eq {d : DL.D} (h : IsB d) : CmpD .Eq d d true := by
  cases d <;> first | exact h.elim | skip
  · have h := @CmpD.eqI ‹_› ‹_›
    rwa [decide_eq_true rfl] at h
  · have h := @CmpD.eqS ‹_› ‹_›
    rwa [decide_eq_true rfl] at h
section
variable {M : Mo} (hM : M.Ok) {f : Addr} {cdv : Value} {A : Around} {outer : List PySem.Env} {s : Shared} {H F0 : Hp} {vs : List V} {E : XK} {p : Addr × Obj}
include hM
theorem mgn {n : Str} (h : n ∈ bltN := by decide) : M.mg n = none := hM.blt n h
theorem likeH_sc {d : DL.D} {k1 k2 : Bool} (hd : IsB d) :
    BD (cxH CX0 M.P M.w M.K M.mg M.base ["told", "due", "a", "b"] "_law_like" (defScope sLike) f cdv A outer s H E p).nox (callG F0 H vs [.v k1 d, .v k2 d]) (defBody sLike) (startE ["told", "due", "a", "b"] [.v k1 d, .v k2 d]) (EndP [.v k1 d, .v k2 d] (.val (.bl true)) [.v k1 d, .v k2 d]) := by
  have hp := isB_pl hd
  have hs := isB_seq hd
  have hN : isNon d = false := by cases d <;> first | exact hd.elim | rfl
  refine bd_cons (sd_if (et_val (ed_isi2 rfl (mgn hM) (by k_whileD _ _ _ "dn") hp rfl (mgn hM) rfl (by decide) rfl (mgn hM) rfl (by decide))) (fun h => by rw [hs] at h; cases h) (fun _ => bd_nil ?_))
  refine bd_cons (sd_if (ET.of (ew_or (et_isN (by k_whileD _ _ _ "dn")) fun _ => ew_or1 (et_isN (by k_whileD _ _ _ "dn")))) (fun h => by rw [hN] at h; cases h) (fun _ => bd_nil ?_))
  refine bd_cons (sd_if (ET.of (ew_or (et_val (ed_isi2 rfl (mgn hM) (by k_whileD _ _ _ "dn") hp rfl (mgn hM) rfl (by decide) rfl (mgn hM) rfl (by decide))) fun _ => ew_or1 (et_cmp (ed_isi rfl (mgn hM) (by k_whileD _ _ _ "dn") hp rfl (mgn hM) rfl (by decide)) (ed_isi rfl (mgn hM) (by k_whileD _ _ _ "dn") hp rfl (mgn hM) rfl (by decide)) (ne_self _)))) (fun h => by rw [hs] at h; cases h) (fun _ => bd_nil ?_))
  refine bd_cons (sd_if (ET.of (ew_or (et_cmp (ed_isi rfl (mgn hM) (by k_whileD _ _ _ "dn") hp rfl (mgn hM) rfl (by decide)) (ed_isi rfl (mgn hM) (by k_whileD _ _ _ "dn") hp rfl (mgn hM) rfl (by decide)) (ne_self _)) fun _ => ew_or1 (et_cmp (ed_isi rfl (mgn hM) (by k_whileD _ _ _ "dn") hp rfl (mgn hM) rfl (by decide)) (ed_isi rfl (mgn hM) (by k_whileD _ _ _ "dn") hp rfl (mgn hM) rfl (by decide)) (ne_self _)))) (fun h => by cases h) (fun _ => bd_nil ?_))
  exact bd_cons (sd_ret (ed_is (ed_and (ed_cmp (ed_isi rfl (mgn hM) (by k_whileD _ _ _ "dn") hp rfl (mgn hM) rfl (by decide)) (ed_isi rfl (mgn hM) (by k_whileD _ _ _ "dn") hp rfl (mgn hM) rfl (by decide)) (eq_self _)) fun _ => ed_one (ed_cmp (by k_whileD _ _ _ "dn") (by k_whileD _ _ _ "dn") (isB_eq hd))) rfl) ⟨rfl, (EndL.v (.v .nil)).to⟩)
end
/-- a def that may be called by its name where an exception is handled -/
structure CalH (P : Program) (w : World) (K : PySem.W.Frag) (mg : Str → Option Value) (base : Heap) (k : Nat) (x : Str) (ps : List Str) (sp : Sp) : Prop where
  ex : ∃ (f : Addr) (fd : FuncData), FnH P w K mg base CX0 k f fd ps sp ∧ mg x = some (.ref f) ∧ PySem.W.keepIn K (.ref f) = true ∧ Binds K fd ps []
theorem calH {P : Program} {w : World} {K : PySem.W.Frag} {mg : Str → Option Value} {base : Heap} {x : Str} {st : Stmt} {ps N : List Str} {k : Nat} {args outs : List Slot} {r : Slot} (T : DefAt K mg x st ps) (S : FnScope N ps (defScope st)) (hl : args.length = ps.length) (ho : OwnTo outs args)
    (hbody : ∀ (f : Addr) (cdv : Value) (A : Around) (outer : List PySem.Env) (s : Shared) (H F0 : Hp) (vs : List V) (E : XK) (p : Addr × Obj), Hot1 A p → RoomH k (A.deeper (envOfC x (defScope st) s.heap.objs.size f cdv)) →
      BD (cxH CX0 P w K mg base N x (defScope st) f cdv A outer s H E p).nox (callG F0 H vs args) (defBody st) (startE N args) (EndP args r outs)) : CalH P w K mg base (k + 1) x ps (spD K args r outs) := by
  obtain ⟨f, fd, F, h1, h2, h3, h4⟩ := T.ex
  exact ⟨f, fd, fnDH F S hl ho (hbody f), h1, h2, h3⟩
theorem ed_calH {X : Cx} {G : Gx} {a : Expr} {xs : List Expr} {ρ ρ1 : DL.Env} {as : List ArgS} {args outs : List Slot} {r : Slot} {ps : List Str} {n : Str} {kk j : Nat} {p pos : Pos} (C : CalH X.prog X.w X.K X.mg X.base kk n ps (spD X.K args r outs)) (hr : RoomH j X.A) (hk : kk ≤ j) (hc : HotC X) (hg : Gl X n) (ha : EAs X G (a :: xs) ρ ρ1 as) (ht : ArgsTo ρ1 as args) (nd : (varsOf as).Nodup) (ho : OwnTo outs args) (hres : ResOk r) (hdb : (n == ("__debug__" : Str)) = false := by decide)
    (he : starEach (a :: xs) X.env = (false, eval a X.env) :: starEach xs X.env := by rfl) (hpl : (backTo pos (starEach xs X.env)).any (·.1) = false := by rfl) : ED X G (.Call (.Name n p) (a :: xs) [] pos) ρ (backE ρ1 as outs) r := by
  obtain ⟨f, fd, Fo, h1, h2, h3⟩ := C.ex
  exact ed_callH Fo (hr.mono hk) hc hg h1 h2 h3 ha ht nd ho hres hdb he hpl
theorem likeH_one {M : Mo} (hM : M.Ok) (T : DefAt M.K M.mg "_law_like" sLike ["told", "due"]) {d : DL.D} {k1 k2 : Bool} (hd : IsB d) : CalH M.P M.w M.K M.mg M.base 1 "_law_like" ["told", "due"] (spD M.K [.v k1 d, .v k2 d] (.val (.bl true)) [.v k1 d, .v k2 d]) :=
  calH T scLike rfl (OwnL.v (.v .nil)).to fun f cdv A outer s H F0 vs E p hot hr => likeH_sc hM hd
theorem likeH_lst {M : Mo} (hM : M.Ok) (T : DefAt M.K M.mg "_law_like" sLike ["told", "due"]) {ds : List DL.D} {k1 k2 : Bool} (hl : ds.length ≤ sizeLine) (hd : ∀ x ∈ ds, IsB x) : CalH M.P M.w M.K M.mg M.base 2 "_law_like" ["told", "due"] (spD M.K [.v k1 (.lst ds), .v k2 (.lst ds)] (.val (.bl true)) [.v k1 (.lst ds), .v k2 (.lst ds)]) := by
  refine calH T scLike rfl (OwnL.v (.v .nil)).to fun f cdv A outer s H F0 vs E p hot hr => ?_
  have hp : plainD (.lst ds) = true := rfl
  refine bd_cons (sd_if (et_val (ed_isi2 rfl (mgn hM) (by k_whileD _ _ _ "dn") hp rfl (mgn hM) rfl (by decide) rfl (mgn hM) rfl (by decide))) (fun _ => ?_) (fun h => ?_))
  · refine bd_cons (sd_if (ET.of (ew_or (et_cmp (ed_isi rfl (mgn hM) (by k_whileD _ _ _ "dn") hp rfl (mgn hM) rfl (by decide)) (ed_isi rfl (mgn hM) (by k_whileD _ _ _ "dn") hp rfl (mgn hM) rfl (by decide)) (ne_self _)) fun _ =>
      ew_or1 (et_cmp (ed_isi rfl (mgn hM) (by k_whileD _ _ _ "dn") hp rfl (mgn hM) rfl (by decide)) (ed_isi rfl (mgn hM) (by k_whileD _ _ _ "dn") hp rfl (mgn hM) rfl (by decide)) (ne_self _)))) (fun h => by cases h) fun _ => ?_)
    refine bd_nil (bd_cons (sd_ret (ed_is (ed_and (l := true) (ed_cmp (ed_len (by rfl) (mgn hM) (by k_whileD _ _ _ "dn") .lst) (ed_len (by rfl) (mgn hM) (by k_whileD _ _ _ "dn") .lst) CmpD.eqI) fun _ => ed_one (ed_is (ed_allH (bs := (List.range ds.length).map fun _ => true) ⟨p, hot, List.mem_cons_self⟩ (by rfl) (mgn hM)
      (ed_lcH (p0 := p) (own := [("a", 2), ("b", 3)]) (ix := [2, 3]) (vs := [2, 3]) (f := fun _ => .bl true) hot List.mem_cons_self (blk_by (by kernel_rfl)) rfl scLike.nd (wk_zipH (dx := .non) (m := ds.length) (by rfl) (mgn hM) (by k_whileD _ _ _ "dn") (by k_whileD _ _ _ "dn") (by simp))
        (g := gTup M.K 2 (gNames [2, 3])) (fun _ _ _ _ _ => ?_) (fun t _ => ⟨tg_two (i := 2) (j := 3) (by k_whileD _ _ _ "dm") (by k_whileD _ _ _ "dm"), ft_two⟩) (by decide) (fun i hi => by
          have : i = 2 ∨ i = 3 := by simpa using hi
          rcases this with rfl | rfl <;> exact ms_ne (.inl rfl)) hl (fun t ht s H C0 cl fp F1 H1 ws => ?_) (fun t _ => by cases k1 <;> cases k2 <;> rfl) rfl) .own (by rw [List.map_map]; rfl)) ?_)) ?_) ⟨rfl, (EndL.v (.v .nil)).to⟩))
    · exact pg_tupH (blkH_hot hot) (pgs_cons' (pg_name (i := 2) scLike.nd rfl (by k_whileD _ _ _ "dl")) (pgs_cons' (pg_name (i := 3) scLike.nd rfl (by k_whileD _ _ _ "dl")) pgs_nil'))
    · have hx1 := hd (ds.getD t .non) (by rw [List.getD_eq_getElem?_getD, List.getElem?_eq_getElem ht]; exact List.getElem_mem ht)
      exact ed_calH (args := [.view (ds.getD t .non), .view (ds.getD t .non)]) (outs := [.view (ds.getD t .non), .view (ds.getD t .non)]) (likeH_one hM T hx1) hr (Nat.le_refl _) (blkH_hot hot) (by rfl) (as_ex (by k_whileD _ _ _ "dn") (as_ex (by k_whileD _ _ _ "dn") as_nil)) (.cons .view (.cons .view .nil)) List.nodup_nil (OwnL.v (.v .nil)).to .val
    · have : ((List.range ds.length).map fun _ => true).all id = true := by rw [List.all_map]; exact List.all_eq_true.mpr fun _ _ => rfl
      rw [this]
    · rw [decide_eq_true rfl]; rfl
  · simp only [is_lst_list] at h; cases h
end K09
/-! K27: ways raises InvalidWishes(at). -/
namespace K09
open PySem PySem.Spec L2 L2H DL RL PyProof.Rows HE
local macro_rules | `(tactic| k_whileD _ _ _ "ev") => `(tactic| simp only [*, is_non_list, is_non_tuple, is_non_bool, is_non_str, is_non_int, is_non_dict, pl_non, isn_non, is_bl_list, is_bl_tuple, is_bl_bool, is_bl_str, is_bl_int, is_bl_dict, pl_bl, isn_bl, is_int_list, is_int_tuple, is_int_bool, is_int_str, is_int_int, is_int_dict, pl_int, isn_int, is_str_list, is_str_tuple, is_str_bool, is_str_str, is_str_int, is_str_dict, pl_str, isn_str, is_lst_list, is_lst_tuple, is_lst_bool, is_lst_str, is_lst_int, is_lst_dict, pl_lst, isn_lst, is_tup_list, is_tup_tuple, is_tup_bool, is_tup_str, is_tup_int, is_tup_dict, pl_tup, isn_tup, is_dk_list, is_dk_tuple, is_dk_bool, is_dk_str, is_dk_int, is_dk_dict, pl_dk, isn_dk, qv_atN, qv_atL, qv_ixLit, qv_mulL, qv_fdivL, qv_modL, qv_powL, Nat.reduceLT, Nat.reduceLeDiff, Nat.reduceAdd, Nat.zero_add, Nat.add_zero, Int.reduceLT, Int.reduceLE, Int.reducePow, Int.reduceToNat, Int.reduceEq, Int.reduceNeg, Int.reduceAdd, Int.reduceSub, Int.reduceMul, and_self, and_true, true_and, eq_self, not_true_eq_false, not_false_eq_true,
  ob_o, ob_v, ob_n, ob_s, fr_nil, fr_0, fr_s, nt_t, nt_f, iv_cst, iv_bin, iv_neg, iv_no, iv_one, iv_conj, iv_disj, iv_cmp, iv_ite, iv_idx, iv_sl, iv_lst, iv_tup, iv_fn, iv_isi, iv_call, iv_app, iv_ext, iv_pop, iv_rev, iv_count, iv_join, iv_comp, iv_compI, iv_comp2, iv_dk0, bf_int, bf_str, bf_list, bf_tuple, bf_sum, bf_all, bf_any, bf_sorted, bf_lenSet, chk_true,
  b_nil, b_seq, b_set, b_setIx, b_set2, b_expr, b_ret, b_retN, b_ife, b_for, b_pass, b_brk, b_cont, qv_nx, qv_ct, qv_bk, qv_ret, m_own, m_var, m_any,
  e_cst, e_var, e_bin, e_neg, e_no, e_one, e_conj, e_disj, e_cmp, e_ite, e_idxO, e_idxV, e_idx, e_sl, e_lst, e_tup, e_lenO, e_fnV, e_fnL, e_fn, e_isi, e_call, e_app, e_ext, e_pop, e_rev, e_count, e_join, e_comp, e_compI, e_comp2, e_dk0, f_range,
  t_no, t_one, t_conj, t_disj, t_cmp, t_chain, t_varB, t_fn, t_isi, t_call, o_nil, o_one, a_nil, a_cons, a_star, s_nil, s_own, s_var, s_cons, w_range, w_zip, w_enum, w_one,
  Option.bind_some, Option.bind_none, Option.map_some, List.getElem?_cons_zero, List.getElem?_cons_succ, List.set_cons_zero, List.set_cons_succ, chk_pos, List.length_cons, List.length_nil, List.length_map, List.all_cons, List.all_nil, Bool.and_true, Bool.true_and, Bool.false_and, Bool.and_false, Bool.and_self, Bool.not_false, Bool.not_true,
  qv_int, qv_bl, qv_str, qv_toT, qv_toO, qv_toI, qv_toS, qv_toB, qv_toN, qv_fixV, qv_fixO, qv_datV, qv_datO, qv_add, qv_addI, qv_addS, qv_addL, qv_sub, qv_mulC, qv_fdivC, qv_modC, qv_powC, qv_in, qv_nin, qv_is, qv_isnt, qv_eq, qv_ne, qv_eqI, qv_eqS, qv_eqB, qv_lt, qv_le, qv_gt, qv_ge, qv_dle, qv_inS, qv_inL, qv_inT,
  qv_ixL, qv_ixT, qv_ixS, qv_lenL, qv_lenT, qv_lenO, qv_lenS, qv_itO, qv_itL, qv_itT, qv_itL', qv_itT', qv_sqO, qv_sqL, qv_sqT, qv_lsO, qv_lsV, qv_lkO, qv_lkT, qv_lkS, qv_len, qv_intf, qv_strf, qv_list, qv_tupleT, qv_tupleL, qv_tupleO, qv_sum, qv_all, qv_any, qv_sorted, qv_lenSet, qv_slS, qv_slL, qv_slO, qv_wkO, qv_wkL, qv_wkT, qv_wkS, qv_getO0, qv_getOS, qv_varV, qv_varO,
  qv_nvT, qv_nvI, qv_nvS, qv_nvB, qv_nvN, qv_nvO, qv_argV, qv_argO, qv_atp, qv_ixp, qv_isi1, qv_isi2, qv_call, qv_aNil, qv_aCons, qv_aEx, qv_aOwn, qv_aBor, qv_backV, qv_backO, qv_backB, qv_backN, if_true, if_false, Bool.false_eq_true, reduceIte, decide_true, decide_false, Bool.or_true, Bool.true_or, Bool.or_false, Bool.false_or, sc_non, sc_bl, sc_int, sc_str, sc_lst, sc_tup, sc_dk,
  mk_sv, kp_sv, bk_sv, no_sv, x_ext, wp_nil, wp_cons, mk_nil, mk_o, mk_v, mk_n, mg_nil, mg_cons, mg_t, mg_f, kp_v, kp_n, kp_o, bk_same, bk_o, bk_t, bk_f, bk_n, by_nm, by_two, no_nil, no_o, no_v, no_n, rb_v, rb_o, os_nil, os_o, os_v, fin_ret, fin_nx, List.contains_cons, List.contains_nil, Nat.reduceBEq, Nat.reduceEqDiff, List.nodup_cons, List.nodup_nil, varsOf, List.not_mem_nil, List.mem_cons, List.mem_singleton, or_false, false_or, or_true, true_or, decide_eq_true_eq, Tgt.ix, isOwn, List.map_cons, List.map_nil, List.cons_append, List.nil_append])
abbrev sWays : Stmt := top 14
/-- what the written part says of an own error class with its code and one value -/
structure ErrC (M : Mo) (C fI : Addr) (x cn f y : Str) : Prop where
  T : OexC M.K C
  iC : PySem.W.findIn M.K (.ref C) "__init__" = some (some (.ref fI))
  tI : PySem.W.typeIn M.K (.ref fI) = some (.type "function")
  n1 : PySem.W.findIn M.K (.ref C) "code" = some none
  n2 : PySem.W.findIn M.K (.ref C) f = some none
  xf : XfC M.K C
  ex : ExcC M.K C
  gC : M.mg x = some (.ref C)
  init : ∃ fd, FnOk M.P M.w M.K M.mg M.base CX0 1 fI fd ["self", y] (spI1 C cn f) ∧ Binds M.K fd ["self", y] []
abbrev N3 : List Str := ["wishes", "at", "ranked", "places", "found", "_", "way"]
theorem scWays : FnScope N3 ["wishes"] (defScope sWays) := ⟨rfl, rfl, rfl, by decide +kernel, rfl, by decide +kernel, by decide +kernel⟩
/-- a def that raises, by its name -/
structure CalX (P : Program) (w : World) (K : PySem.W.Frag) (mg : Str → Option Value) (base : Heap) (k : Nat) (x : Str) (ps : List Str) (args : List Slot) (C : Addr) (fs : List (Str × DL.D)) : Prop where
  ex : ∃ (f : Addr) (fd : FuncData), FnOk P w K mg base (L2N.CX P w) k f fd ps (spX K args C fs) ∧ mg x = some (.ref f) ∧ PySem.W.keepIn K (.ref f) = true ∧ Binds K fd ps [] ∧ KB0 K fd ps
theorem okT_of {M : Mo} (hM : M.Ok) {T : List De} {cst : Str → Option D} {cls : Str → Option Nat} (kst : ∀ x d, cst x = some d → ∃ v u, M.mg x = some u ∧ RelV v u ∧ ∀ F, Rep M.K F d v) {CX : CXT} {N ps : List Str} {qual : Str} {st : Stmt} {f : Addr} {cdv : Value} {A : Around} {outer : List PySem.Env} {s : Shared} {H : Hp} {E : XK} {j : Nat}
    (S : FnScope N ps (defScope st)) (hr : Room j (A.deeper (envOfC qual (defScope st) s.heap.objs.size f cdv))) {pn : List (Addr × Obj)} {xe : Value → Shared → Prop} (hx : PassesOwn (model M.P M.w) (A.deeper (envOfC qual (defScope st) s.heap.objs.size f cdv)) (envOfC qual (defScope st) s.heap.objs.size f cdv) xe) :
    OkT M (tabOf T) ⟨N, defScope st, true, cst, fnsOf T, cls⟩ j ((cxOf CX M.P M.w M.K M.mg M.base N qual (defScope st) f cdv A outer s H E).tr pn xe) :=
  { m := hM, prog := rfl, w := rfl, K := rfl, mg := rfl, base := rfl, N := rfl, sc := rfl, calm := rfl, nd := S.nd, room := hr, fn := fun _ _ => rfl, fns := fun _ _ _ h => fnsOf_ok h, cst := kst, top := rfl, pass := hx, bk := by
      show PySem.Env.blockKind _ = _
      unfold PySem.Env.blockKind
      have : (defScope st).kind = .function := S.kind
      show (if (defScope st).kind.isAnnotationScope = true then _ else (defScope st).kind) = _
      rw [this]; rfl }
theorem own_not {k : Bool} {d : DL.D} : ∀ (i : Nat) (ds : List DL.D), ([.v k d] : List Slot)[i]? ≠ some (Slot.own ds)
  | 0, ds => fun h => by cases h
  | i + 1, ds => fun h => by cases h
theorem ways_raise {M : Mo} (hM : M.Ok) (kst : ∀ x d, cst0 x = some d → ∃ v u, M.mg x = some u ∧ RelV v u ∧ ∀ F, Rep M.K F d v) (T : DefAt M.K M.mg "ways" sWays ["wishes"]) {C fI : Addr} (Er : ErrC M C fI "InvalidWishes" "InvalidWishes" "at" "at") {n : Nat} {c' : Cs} (hc : CalOk M (tabOf tab) (n + 2) c') (hcM : c'.M = modes tab)
    {d : DL.D} {i : Int} {outs : List Slot} (h : c'.C 4 [.v true d] = some (.v true (.int i), outs)) : CalX M.P M.w M.K M.mg M.base (n + 3) "ways" ["wishes"] [.v true d] C [("at", .int i), ("code", .str "InvalidWishes")] := by
  obtain ⟨f, fd, F, h1, h2, h3, h4⟩ := T.ex
  obtain ⟨fdI, F1, hb⟩ := Er.init
  obtain ⟨x0, ps0, ht, _, _, ho⟩ := hc 4 _ _ _ h
  have hout : outs = [.v true d] := by
    obtain ⟨o1, o2⟩ := ho
    match outs, o1 with
    | [o], _ =>
      have := (o2 0 (.v true d) rfl).2 rfl
      injection this with this
      rw [this]
  subst hout
  refine ⟨f, fd, fnDX (k := n + 2) F scWays rfl own_not (fun cdv A outer s H F0 vs E W hr tk => ?_), h1, h2, h3, h4⟩
  have m4 : c'.M 4 = [false] := by rw [hcM]; rfl
  have hL : ([some (.v true d), some (.v true (.int i)), none, none, none, none, none] : DL.Env)[1]? = some (some (.v true (.int i))) := rfl
  refine ⟨[some (.v true d), some (.v true (.int i)), none, none, none, none, none], bx_cons (ρ1 := [some (.v true d), some (.v true (.int i)), none, none, none, none, none]) ?_ (bx_last ?_)⟩
  rotate_left
  · refine sx_if (ρ1 := [some (.v true d), some (.v true (.int i)), none, none, none, none, none]) ?_ (bx_last (sx_raise rfl tk ?_))
    · show ET _ _ _ _ _ (!DL.isNon (.int i))
      refine et_notN (k1 := true) ?_
      exact ed_var (i := 1) rfl (.inl rfl) hL
    · refine pmk1 (y := "at") (d := .int i) Er.T Er.iC Er.tI F1 (hr.mono (by omega)) hb rfl Er.gC ?_ .val
      exact ed_var (i := 1) rfl (.inl rfl) hL
  refine stm_ok (M := M) (tab := tabOf tab) [] 60 ⟨N3, defScope sWays, true, cst0, fnsOf tab, cls0⟩ _ (.set true 1 (.call 4 (.cons (.var 0) .nil))) (by kernel_rfl) _ (n + 2) _ c' [false] _ (.nx [some (.v true d), some (.v true (.int i)), none, none, none, none, none]) _ (okT_of (CX := L2N.CX M.P M.w) (E := E) (pn := []) hM kst scWays hr (by exact PassesOwn.leaving)) hc (fun j hj e => ?_) ?_ rfl
  · match j, hj, e with
    | 0, hj, e => cases e
    | j + 1, hj, e => cases e
  · show evB c' [false] _ [some (.v true d), none, none, none, none, none, none] = _
    k_whileD _ _ _ "ev"
end K09
/-! K28: what is told of the def with try is so. -/
namespace K09
open PySem PySem.Spec L2 L2H DL RL PyProof.Rows HE
abbrev s17 : Stmt := top 29
abbrev N17 : List Str := ["bag", "wants", "mine", "n", "x", "due", "told", "error"]
theorem sc17 : FnScope N17 ["bag", "wants"] (defScope s17) := ⟨rfl, rfl, rfl, by decide +kernel, rfl, by decide +kernel, by decide +kernel⟩
theorem seq_nx {c : Cs} {ms : List Bool} {a b : CS} {ρ ρ' : DL.Env} (h : evB c ms (.seq a b) ρ = some (.nx ρ')) : ∃ ρ1, evB c ms a ρ = some (.nx ρ1) ∧ evB c ms b ρ1 = some (.nx ρ') := by
  simp only [evB] at h
  obtain ⟨o, h1, h⟩ := bind_some' h
  cases o with
  | nx ρ1 => exact ⟨ρ1, h1, h⟩
  | ret _ _ => cases h
  | bk _ => cases h
  | ct _ => cases h
theorem seq_set {c : Cs} {ms : List Bool} {i : Nat} {e : CE} {b : CS} {ρ : DL.Env} {o : Out} (h : evB c ms (.seq (.set true i e) b) ρ = some o) : ∃ ρ1, evB c ms (.set true i e) ρ = some (.nx ρ1) ∧ evB c ms b ρ1 = some o := by
  simp only [evB] at h ⊢
  obtain ⟨o1, h1, h⟩ := bind_some' h
  obtain ⟨p, h2, h3⟩ := bind_some' h1
  obtain ⟨h4, h5⟩ := chk_some h3
  cases h5
  refine ⟨_, ?_, h⟩
  rw [h2]
  show chk _ _ = _
  rw [chk_pos h4]
theorem end_fin {args outs : List Slot} {r : Slot} {o : Out} (h : finS args o = some (r, outs)) : ResOk r ∧ OwnTo outs args ∧ EndP args r outs o := by
  cases o with
  | ret r' ρ' =>
    obtain ⟨h4, h⟩ := chk_some h
    obtain ⟨os, h5, h⟩ := bind_some' h
    cases h
    obtain ⟨k1, k2⟩ := outs_own h5
    exact ⟨res_ok h4, k1, rfl, k2⟩
  | nx ρ' =>
    obtain ⟨os, h5, h⟩ := bind_some' (show (outsS ρ' 0 args).bind _ = _ from h)
    cases h
    obtain ⟨k1, k2⟩ := outs_own h5
    exact ⟨.val, k1, rfl, k2⟩
  | bk _ => cases h
  | ct _ => cases h
theorem gv_ok {ρ : DL.Env} {i : Nat} {d : DL.D} (h : gv ρ i = some d) : ρ[i]? = some (some (.v true d)) := by
  unfold gv at h
  split at h
  · rename_i x hx
    cases h; exact hx
  · cases h
/-- the facts of the other defs and classes that the def with try needs -/
structure Fx (M : Mo) : Prop where
  hM : M.Ok
  kst : ∀ x d, cst0 x = some d → ∃ v u, M.mg x = some u ∧ RelV v u ∧ ∀ F, Rep M.K F d v
  tw : DefAt M.K M.mg "ways" sWays ["wishes"]
  tl : DefAt M.K M.mg "_law_like" sLike ["told", "due"]
  t17 : DefAt M.K M.mg "_law_refused_so" s17 ["bag", "wants"]
  er : ∃ C fI Cs C2 : Addr, ErrC M C fI "InvalidWishes" "InvalidWishes" "at" "at" ∧ M.mg "SeatError" = some (.ref Cs) ∧ M.mg "InvalidClause" = some (.ref C2) ∧ PySem.W.exmOne M.K (.ref C) (.ref Cs) = some true ∧ PySem.W.kitOne M.K (.ref C) (.ref C) = some true ∧ PySem.W.kitOne M.K (.ref C) (.ref C2) = some false
theorem fin_inv {c' : Cs} {args outs : List Slot} {r : Slot} {ρ : DL.Env} (h : fin17 c' args ρ = some (r, outs)) : ∃ (d : DL.D) (t : Int) (o4 : List Slot), ρ[2]? = some (some (.v true d)) ∧ ρ[5]? = some (some (.v true (.int t))) ∧ c'.C 4 [.v true d] = some (.v true (.int t), o4) ∧ ρ.length = 8 ∧ outsS ρ 0 args = some outs ∧ r = .val (.bl true) := by
  unfold fin17 at h
  obtain ⟨d, h1, h⟩ := bind_some' h
  obtain ⟨u, h2, h⟩ := bind_some' h
  split at h
  · rename_i t i o4 hC
    split at h
    · rename_i hq
      obtain ⟨rfl, hlen⟩ := hq
      obtain ⟨os, h5, h⟩ := bind_some' h
      cases h
      exact ⟨d, i, o4, gv_ok h1, gv_ok h2, hC, hlen, h5, rfl⟩
    · cases h
  · cases h
end K09
/-! K29: what is told of the def with try is so. -/
namespace K09
open PySem PySem.Spec L2 L2H DL RL PyProof.Rows HE
abbrev fs17 (t : Int) : List (Str × DL.D) := [("at", .int t), ("code", .str "InvalidWishes")]
abbrev X17 (M : Mo) (f : Addr) (cdv : Value) (A : Around) (outer : List PySem.Env) (s : Shared) (H : Hp) (E : XK) : Cx := (cxOf CX0 M.P M.w M.K M.mg M.base N17 "_law_refused_so" (defScope s17) f cdv A outer s H E).nox
section
variable {M : Mo} (Φ : Fx M) {f : Addr} {cdv : Value} {A : Around} {outer : List PySem.Env} {s : Shared} {H F0 : Hp} {vs : List V} {E : XK} {n : Nat} {c c' : Cs}
include Φ
/-- the try's body raises -/
theorem try_raises {C fI : Addr} (Er : ErrC M C fI "InvalidWishes" "InvalidWishes" "at" "at") (hc : CalOk M (tabOf tab) (n + 3) c) (hc' : CalOk M (tabOf tab) (n + 2) c') (hM' : c'.M = modes tab) {bs : List DL.D} {wd d : DL.D} {ρ1 ρ2 : DL.Env} {b : Bool} {t : Int} {o4 : List Slot}
    (hr : Room (n + 3) (A.deeper (envOfC "_law_refused_so" (defScope s17) s.heap.objs.size f cdv))) (ht : evT c [true, false] q17 ρ1 = some (b, ρ2)) (h2 : ρ2[2]? = some (some (.v true d))) (h4 : c'.C 4 [.v true d] = some (.v true (.int t), o4)) (W : WX) (pn : List (Addr × Obj)) (xe : Value → Shared → Prop)
    (tk : L2N.Takes ((X17 M f cdv A outer s H E).tr pn xe) W) (hp : PassesOwn (model M.P M.w) (X17 M f cdv A outer s H E).A (X17 M f cdv A outer s H E).env xe) {e : Expr} {p p2 p3 p4 p5 p6 p7 p8 p9 p10 : Pos}
    (he : compE 60 ⟨N17, defScope s17, true, cst0, fnsOf tab, cls0⟩ e = some q17) :
    PSs ((X17 M f cdv A outer s H E).tr pn xe) [.Assign [.Name "told" p] (.IfExp e (.Call (.Name "ways" p2) [] [⟨some "wishes", .Name "mine" p3, p4⟩] p5) (.Call (.Name "ways" p6) [.Name "mine" p7] [] p8) p9) p10] (fun _ => tX M.K (callG F0 H vs [.own bs, .v true wd]) ρ1 ρ2 C (fs17 t) W) := by
  have Cx := ways_raise Φ.hM Φ.kst Φ.tw Er hc' hM' h4
  obtain ⟨fw, fdw, Fo, k1, k2, k3, k4⟩ := Cx.ex
  have ox : OkX M (tabOf tab) ⟨N17, defScope s17, true, cst0, fnsOf tab, cls0⟩ (n + 3) ((X17 M f cdv A outer s H E).tr pn xe) := (okT_of (CX := CX0) (E := E) (pn := pn) (xe := xe) Φ.hM Φ.kst sc17 hr hp).toOkX
  have et : ET ((X17 M f cdv A outer s H E).tr pn xe) (callG F0 H vs [.own bs, .v true wd]) e ρ1 ρ2 b := (all_ok (M := M) (tab := tabOf tab) 60 _ e q17 he).2.1 _ (n + 3) _ c [true, false] ρ1 ρ2 b ox hc (fun j hj q => by
    match j, hj, q with
    | 0, hj, q => exact absurd hj (by decide)
    | 1, hj, q => cases q
    | j + 2, hj, q => cases q) ht
  have vis : Vis ((X17 M f cdv A outer s H E).tr pn xe).env.scope "mine" := .inl rfl
  have ca := ex_callK (X := (X17 M f cdv A outer s H E).tr pn xe) (G := callG F0 H vs [.own bs, .v true wd]) (ρ := ρ2) (W := W) (n := "ways") (p := p2) (pos := p5) Fo tk hr rfl k1 k2 k4 (ks_ex (nm := some "wishes") (kpos := p4) (ed_var (pos := p3) (i := 2) rfl vis h2) ks_nil) (.cons .val .nil) List.nodup_nil own_not
  have cb := ex_call (X := (X17 M f cdv A outer s H E).tr pn xe) (G := callG F0 H vs [.own bs, .v true wd]) (ρ := ρ2) (W := W) (n := "ways") (p := p6) (pos := p8) Fo tk hr rfl k1 k2 k3 (as_ex (ed_var (pos := p7) (i := 2) rfl vis h2) as_nil) (.cons .val .nil) List.nodup_nil own_not
  refine bx_last (ps_mono (ps_set (i := 6) (te := fun σ H' _ => tX M.K (callG F0 H vs [.own bs, .v true wd]) ρ1 ρ2 C (fs17 t) W σ H') sc17.nd rfl (.inl rfl) (pe_mono (pe_ifExp et ca cb) ?_) rfl (.inl rfl)) fun D σ H' q => q)
  rintro σ H' Q ⟨F, E', q⟩
  refine ⟨F, E', fun F1 H1 e1 E1 => ?_⟩
  have z : tX M.K (callG F0 H vs [.own bs, .v true wd]) ρ2 ρ2 C (fs17 t) W σ H1 := ⟨F1, E1, fun F2 H2 σ2 dd e2 E2 x => q F2 H2 σ2 dd (e1.trans e2) E2 x⟩
  cases b with
  | true => exact z
  | false => exact z
/-- the suite takes it, and tells True -/
theorem suite_true {C fI C2 : Addr} (Er : ErrC M C fI "InvalidWishes" "InvalidWishes" "at" "at") (gS : M.mg "InvalidClause" = some (.ref C2)) (z1 : PySem.W.kitOne M.K (.ref C) (.ref C) = some true) (z2 : PySem.W.kitOne M.K (.ref C) (.ref C2) = some false) {ρ2 : DL.Env} {t : Int} {P : Out → Prop}
    (hr : Room (n + 3) (A.deeper (envOfC "_law_refused_so" (defScope s17) s.heap.objs.size f cdv))) (h5 : ρ2[5]? = some (some (.v true (.int t)))) (hl : ρ2.length = 8) (hP : P (.ret (.val (.bl true)) (ownE (ρ2.set 7 none))))
    (a : Addr) (oe : Obj) (dd : Addr) (pn : List (Addr × Obj)) (F1 H1 : Hp) (σ1 : L2.St) (hi : 7 < σ1.length) (hz : L2N.Zn (.ref C) (some dd) oe) (hf : ∃ vs, oe.data = .fields vs) (hx : XR M.K F1 dd (fs17 t))
    {p1 p2 p3 p4 p5 p6 p7 p8 p9 q1 q2 q3 q4 q5 q6 q7 r1 r2 r3 r4 r5 r6 r7 r8 r9 r10 r11 : Pos} {j0 j1 j2 : Nat} :
    BD ((X17 M f cdv A outer s H E).suite a ((a, oe) :: pn)) (xG F1 H1 σ1 ρ2 7 a) [.If (.BoolOp .Or [.Compare (.Name "due" p1) [.Is] [.Constant .none j0 p2] p3, .UnaryOp .Not (.Call (.Name "isinstance" p4) [.Name "error" p5, .Name "InvalidWishes" p6] [] p7) p8, .Call (.Name "isinstance" q1) [.Name "error" q2, .Name "InvalidClause" q3] [] q4] p9) [.Return (some (.Constant (.bool false) j1 q5)) q6] [] q7,
      .Return (some (.Call (.Name "_law_like" r1) [.List [.Attribute (.Name "error" r2) "at" r3, .Attribute (.Name "error" r4) "code" r5] r6, .List [.Name "due" r7, .Constant (.str "InvalidWishes") j2 r8] r9] [] r10)) r11] (ρ2.set 7 none) (suP 7 P) := by
  have hms : (xG F1 H1 σ1 ρ2 7 a).ms[7]? = some true := by
    show ((maskE ρ2).set 7 true)[7]? = some true
    have : 7 < (maskE ρ2).length := by unfold maskE; rw [List.length_map, hl]; decide
    rw [List.getElem?_set, if_pos rfl, if_pos this]
  have hvs : (xG F1 H1 σ1 ρ2 7 a).vs[7]? = some (.ref a) := xG_vsi hi
  have h5' : (ρ2.set 7 none)[5]? = some (some (.v true (.int t))) := by rw [getset_ne (by decide)]; exact h5
  have hzc : Zc (.ref C) (some dd) oe := hz.zc
  have blt : ∀ {n : Str}, n ∈ bltN → M.mg n = none := fun h => Φ.hM.blt _ h
  have hot : HotC ((X17 M f cdv A outer s H E).suite a ((a, oe) :: pn)) := ⟨(a, oe), hot_suite hz hf, List.mem_cons_self⟩
  have due : ∀ {p : Pos}, ED ((X17 M f cdv A outer s H E).suite a ((a, oe) :: pn)) (xG F1 H1 σ1 ρ2 7 a) (.Name "due" p) (ρ2.set 7 none) (ρ2.set 7 none) (.v true (.int t)) := fun {p} => ed_var (i := 5) rfl (.inl rfl) h5'
  refine bd_cons (sd_if (ρ1 := ρ2.set 7 none) (k := false) ?_ (fun h => by cases h) fun _ => bd_nil ?_)
  · show ET _ _ _ _ _ (DL.isNon (.int t) || ((!true) || false))
    refine ET.of (ew_or (et_isN due) fun _ => ew_or (et_not (et_val (k1 := true) (k := true) ?_)) fun _ => ew_or1 (et_val (k1 := true) (k := false) ?_))
    · exact ed_isE (X := X17 M f cdv A outer s H E) (i := 7) Er.ex hzc hf rfl (blt (by decide)) rfl (.inl rfl) hms hvs hx rfl Er.gC z1
    · exact ed_isE (X := X17 M f cdv A outer s H E) (i := 7) Er.ex hzc hf rfl (blt (by decide)) rfl (.inl rfl) hms hvs hx rfl gS z2
  · have l1 : ED ((X17 M f cdv A outer s H E).suite a ((a, oe) :: pn)) (xG F1 H1 σ1 ρ2 7 a) (.List [.Attribute (.Name "error" r2) "at" r3, .Attribute (.Name "error" r4) "code" r5] r6) (ρ2.set 7 none) (ρ2.set 7 none) (.own [.int t, .str "InvalidWishes"]) :=
      ed_lst (ea_cons (ed_xf (X := X17 M f cdv A outer s H E) (i := 7) Er.xf Er.n2 hzc hf rfl (.inl rfl) hms hvs hx rfl) (ea_cons (ed_xf (X := X17 M f cdv A outer s H E) (i := 7) Er.xf Er.n1 hzc hf rfl (.inl rfl) hms hvs hx rfl) ea_nil)) (by show 2 ≤ sizeLine; decide)
    have l2 : ED ((X17 M f cdv A outer s H E).suite a ((a, oe) :: pn)) (xG F1 H1 σ1 ρ2 7 a) (.List [.Name "due" r7, .Constant (.str "InvalidWishes") j2 r8] r9) (ρ2.set 7 none) (ρ2.set 7 none) (.own [.int t, .str "InvalidWishes"]) :=
      ed_lst (ea_cons due (ea_cons ed_str ea_nil)) (by show 2 ≤ sizeLine; decide)
    have like := likeH_lst Φ.hM Φ.tl (ds := [.int t, .str "InvalidWishes"]) (k1 := true) (k2 := true) (by show 2 ≤ sizeLine; decide) (fun x hx => by
      rcases List.mem_cons.mp hx with rfl | hx
      · trivial
      · rcases List.mem_cons.mp hx with rfl | hx
        · trivial
        · cases hx)
    refine bd_cons (sd_ret (ed_calH (X := (X17 M f cdv A outer s H E).suite a ((a, oe) :: pn)) (args := [.v true (.lst [.int t, .str "InvalidWishes"]), .v true (.lst [.int t, .str "InvalidWishes"])]) like (roomH_mark hr _) (by omega) hot rfl (as_ex (ed_fix l1) (as_ex (ed_fix l2) as_nil)) (.cons .val (.cons .val .nil)) List.nodup_nil (OwnL.v (.v .nil)).to .val) ⟨⟨_, rfl⟩, fun ds h => ?_, hP⟩)
    rw [show backE (ρ2.set 7 none) _ _ = ρ2.set 7 none from rfl, List.getElem?_set, if_pos rfl] at h
    split at h <;> cases h
end
end K09
/-! K30: what is told of the def with try is so. -/
namespace K09
open PySem PySem.Spec L2 L2H DL RL PyProof.Rows HE
theorem ms17 {F0 H : Hp} {vs : List V} {bs : List DL.D} {wd : DL.D} : MsOk (callG F0 H vs [.own bs, .v true wd]) [true, false] := fun j hj q => by
  match j, hj, q with
  | 0, hj, q => exact absurd hj (by decide)
  | 1, hj, q => cases q
  | j + 2, hj, q => cases q
theorem ms17' {F0 H : Hp} {vs : List V} {bs : List DL.D} {wd : DL.D} {j : Nat} (h : (callG F0 H vs [.own bs, .v true wd]).ms[j]? = some true) : j = 0 := by
  match j, h with
  | 0, h => rfl
  | 1, h => cases h
  | j + 2, h => cases h
theorem outs17 {ρ : DL.Env} {bs : List DL.D} {wd : DL.D} {outs : List Slot} (h : outsS ρ 0 [.own bs, .v true wd] = some outs) : ∃ es, ρ[0]? = some (some (.own es)) ∧ outs = [.own es, .v true wd] := by
  simp only [outsS] at h
  obtain ⟨es, h1, h⟩ := bind_some' h
  obtain ⟨x, h2, h⟩ := bind_some' h
  obtain ⟨y, h3, h2⟩ := bind_some' h2
  cases h3; cases h2; cases h
  exact ⟨es, getO_ok h1, rfl⟩
theorem owns_at {ρ : DL.Env} {es : List DL.D} (h : ρ[0]? = some (some (.own es))) : (ownE (ρ.set 7 none))[0]? = some (some (.own es)) := by
  unfold ownE
  rw [List.getElem?_map, getset_ne (by decide), h]; rfl
def Key17 (M : Mo) (n : Nat) (bs : List DL.D) (wd : DL.D) (ρ1 : DL.Env) (r : Slot) (outs : List Slot) : Prop := (ResOk r ∧ OwnTo outs [.own bs, .v true wd]) ∧ ∀ (f : Addr) (cdv : Value) (A : Around) (outer : List PySem.Env) (s : Shared) (H F0 : Hp) (vs : List V) (E : XK), Room (n + 3) (A.deeper (envOfC "_law_refused_so" (defScope s17) s.heap.objs.size f cdv)) →
  BD (X17 M f cdv A outer s H E) (callG F0 H vs [.own bs, .v true wd]) ((defBody s17).drop 3) ρ1 (EndP [.own bs, .v true wd] r outs)
theorem h17_ok {M : Mo} (Φ : Fx M) {n : Nat} {c c' : Cs} (hc : CalOk M (tabOf tab) (n + 3) c) (hc' : CalOk M (tabOf tab) (n + 2) c') (hM' : c'.M = modes tab) {args outs : List Slot} {r : Slot} (h : h17 c c' args = some (r, outs)) :
    CalD M.P M.w M.K M.mg M.base (n + 4) "_law_refused_so" ["bag", "wants"] (spD M.K args r outs) ∧ ResOk r ∧ OwnTo outs args := by
  obtain ⟨C, fI, Cs, C2, Er, g1, g2, m1, z1, z2⟩ := Φ.er
  unfold h17 at h
  split at h
  · rename_i bs wd
    obtain ⟨o, ho, h⟩ := bind_some' h
    cases o with
    | ret _ _ => cases h
    | bk _ => cases h
    | ct _ => cases h
    | nx ρ1 =>
      obtain ⟨ρa, ea, h1⟩ := seq_nx ho
      obtain ⟨ρb, eb, h2⟩ := seq_nx h1
      obtain ⟨ρc, ec, h3⟩ := seq_nx h2
      simp only [evB] at h3
      cases h3
      have key : Key17 M n bs wd ρ1 r outs := by
        have raising : (evT c [true, false] q17 ρ1).bind (fun p => fin17 c' [.own bs, .v true wd] p.2) = some (r, outs) → Key17 M n bs wd ρ1 r outs := fun h => by
          obtain ⟨⟨b, ρ2⟩, ht, h⟩ := bind_some' h
          obtain ⟨d, t, o4, k2, k5, k4, kl, ko, rfl⟩ := fin_inv h
          obtain ⟨es, k0, rfl⟩ := outs17 ko
          refine ⟨⟨.val, (outs_own ko).1⟩, fun f cdv A outer s H F0 vs E hr => ?_⟩
          refine bd_cons (sd_tryX (i := 7) (C := C) (fs := fs17 t) (ρ1 := ρ2) (c := .ref Cs) rfl rfl sc17.nd rfl rfl ⟨rfl, by decide, .inl g1⟩ m1 (by rw [kl]; decide) (fun W pn xe tk hp => ?_) (fun j hj => ?_) fun a oe dd pn F1 H1 σ1 hi hz hf hx => ?_)
          · exact try_raises Φ Er hc hc' hM' hr ht k2 k4 W pn xe tk hp (by kernel_rfl)
          · have hj0 := ms17' hj
            subst hj0
            exact ⟨by decide, es, k0⟩
          · refine suite_true Φ Er g2 z1 z2 hr k5 kl ?_ a oe dd pn F1 H1 σ1 hi hz hf hx
            refine ⟨rfl, fun i ds hi => ?_⟩
            match i, hi with
            | 0, hi => exact ⟨es, rfl, owns_at k0⟩
            | 1, hi => cases hi
            | i + 2, hi => cases hi
        dsimp only at h
        cases hg : gv ρ1 5 with
        | none => rw [hg] at h; exact raising h
        | some u =>
          rw [hg] at h
          cases u with
          | bl _ => exact raising h
          | int _ => exact raising h
          | str _ => exact raising h
          | ty _ => exact raising h
          | lst _ => exact raising h
          | tup _ => exact raising h
          | dk _ _ => exact raising h
          | ins _ _ _ => exact raising h
          | non =>
          obtain ⟨o2, h2, hfin⟩ := bind_some' h
          obtain ⟨e1, e2, e3⟩ := end_fin hfin
          obtain ⟨ρ2, ed, ee⟩ := seq_set h2
          refine ⟨⟨e1, e2⟩, fun f cdv A outer s H F0 vs E hr => ?_⟩
          have tail : BD (X17 M f cdv A outer s H E) (callG F0 H vs [.own bs, .v true wd]) ((defBody s17).drop 4) ρ2 (EndP [.own bs, .v true wd] r outs) :=
            blk_ok (M := M) (tab := tabOf tab) (fun st a h => stm_ok [0] 60 ⟨N17, defScope s17, true, cst0, fnsOf tab, cls0⟩ st a h) (show cBlk _ ((defBody s17).drop 4) = some (.seq s17e .nil) by kernel_rfl) _ (n + 3) _ c [true, false] _ o2 _ (okT_of (CX := CX0) (E := E) (pn := []) Φ.hM Φ.kst sc17 hr PassesOwn.never) hc ms17 ee e3
          refine bd_cons (sd_tryN (i := 7) (c := .ref Cs) rfl rfl sc17.nd rfl rfl ⟨rfl, by decide, .inl g1⟩ fun pn xe hp => ?_)
          refine bd_cons (stm_ok (M := M) (tab := tabOf tab) [0] 60 ⟨N17, defScope s17, true, cst0, fnsOf tab, cls0⟩ _ s17d (by kernel_rfl) _ (n + 3) _ c [true, false] _ (.nx ρ2) _ (okT_of (CX := CX0) (E := E) (pn := pn) (xe := xe) Φ.hM Φ.kst sc17 hr hp) hc ms17 ed ?_)
          exact bd_nil tail
      refine ⟨calD (k := n + 3) Φ.t17 sc17 rfl key.1.2 fun f cdv A outer s H F0 vs E hr => ?_, key.1⟩
      have ox : OkT M (tabOf tab) ⟨N17, defScope s17, true, cst0, fnsOf tab, cls0⟩ (n + 3) (X17 M f cdv A outer s H E) := okT_of (CX := CX0) (E := E) (pn := []) Φ.hM Φ.kst sc17 hr PassesOwn.never
      refine bd_cons (stm_ok (M := M) (tab := tabOf tab) [0] 60 ⟨N17, defScope s17, true, cst0, fnsOf tab, cls0⟩ _ s17a (by kernel_rfl) _ (n + 3) _ c [true, false] _ (.nx ρa) _ ox hc ms17 ea ?_)
      refine bd_cons (stm_ok (M := M) (tab := tabOf tab) [0] 60 ⟨N17, defScope s17, true, cst0, fnsOf tab, cls0⟩ _ s17b (by kernel_rfl) _ (n + 3) _ c [true, false] _ (.nx ρb) _ ox hc ms17 eb ?_)
      refine bd_cons (stm_ok (M := M) (tab := tabOf tab) [0] 60 ⟨N17, defScope s17, true, cst0, fnsOf tab, cls0⟩ _ s17c (by kernel_rfl) _ (n + 3) _ c [true, false] _ (.nx ρ1) _ ox hc ms17 ec ?_)
      exact key.2 f cdv A outer s H F0 vs E hr
  · cases h
end K09
namespace K09
open PySem L2 DL RL PyProof.Rows
local macro_rules | `(tactic| k_whileD _ _ _ "ev") => `(tactic| simp only [*, is_non_list, is_non_tuple, is_non_bool, is_non_str, is_non_int, is_non_dict, pl_non, isn_non, is_bl_list, is_bl_tuple, is_bl_bool, is_bl_str, is_bl_int, is_bl_dict, pl_bl, isn_bl, is_int_list, is_int_tuple, is_int_bool, is_int_str, is_int_int, is_int_dict, pl_int, isn_int, is_str_list, is_str_tuple, is_str_bool, is_str_str, is_str_int, is_str_dict, pl_str, isn_str, is_lst_list, is_lst_tuple, is_lst_bool, is_lst_str, is_lst_int, is_lst_dict, pl_lst, isn_lst, is_tup_list, is_tup_tuple, is_tup_bool, is_tup_str, is_tup_int, is_tup_dict, pl_tup, isn_tup, is_dk_list, is_dk_tuple, is_dk_bool, is_dk_str, is_dk_int, is_dk_dict, pl_dk, isn_dk, qv_atN, qv_atL, qv_ixLit, qv_mulL, qv_fdivL, qv_modL, qv_powL, Nat.reduceLT, Nat.reduceLeDiff, Nat.reduceAdd, Nat.zero_add, Nat.add_zero, Int.reduceLT, Int.reduceLE, Int.reducePow, Int.reduceToNat, Int.reduceEq, Int.reduceNeg, Int.reduceAdd, Int.reduceSub, Int.reduceMul, and_self, and_true, true_and, eq_self, not_true_eq_false, not_false_eq_true,
  ob_o, ob_v, ob_n, ob_s, fr_nil, fr_0, fr_s, nt_t, nt_f, iv_cst, iv_bin, iv_neg, iv_no, iv_one, iv_conj, iv_disj, iv_cmp, iv_ite, iv_idx, iv_sl, iv_lst, iv_tup, iv_fn, iv_isi, iv_call, iv_app, iv_ext, iv_pop, iv_rev, iv_count, iv_join, iv_comp, iv_compI, iv_comp2, iv_dk0, bf_int, bf_str, bf_list, bf_tuple, bf_sum, bf_all, bf_any, bf_sorted, bf_lenSet, chk_true,
  b_nil, b_seq, b_set, b_setIx, b_set2, b_expr, b_ret, b_retN, b_ife, b_for, b_pass, b_brk, b_cont, qv_nx, qv_ct, qv_bk, qv_ret, m_own, m_var, m_any,
  e_cst, e_var, e_bin, e_neg, e_no, e_one, e_conj, e_disj, e_cmp, e_ite, e_idxO, e_idxV, e_idx, e_sl, e_lst, e_tup, e_lenO, e_fnV, e_fnL, e_fn, e_isi, e_call, e_app, e_ext, e_pop, e_rev, e_count, e_join, e_comp, e_compI, e_comp2, e_dk0, f_range,
  t_no, t_one, t_conj, t_disj, t_cmp, t_chain, t_varB, t_fn, t_isi, t_call, o_nil, o_one, a_nil, a_cons, a_star, s_nil, s_own, s_var, s_cons, w_range, w_zip, w_enum, w_one,
  Option.bind_some, Option.bind_none, Option.map_some, List.getElem?_cons_zero, List.getElem?_cons_succ, List.set_cons_zero, List.set_cons_succ, chk_pos, List.length_cons, List.length_nil, List.length_map, List.all_cons, List.all_nil, Bool.and_true, Bool.true_and, Bool.false_and, Bool.and_false, Bool.and_self, Bool.not_false, Bool.not_true,
  qv_int, qv_bl, qv_str, qv_toT, qv_toO, qv_toI, qv_toS, qv_toB, qv_toN, qv_fixV, qv_fixO, qv_datV, qv_datO, qv_add, qv_addI, qv_addS, qv_addL, qv_sub, qv_mulC, qv_fdivC, qv_modC, qv_powC, qv_in, qv_nin, qv_is, qv_isnt, qv_eq, qv_ne, qv_eqI, qv_eqS, qv_eqB, qv_lt, qv_le, qv_gt, qv_ge, qv_dle, qv_inS, qv_inL, qv_inT,
  qv_ixL, qv_ixT, qv_ixS, qv_lenL, qv_lenT, qv_lenO, qv_lenS, qv_itO, qv_itL, qv_itT, qv_itL', qv_itT', qv_sqO, qv_sqL, qv_sqT, qv_lsO, qv_lsV, qv_lkO, qv_lkT, qv_lkS, qv_len, qv_intf, qv_strf, qv_list, qv_tupleT, qv_tupleL, qv_tupleO, qv_sum, qv_all, qv_any, qv_sorted, qv_lenSet, qv_slS, qv_slL, qv_slO, qv_wkO, qv_wkL, qv_wkT, qv_wkS, qv_getO0, qv_getOS, qv_varV, qv_varO,
  qv_nvT, qv_nvI, qv_nvS, qv_nvB, qv_nvN, qv_nvO, qv_argV, qv_argO, qv_atp, qv_ixp, qv_isi1, qv_isi2, qv_call, qv_aNil, qv_aCons, qv_aEx, qv_aOwn, qv_aBor, qv_backV, qv_backO, qv_backB, qv_backN, if_true, if_false, Bool.false_eq_true, reduceIte, decide_true, decide_false, Bool.or_true, Bool.true_or, Bool.or_false, Bool.false_or, sc_non, sc_bl, sc_int, sc_str, sc_lst, sc_tup, sc_dk,
  mk_sv, kp_sv, bk_sv, no_sv, x_ext, wp_nil, wp_cons, mk_nil, mk_o, mk_v, mk_n, mg_nil, mg_cons, mg_t, mg_f, kp_v, kp_n, kp_o, bk_same, bk_o, bk_t, bk_f, bk_n, by_nm, by_two, no_nil, no_o, no_v, no_n, rb_v, rb_o, os_nil, os_o, os_v, fin_ret, fin_nx, List.contains_cons, List.contains_nil, Nat.reduceBEq, Nat.reduceEqDiff, List.nodup_cons, List.nodup_nil, varsOf, List.not_mem_nil, List.mem_cons, List.mem_singleton, or_false, false_or, or_true, true_or, decide_eq_true_eq, Tgt.ix, isOwn, List.map_cons, List.map_nil, List.cons_append, List.nil_append])
theorem fault_cases (d : D) : faultD d = .non ∨ ∃ t : Int, faultD d = .int t := by
  unfold faultD
  split
  · exact .inr ⟨_, rfl⟩
  · split
    · exact .inr ⟨_, rfl⟩
    · split
      · exact .inr ⟨_, rfl⟩
      · exact .inl rfl
theorem fine_bent {W : List Wish} {ns : List Str} (h : FineW W) (hg : ∀ r ∈ W, GoodR ns r) (h3 : W.length ≤ 3) : BWish 3 4 (wishD false W) := by
  refine .inr ⟨false, W.map rowD, rfl, by rw [List.length_map]; exact h3, fun r hr => ?_⟩
  obtain ⟨q, hq, rfl⟩ := List.mem_map.mp hr
  refine .inr ⟨q.1, q.2.map .str, rfl, by rw [List.length_map]; exact (hg q hq).ln, fun y hy => ?_⟩
  obtain ⟨z, hz, rfl⟩ := List.mem_map.mp hy
  have := name_len (h.nm q hq z hz)
  show z.length ≤ 100
  omega
theorem pre17 {n : Nat} {B : Bag} (hB : B.Ok) {Wd : D} (h : BWish 3 4 Wd) : ∃ d' : D, ∃ B2 : Bag, ∃ a3 : Option Slot, B2.Ok ∧ BWish 5 6 d' ∧
    evB (csT tab (n + 3)) [true, false] (.seq s17a (.seq s17b (.seq s17c .nil))) [some (.own B.ds), some (.v true Wd), none, none, none, none, none, none] = some (.nx [some (.own B2.ds), some (.v true Wd), some (.v true d'), a3, none, some (.v true (faultD d')), none, none]) := by
  have m9 : (csT tab (n + 3)).M 9 = [true, false] := cs_M (T := tab) (f := 9) rfl
  have m15 : (csT tab (n + 3)).M 15 = [false] := cs_M (T := tab) (f := 15) rfl
  obtain ⟨m, hm, o⟩ := of_nats (n := n + 1) hB (ms := [1, 1, 2]) (by decide) (by decide) (k := true)
  have o9 : (csT tab (n + 3)).C 9 [.own B.ds, .v true (.lst [.int 1, .int 1, .int 2])] = some (.val (.int (m : Nat)), [.own (B.next 3).ds, .v true (.lst [.int 1, .int 1, .int 2])]) := o
  have hm2 : m ≤ 2 := by
    have : ∀ m ∈ [1, 1, 2], m ≤ 2 := by decide
    exact this m hm
  have hN := next_ok hB (t := 3) (by omega)
  obtain ⟨d', B2, a3, g1, g2, g3⟩ := bends_loop (n := n) hN (Wd := Wd) h hm2
  have w := wrong_spec (n := n + 1) (k := true) (g2.ok (by omega) (by omega))
  refine ⟨d', B2, a3, g1, g2, ?_⟩
  have hsz := size_eq
  have s3 : 3 ≤ sizeLine := by omega
  have r1 : (-4611686018427387904 : Int) ≤ ((m : Nat) : Int) ∧ ((m : Nat) : Int) < 4611686018427387904 := ⟨by omega, by omega⟩
  have r2 : (((m : Nat) : Int)).toNat = m := rfl
  generalize B.next 3 = B0 at *
  generalize faultD d' = fd at *
  clear hB hm o hm2 hN g1 g2 h hsz
  unfold s17a s17b s17c
  k_whileD _ _ _ "ev"
theorem refuses (n : Nat) : Refuses (n + 4) := by
  intro W ns hW hg h3 B hB
  obtain ⟨d, B2, a3, g1, g2, e1⟩ := pre17 (n := n) hB (fine_bent hW hg h3)
  have hk : (csT tab (n + 4)).C 17 [.own B.ds, .v true (wishD false W)] = h17 (csT tab (n + 3)) (csT tab (n + 2)) [.own B.ds, .v true (wishD false W)] := call_hook (T := tab) (f := 17) rfl rfl
  rw [hk]
  unfold h17
  dsimp only
  rw [e1]
  dsimp only [Option.bind_some]
  have hgv : gv [some (.own B2.ds), some (.v true (wishD false W)), some (.v true d), a3, none, some (.v true (faultD d)), none, none] 5 = some (faultD d) := rfl
  rw [hgv]
  have dr := draw_spec (n := n + 2) g1 (t := 2) (by omega) (by omega) (k := true)
  have m8 : (csT tab (n + 3)).M 8 = [true, false] := cs_M (T := tab) (f := 8) rfl
  have hN := next_ok g1 (t := 2) (by omega)
  have test : evT (csT tab (n + 3)) [true, false] q17 [some (.own B2.ds), some (.v true (wishD false W)), some (.v true d), a3, none, some (.v true (faultD d)), none, none] = some (decide (B2.digit 2 = 0), [some (.own (B2.next 2).ds), some (.v true (wishD false W)), some (.v true d), a3, none, some (.v true (faultD d)), none, none]) := by
    generalize B2.digit 2 = q at *
    generalize B2.next 2 = B3 at *
    generalize faultD d = fd at *
    generalize wishD false W = Wd at *
    clear hk e1 hgv g1 g2 hN hB
    unfold q17
    k_whileD _ _ _ "ev"
  rcases fault_cases d with hf | ⟨t, hf⟩
  · obtain ⟨b, W2, rfl, hW2⟩ := g2.fine (by omega) (by omega) hf
    refine ⟨B2.next 2, hN, ?_⟩
    rw [hf] at test ⊢
    dsimp only
    have due := due_fine (n := n + 2) (k := true) (b := b) hW2
    have wy := ways_fine (n := n) (k := true) (b := b) hW2
    obtain ⟨wl1, wl2⟩ := ways_len hW2.wlen
    have hsz := size_eq
    have okw := ok_ways (waysOf W2) (by omega) (fun w hw => by have := wl2 w hw; omega) 0
    have like2 := like_spec 2 (n := n) okw true true
    have m3 : (csT tab (n + 3)).M 3 = [false] := cs_M (T := tab) (f := 3) rfl
    have m10 : (csT tab (n + 3)).M 10 = [false, false] := cs_M (T := tab) (f := 10) rfl
    have m13 : (csT tab (n + 3)).M 13 = [false] := cs_M (T := tab) (f := 13) rfl
    have t1 : evB (csT tab (n + 3)) [true, false] (.seq s17d (.seq s17e .nil)) [some (.own B2.ds), some (.v true (wishD false W)), some (.v true (wishD b W2)), a3, none, some (.v true .non), none, none] = some (.ret (.val (.bl true)) [some (.own (B2.next 2).ds), some (.v true (wishD false W)), some (.v true (wishD b W2)), a3, none, some (.v true .non), some (.v true (.lst ((waysOf W2).map tupS))), none]) := by
      generalize (waysOf W2).map tupS = Q at *
      generalize decide (B2.digit 2 = 0) = q at *
      generalize B2.next 2 = B3 at *
      generalize wishD false W = Wd at *
      generalize wishD b W2 = W3 at *
      clear hk e1 hgv g1 hN hB hf wl1 wl2 okw dr hsz
      unfold s17d s17e
      cases q with
      | true => k_whileD _ _ _ "ev"
      | false => k_whileD _ _ _ "ev"
    rw [t1]
    show finS _ (.ret _ _) = _
    rw [fin_ret, chk_pos (show RL.resB (.val (.bl true)) = true from rfl)]
    rfl
  · refine ⟨B2.next 2, hN, ?_⟩
    rw [hf] at test ⊢
    dsimp only
    rw [test]
    have fs := fault_spec (n := n) (k := true) (g2.ok (by omega) (by omega))
    rw [hf] at fs
    show fin17 (csT tab (n + 2)) [.own B.ds, .v true (wishD false W)] [some (.own (B2.next 2).ds), some (.v true (wishD false W)), some (.v true d), a3, none, some (.v true (.int t)), none, none] = _
    unfold fin17
    show (match D.int t, (csT tab (n + 2)).C 4 [.v true d] with
      | .int t, some (.v true (.int i), _) => if i = t ∧ _ = 8 then _ else none
      | _, _ => none) = _
    rw [fs]
    show (if t = t ∧ _ = 8 then _ else none) = _
    rw [if_pos ⟨rfl, rfl⟩]
    rfl
end K09
/-! K32: what the program's top leaves: facts of defs and classes. -/
namespace K09
open PySem PySem.Spec L2 L2H DL RL PyProof.Rows HE
/-! ### an own error class -/
def oexB (K : PySem.W.Frag) (C : Addr) : Bool := match K.lookup C with
  | some ⟨.type "type", _, .cls cd, sl⟩ => (match cd.mro, sl.toList with
    | .ref C' :: bm, [_, _, _, _, some (.builtin n), _] => C' == C && n == "ValueError.__new__" && !cd.hasDel && cd.hasDict && PySem.HandSPX.refsVE bm
    | _, _ => false)
  | _ => false
theorem oexB_ok {K : PySem.W.Frag} {C : Addr} (q : oexB K C = true) : ∃ nm q N bs bm sn sub ab col dd k0 k1 k2 k3 k5, K.lookup C = some (excClassObj nm q C N bs bm true sn sub ab col dd k0 k1 k2 k3 k5 "ValueError.__new__") ∧ PySem.HandSPX.refsVE bm = true := by
  unfold oexB at q
  split at q
  · rename_i dd cd sl ho
    split at q
    · rename_i C' bm k0 k1 k2 k3 n k5 hm hs
      simp only [Bool.and_eq_true, beq_iff_eq, Bool.not_eq_true'] at q
      obtain ⟨⟨⟨⟨rfl, rfl⟩, hdel⟩, hdc⟩, hbm⟩ := q
      obtain ⟨nm, bs, mro, ns, qn, hd, sn, sub, ab, col, del⟩ := cd
      dsimp only at hm hdel hdc
      subst hm hdel hdc
      have hsl : sl = #[k0, k1, k2, k3, some (.builtin "ValueError.__new__"), k5] := by
        obtain ⟨l⟩ := sl
        simp only at hs
        rw [hs]
      subst hsl
      exact ⟨nm, qn, ns, bs, bm, sn, sub, ab, col, dd, k0, k1, k2, k3, k5, ho, hbm⟩
    · cases q
  · cases q
def excB (K : PySem.W.Frag) (D : Addr) : Bool := decide (PySem.W.findIn K (.ref D) "__getattribute__" = some (some (.builtin "BaseException.__getattribute__"))) && (decide (PySem.W.findIn K (.ref D) "__getattr__" = some none) && (decide (PySem.W.subIn K (.ref D) (.type "BaseException") = some true) && (PySem.W.hasDictIn K D &&
  (decide (PySem.W.findIn K (.ref D) "__class__" = some (some (.builtin "object.__class__"))) && (decide (PySem.W.specialIn K (.builtin "object.__class__") "__get__" = some (some (.builtin "getset_descriptor.__get__"))) && (decide (PySem.W.takesIn K (.builtin "object.__class__") = some true) && decide (PySem.W.mroIn K D (.type "object") = some true)))))))
theorem excB_ok {K : PySem.W.Frag} {D : Addr} (h : excB K D = true) : ExcC K D := by
  unfold excB at h
  simp only [Bool.and_eq_true, decide_eq_true_eq] at h
  obtain ⟨h1, h2, h3, h4, h5, h6, h7, h8⟩ := h
  exact ⟨h1, h2, h3, h4, h5, h6, h7, h8⟩
/-- all that is asked of an error class (its __init__ at fI) -/
def errB (K : PySem.W.Frag) (C fI : Addr) (f : Str) : Bool := oexB K C && (decide (PySem.W.findIn K (.ref C) "__setattr__" = some (some (.builtin "object.__setattr__"))) && (decide (PySem.W.subIn K (.ref C) (.type "BaseException") = some true) && (decide (PySem.W.typeIn K (.ref C) = some (.type "type")) && (PySem.W.keepIn K (.ref C) &&
  (decide (PySem.W.findIn K (.ref C) "__init__" = some (some (.ref fI))) && (decide (PySem.W.typeIn K (.ref fI) = some (.type "function")) && (decide (PySem.W.findIn K (.ref C) "code" = some none) && (decide (PySem.W.findIn K (.ref C) f = some none) && (xfB K C && excB K C)))))))))
structure ErrK (K : PySem.W.Frag) (C fI : Addr) (f : Str) : Prop where
  T : OexC K C
  iC : PySem.W.findIn K (.ref C) "__init__" = some (some (.ref fI))
  tI : PySem.W.typeIn K (.ref fI) = some (.type "function")
  n1 : PySem.W.findIn K (.ref C) "code" = some none
  n2 : PySem.W.findIn K (.ref C) f = some none
  xf : XfC K C
  ex : ExcC K C
theorem errB_ok {K : PySem.W.Frag} {C fI : Addr} {f : Str} (h : errB K C fI f = true) : ErrK K C fI f := by
  unfold errB at h
  simp only [Bool.and_eq_true, decide_eq_true_eq] at h
  obtain ⟨h1, h2, h3, h4, h5, h6, h7, h8, h9, h10, h11⟩ := h
  exact ⟨⟨oexB_ok h1, h2, h3, h4, h5⟩, h6, h7, h8, h9, xfB_ok h10, excB_ok h11⟩
theorem fun_of {K : PySem.W.Frag} {x qual : Str} {st : Stmt} {f : Addr} {fd : FuncData} (F : FunD K x qual (defArgs st) (defBody st) (defScope st) [] [] f fd) : Fun K x qual st f fd := by
  obtain ⟨oc, od, dV, kV, doc, pm, an, cdv, ct, osl, h1, h2, h3, h4, _⟩ := F.ex
  rcases h4 with ⟨_, rfl⟩ | ⟨h4, _⟩
  · exact ⟨⟨oc, od, kV, doc, pm, an, cdv, ct, osl, h1, h2, h3⟩, F.kp⟩
  · exact absurd rfl h4
/-- how a def's arguments bind, looked at -/
structure BindB (x qual : Str) (st : Stmt) (ps : List Str) : Prop where
  p : ∀ (kV doc pm : Value) (an : Option Addr) (cdv ct : Value) (us : List Value), us.length = ps.length → bindArgs (PySem.W.fnOf x qual (defArgs st) (defBody st) (defScope st) .none kV doc pm an cdv ct) ⟨us, []⟩ = pure (ps.zip us)
  k : ∀ (kV doc pm : Value) (an : Option Addr) (cdv ct : Value) (us : List Value), us.length = ps.length → bindArgs (PySem.W.fnOf x qual (defArgs st) (defBody st) (defScope st) .none kV doc pm an cdv ct) ⟨[], ps.zip us⟩ = pure (ps.zip us)
theorem kb0_of {K : PySem.W.Frag} {x qual : Str} {st : Stmt} {f : Addr} {fd : FuncData} {ps : List Str} (F : Fun K x qual st f fd) (b : BindB x qual st ps) : KB0 K fd ps := by
  obtain ⟨oc, od, kV, doc, pm, an, cdv, ct, osl, rfl, lk, hcd⟩ := F.ex
  exact ⟨fun s ws _ hl => .of_eq (b.k kV doc pm an cdv ct ws hl)⟩
theorem defAt_of {K : PySem.W.Frag} {mg : Str → Option Value} {x : Str} {st : Stmt} {ps : List Str} {f : Addr} {fd : FuncData} (F : FunD K x x (defArgs st) (defBody st) (defScope st) [] [] f fd) (hm : mg x = some (.ref f)) (b : BindB x x st ps) : DefAt K mg x st ps :=
  ⟨f, fd, fun_of F, hm, F.kp, (fun_of F).binds b.p, kb0_of (fun_of F) b⟩
end K09
/-! K33: the facts that the head tells. -/
namespace K09
open PySem PySem.Spec L2 L2H DL RL PyProof.Rows HE
def dOf (i : Nat) (x : Str) : He.DefD := ⟨(x, none), x, x, defArgs (top i), defBody (top i), defScope (top i), [], []⟩
def sInit : Stmt := match top 11 with
  | .ClassDef _ _ _ b _ _ _ _ _ _ _ => b.getD 0 (top 0)
  | s => s
def dI : He.DefD := ⟨("InvalidWishes", some "__init__"), "__init__", "InvalidWishes.__init__", defArgs sInit, defBody sInit, defScope sInit, [], []⟩
def fnL : List He.DefD := [dI, dOf 4 "is_name", dOf 7 "is_listing", dOf 8 "has_double", dOf 14 "ways", dOf 15 "wishes_fault", dOf 16 "_all_places", dOf 17 "_way_at", dOf 19 "_law_bag", dOf 20 "_law_draw", dOf 21 "_law_of", dOf 22 "_law_like", dOf 23 "_law_name_form", dOf 24 "_law_name", dOf 25 "_law_ways", dOf 26 "_law_wants", dOf 27 "_law_wants_wrong", dOf 28 "_law_bent_wants", dOf 29 "_law_refused_so", dOf 30 "_law_wider_so", dOf 31 "law"]
def gnL : List Str := ["is_name", "is_listing", "has_double", "ways", "wishes_fault", "_all_places", "_way_at", "_law_bag", "_law_draw", "_law_of", "_law_like", "_law_name_form", "_law_name", "_law_ways", "_law_wants", "_law_wants_wrong", "_law_bent_wants", "_law_refused_so", "_law_wider_so", "law", "SeatError", "InvalidWishes", "InvalidClause"]
def faL : List He.Fa := gnL.map He.Fa.glo ++ (bltN.map He.Fa.free ++ [.str "LETTERS" "ABCDEFGHIJKLMNOPQRSTUVWXYZabcdefghijklmnopqrstuvwxyz", .str "DIGITS" "0123456789", .str "OUT" "-", .int "LONGEST_NAME" 12, .exm "InvalidWishes" "SeatError" true])
def aC (K : PySem.W.Frag) : Addr := He.ga K "InvalidWishes"
def aI (K : PySem.W.Frag) : Addr := He.ma K (aC K) "__init__"
/-- no list among the module's objects -/
def noLst (K : PySem.W.Frag) : Bool := K.all fun q => match q.2.cls with
  | .type c => !(c == "list")
  | _ => true
def exB (K : PySem.W.Frag) : Bool := errB K (aC K) (aI K) "at" && (decide (PySem.W.kitOne K (.ref (aC K)) (.ref (aC K)) = some true) && (decide (PySem.W.kitOne K (.ref (aC K)) (.ref (He.ga K "InvalidClause")) = some false) && noLst K))
abbrev hk : PySem.W.Hook := He.hookX 5 faL fnL [] [] exB
def ob (s : PySem.W.SharedT) : He.AlX := He.obsX 5 faL fnL [] [] exB (HandSHeadRun.getT s)
theorem ob_eq (s : PySem.W.SharedT) : ob s = hk.obs s.abs := He.obsX_eq (HandSHeadRun.getT_eq s)
abbrev Rw : PySem.W.OpenRow := PySem.W.OpenLaw.row PySem.Challenge.rw_nearseats_k09_whole_ways_in_order
def loose : List Str := ["is_name", "is_listing", "has_double", "ways", "wishes_fault", "_all_places", "_way_at", "_law_bag", "_law_draw", "_law_of", "_law_like", "_law_name_form", "_law_name", "_law_ways", "_law_wants", "_law_wants_wrong", "_law_bent_wants", "_law_refused_so", "_law_wider_so", "LETTERS", "DIGITS", "LONGEST_NAME", "OUT", "SeatError", "InvalidWishes", "InvalidClause"]
theorem run (w : World) : HandSHeadRun.RunEq Rw (PySem.W.view Rw.prog [31]) hk ob 2000 loose w := by
  intro os
  kernel_rfl
end K09
/-! K34: the table holds of what the top leaves. -/
namespace K09
open PySem PySem.Spec L2 L2H DL RL PyProof.Rows HE
/-! ### how each def's arguments bind -/
theorem bd4 : BindB "is_name" "is_name" (top 4) ["value"] := ⟨fun _ _ _ _ _ _ us hl => match us, hl with | [_], _ => rfl, fun _ _ _ _ _ _ us hl => match us, hl with | [_], _ => rfl⟩
theorem fS4 : FnScope ["value", "sign"] ["value"] (defScope (top 4)) := ⟨rfl, rfl, rfl, by decide +kernel, rfl, by decide +kernel, by decide +kernel⟩
theorem bd7 : BindB "is_listing" "is_listing" (top 7) ["value"] := ⟨fun _ _ _ _ _ _ us hl => match us, hl with | [_], _ => rfl, fun _ _ _ _ _ _ us hl => match us, hl with | [_], _ => rfl⟩
theorem fS7 : FnScope ["value"] ["value"] (defScope (top 7)) := ⟨rfl, rfl, rfl, by decide +kernel, rfl, by decide +kernel, by decide +kernel⟩
theorem bd8 : BindB "has_double" "has_double" (top 8) ["items"] := ⟨fun _ _ _ _ _ _ us hl => match us, hl with | [_], _ => rfl, fun _ _ _ _ _ _ us hl => match us, hl with | [_], _ => rfl⟩
theorem fS8 : FnScope ["items"] ["items"] (defScope (top 8)) := ⟨rfl, rfl, rfl, by decide +kernel, rfl, by decide +kernel, by decide +kernel⟩
theorem bd14 : BindB "ways" "ways" (top 14) ["wishes"] := ⟨fun _ _ _ _ _ _ us hl => match us, hl with | [_], _ => rfl, fun _ _ _ _ _ _ us hl => match us, hl with | [_], _ => rfl⟩
theorem fS14 : FnScope ["wishes", "at", "ranked", "places", "found", "_", "way"] ["wishes"] (defScope (top 14)) := ⟨rfl, rfl, rfl, by decide +kernel, rfl, by decide +kernel, by decide +kernel⟩
theorem bd15 : BindB "wishes_fault" "wishes_fault" (top 15) ["wishes"] := ⟨fun _ _ _ _ _ _ us hl => match us, hl with | [_], _ => rfl, fun _ _ _ _ _ _ us hl => match us, hl with | [_], _ => rfl⟩
theorem fS15 : FnScope ["wishes", "at", "rooms", "room"] ["wishes"] (defScope (top 15)) := ⟨rfl, rfl, rfl, by decide +kernel, rfl, by decide +kernel, by decide +kernel⟩
theorem bd16 : BindB "_all_places" "_all_places" (top 16) ["wishes"] := ⟨fun _ _ _ _ _ _ us hl => match us, hl with | [_], _ => rfl, fun _ _ _ _ _ _ us hl => match us, hl with | [_], _ => rfl⟩
theorem fS16 : FnScope ["wishes", "rows", "rooms", "row", "place"] ["wishes"] (defScope (top 16)) := ⟨rfl, rfl, rfl, by decide +kernel, rfl, by decide +kernel, by decide +kernel⟩
theorem bd17 : BindB "_way_at" "_way_at" (top 17) ["wishes", "places"] := ⟨fun _ _ _ _ _ _ us hl => match us, hl with | [_, _], _ => rfl, fun _ _ _ _ _ _ us hl => match us, hl with | [_, _], _ => rfl⟩
theorem fS17 : FnScope ["wishes", "places", "rooms", "place"] ["wishes", "places"] (defScope (top 17)) := ⟨rfl, rfl, rfl, by decide +kernel, rfl, by decide +kernel, by decide +kernel⟩
theorem bd19 : BindB "_law_bag" "_law_bag" (top 19) ["script"] := ⟨fun _ _ _ _ _ _ us hl => match us, hl with | [_], _ => rfl, fun _ _ _ _ _ _ us hl => match us, hl with | [_], _ => rfl⟩
theorem fS19 : FnScope ["script", "mix", "item"] ["script"] (defScope (top 19)) := ⟨rfl, rfl, rfl, by decide +kernel, rfl, by decide +kernel, by decide +kernel⟩
theorem bd20 : BindB "_law_draw" "_law_draw" (top 20) ["bag", "top"] := ⟨fun _ _ _ _ _ _ us hl => match us, hl with | [_, _], _ => rfl, fun _ _ _ _ _ _ us hl => match us, hl with | [_, _], _ => rfl⟩
theorem fS20 : FnScope ["bag", "top", "item", "digit"] ["bag", "top"] (defScope (top 20)) := ⟨rfl, rfl, rfl, by decide +kernel, rfl, by decide +kernel, by decide +kernel⟩
theorem bd21 : BindB "_law_of" "_law_of" (top 21) ["bag", "things"] := ⟨fun _ _ _ _ _ _ us hl => match us, hl with | [_, _], _ => rfl, fun _ _ _ _ _ _ us hl => match us, hl with | [_, _], _ => rfl⟩
theorem fS21 : FnScope ["bag", "things"] ["bag", "things"] (defScope (top 21)) := ⟨rfl, rfl, rfl, by decide +kernel, rfl, by decide +kernel, by decide +kernel⟩
theorem bd22 : BindB "_law_like" "_law_like" (top 22) ["told", "due"] := ⟨fun _ _ _ _ _ _ us hl => match us, hl with | [_, _], _ => rfl, fun _ _ _ _ _ _ us hl => match us, hl with | [_, _], _ => rfl⟩
theorem fS22 : FnScope ["told", "due", "a", "b"] ["told", "due"] (defScope (top 22)) := ⟨rfl, rfl, rfl, by decide +kernel, rfl, by decide +kernel, by decide +kernel⟩
theorem bd23 : BindB "_law_name_form" "_law_name_form" (top 23) ["item"] := ⟨fun _ _ _ _ _ _ us hl => match us, hl with | [_], _ => rfl, fun _ _ _ _ _ _ us hl => match us, hl with | [_], _ => rfl⟩
theorem fS23 : FnScope ["item", "x"] ["item"] (defScope (top 23)) := ⟨rfl, rfl, rfl, by decide +kernel, rfl, by decide +kernel, by decide +kernel⟩
theorem bd24 : BindB "_law_name" "_law_name" (top 24) ["bag", "taken"] := ⟨fun _ _ _ _ _ _ us hl => match us, hl with | [_, _], _ => rfl, fun _ _ _ _ _ _ us hl => match us, hl with | [_, _], _ => rfl⟩
theorem fS24 : FnScope ["bag", "taken", "pick", "mine", "n", "free", "x"] ["bag", "taken"] (defScope (top 24)) := ⟨rfl, rfl, rfl, by decide +kernel, rfl, by decide +kernel, by decide +kernel⟩
theorem bd25 : BindB "_law_ways" "_law_ways" (top 25) ["wants"] := ⟨fun _ _ _ _ _ _ us hl => match us, hl with | [_], _ => rfl, fun _ _ _ _ _ _ us hl => match us, hl with | [_], _ => rfl⟩
theorem fS25 : FnScope ["wants", "rows", "want", "longer", "row", "p", "mine", "cost", "n"] ["wants"] (defScope (top 25)) := ⟨rfl, rfl, rfl, by decide +kernel, rfl, by decide +kernel, by decide +kernel⟩
theorem bd26 : BindB "_law_wants" "_law_wants" (top 26) ["bag", "names", "top"] := ⟨fun _ _ _ _ _ _ us hl => match us, hl with | [_, _, _], _ => rfl, fun _ _ _ _ _ _ us hl => match us, hl with | [_, _, _], _ => rfl⟩
theorem fS26 : FnScope ["bag", "names", "top", "mine", "n", "rest", "mixed", "m"] ["bag", "names", "top"] (defScope (top 26)) := ⟨rfl, rfl, rfl, by decide +kernel, rfl, by decide +kernel, by decide +kernel⟩
theorem bd27 : BindB "_law_wants_wrong" "_law_wants_wrong" (top 27) ["item"] := ⟨fun _ _ _ _ _ _ us hl => match us, hl with | [_], _ => rfl, fun _ _ _ _ _ _ us hl => match us, hl with | [_], _ => rfl⟩
theorem fS27 : FnScope ["item", "n", "x", "mine"] ["item"] (defScope (top 27)) := ⟨rfl, rfl, rfl, by decide +kernel, rfl, by decide +kernel, by decide +kernel⟩
theorem bd28 : BindB "_law_bent_wants" "_law_bent_wants" (top 28) ["bag", "wants"] := ⟨fun _ _ _ _ _ _ us hl => match us, hl with | [_, _], _ => rfl, fun _ _ _ _ _ _ us hl => match us, hl with | [_, _], _ => rfl⟩
theorem fS28 : FnScope ["bag", "wants", "strange", "spot", "pick", "want", "x", "gap", "odd"] ["bag", "wants"] (defScope (top 28)) := ⟨rfl, rfl, rfl, by decide +kernel, rfl, by decide +kernel, by decide +kernel⟩
theorem bd29 : BindB "_law_refused_so" "_law_refused_so" (top 29) ["bag", "wants"] := ⟨fun _ _ _ _ _ _ us hl => match us, hl with | [_, _], _ => rfl, fun _ _ _ _ _ _ us hl => match us, hl with | [_, _], _ => rfl⟩
theorem fS29 : FnScope ["bag", "wants", "mine", "n", "x", "due", "told", "error"] ["bag", "wants"] (defScope (top 29)) := ⟨rfl, rfl, rfl, by decide +kernel, rfl, by decide +kernel, by decide +kernel⟩
theorem bd30 : BindB "_law_wider_so" "_law_wider_so" (top 30) ["bag", "names", "wants"] := ⟨fun _ _ _ _ _ _ us hl => match us, hl with | [_, _, _], _ => rfl, fun _ _ _ _ _ _ us hl => match us, hl with | [_, _, _], _ => rfl⟩
theorem fS30 : FnScope ["bag", "names", "wants", "fresh", "told", "want", "kept", "x"] ["bag", "names", "wants"] (defScope (top 30)) := ⟨rfl, rfl, rfl, by decide +kernel, rfl, by decide +kernel, by decide +kernel⟩
theorem bd31 : BindB "law" "law" (top 31) ["script"] := ⟨fun _ _ _ _ _ _ us hl => match us, hl with | [_], _ => rfl, fun _ _ _ _ _ _ us hl => match us, hl with | [_], _ => rfl⟩
theorem fS31 : FnScope ["script", "bag", "lap", "names", "n", "wants", "due", "handed", "want", "told", "flat", "trial"] ["script"] (defScope (top 31)) := ⟨rfl, rfl, rfl, by decide +kernel, rfl, by decide +kernel, by decide +kernel⟩
theorem bdI : BindB "__init__" "InvalidWishes.__init__" sInit ["self", "at"] := ⟨fun _ _ _ _ _ _ us hl => match us, hl with | [_, _], _ => rfl, fun _ _ _ _ _ _ us hl => match us, hl with | [_, _], _ => rfl⟩
theorem fSI : FnScope ["self", "at"] ["self", "at"] (defScope sInit) := ⟨rfl, rfl, rfl, by decide +kernel, rfl, by decide +kernel, by decide +kernel⟩
noncomputable def tD (n : Nat) : De := tab.getD n ⟨"", [], [], top 0, [], [], .nil, none⟩
theorem cm4 : cBlk (compS (tD 0).mu 60 (gaOf tab cst0 cls0 (tD 0))) (defBody (top 4)) = some cs_is_name := by kernel_rfl
theorem cm7 : cBlk (compS (tD 1).mu 60 (gaOf tab cst0 cls0 (tD 1))) (defBody (top 7)) = some cs_is_listing := by kernel_rfl
theorem cm8 : cBlk (compS (tD 2).mu 60 (gaOf tab cst0 cls0 (tD 2))) (defBody (top 8)) = some cs_has_double := by kernel_rfl
theorem cm14 : cBlk (compS (tD 3).mu 60 (gaOf tab cst0 cls0 (tD 3))) (defBody (top 14)) = some cs_ways := by kernel_rfl
theorem cm15 : cBlk (compS (tD 4).mu 60 (gaOf tab cst0 cls0 (tD 4))) (defBody (top 15)) = some cs_wishes_fault := by kernel_rfl
theorem cm16 : cBlk (compS (tD 5).mu 60 (gaOf tab cst0 cls0 (tD 5))) (defBody (top 16)) = some cs__all_places := by kernel_rfl
theorem cm17 : cBlk (compS (tD 6).mu 60 (gaOf tab cst0 cls0 (tD 6))) (defBody (top 17)) = some cs__way_at := by kernel_rfl
theorem cm19 : cBlk (compS (tD 7).mu 60 (gaOf tab cst0 cls0 (tD 7))) (defBody (top 19)) = some cs__law_bag := by kernel_rfl
theorem cm20 : cBlk (compS (tD 8).mu 60 (gaOf tab cst0 cls0 (tD 8))) (defBody (top 20)) = some cs__law_draw := by kernel_rfl
theorem cm21 : cBlk (compS (tD 9).mu 60 (gaOf tab cst0 cls0 (tD 9))) (defBody (top 21)) = some cs__law_of := by kernel_rfl
theorem cm22 : cBlk (compS (tD 10).mu 60 (gaOf tab cst0 cls0 (tD 10))) (defBody (top 22)) = some cs__law_like := by kernel_rfl
theorem cm23 : cBlk (compS (tD 11).mu 60 (gaOf tab cst0 cls0 (tD 11))) (defBody (top 23)) = some cs__law_name_form := by kernel_rfl
theorem cm24 : cBlk (compS (tD 12).mu 60 (gaOf tab cst0 cls0 (tD 12))) (defBody (top 24)) = some cs__law_name := by kernel_rfl
theorem cm25 : cBlk (compS (tD 13).mu 60 (gaOf tab cst0 cls0 (tD 13))) (defBody (top 25)) = some cs__law_ways := by kernel_rfl
theorem cm26 : cBlk (compS (tD 14).mu 60 (gaOf tab cst0 cls0 (tD 14))) (defBody (top 26)) = some cs__law_wants := by kernel_rfl
theorem cm27 : cBlk (compS (tD 15).mu 60 (gaOf tab cst0 cls0 (tD 15))) (defBody (top 27)) = some cs__law_wants_wrong := by kernel_rfl
theorem cm28 : cBlk (compS (tD 16).mu 60 (gaOf tab cst0 cls0 (tD 16))) (defBody (top 28)) = some cs__law_bent_wants := by kernel_rfl
theorem cm30 : cBlk (compS (tD 18).mu 60 (gaOf tab cst0 cls0 (tD 18))) (defBody (top 30)) = some cs__law_wider_so := by kernel_rfl
theorem cm31 : cBlk (compS (tD 19).mu 60 (gaOf tab cst0 cls0 (tD 19))) (defBody (top 31)) = some cs_law := by kernel_rfl
end K09
/-! K35: the law's def over what the top leaves. -/
namespace K09
open PySem PySem.Spec L2 L2H DL RL PyProof.Rows HE
structure Facts (K : PySem.W.Frag) (mg : Str → Option Value) : Prop where
  glo : ∀ x ∈ gnL, mg x = some (.ref (He.ga K x))
  blt : ∀ n ∈ bltN, mg n = none
  lt : ∃ t, mg "LETTERS" = some (.str "ABCDEFGHIJKLMNOPQRSTUVWXYZabcdefghijklmnopqrstuvwxyz" t)
  dg : ∃ t, mg "DIGITS" = some (.str "0123456789" t)
  ou : ∃ t, mg "OUT" = some (.str "-" t)
  ln : ∃ t, mg "LONGEST_NAME" = some (.int 12 t)
  fn : ∀ d ∈ fnL, ∃ fd, FunD K d.name d.qual d.params d.body d.scope (d.dvs K) (d.kws K) (He.fAd K d.at_) fd
  exm : PySem.W.exmOne K (.ref (aC K)) (.ref (He.ga K "SeatError")) = some true
  er : ErrK K (aC K) (aI K) "at"
  z1 : PySem.W.kitOne K (.ref (aC K)) (.ref (aC K)) = some true
  z2 : PySem.W.kitOne K (.ref (aC K)) (.ref (He.ga K "InvalidClause")) = some false
  nl : noLst K = true
theorem facts_of {K : PySem.W.Frag} {h : Heap} {w : World} {mg : Str → Option Value} (X : K.In h) (G : h.Ns mainGlobals mg) (c : He.SaysX faL fnL [] [] exB w h K) : Facts K mg := by
  have d := c.t.d
  have g : ∀ x ∈ gnL, (He.Fa.glo x).ok K = true := fun x hx => d.facts (List.mem_append.mpr (.inl (List.mem_map.mpr ⟨x, hx, rfl⟩)))
  have b : ∀ x ∈ bltN, (He.Fa.free x).ok K = true := fun x hx => d.facts (List.mem_append.mpr (.inr (List.mem_append.mpr (.inl (List.mem_map.mpr ⟨x, hx, rfl⟩)))))
  have r : ∀ f ∈ ([.str "LETTERS" "ABCDEFGHIJKLMNOPQRSTUVWXYZabcdefghijklmnopqrstuvwxyz", .str "DIGITS" "0123456789", .str "OUT" "-", .int "LONGEST_NAME" 12, .exm "InvalidWishes" "SeatError" true] : List He.Fa), f.ok K = true := fun f hf => d.facts (List.mem_append.mpr (.inr (List.mem_append.mpr (.inr hf))))
  have e := c.more
  unfold exB at e
  simp only [Bool.and_eq_true, decide_eq_true_eq] at e
  obtain ⟨e1, e2, e3, e4⟩ := e
  exact ⟨fun x hx => He.glo_ok X G (g x hx), fun x hx => He.free_ok X G (b x hx), He.str_ok X G (r _ (.head _)), He.str_ok X G (r _ (.tail _ (.head _))), He.str_ok X G (r _ (.tail _ (.tail _ (.head _)))), He.int_ok X G (r _ (.tail _ (.tail _ (.tail _ (.head _))))),
    fun x hx => d.defs hx, He.exm_ok (r _ (.tail _ (.tail _ (.tail _ (.tail _ (.head _)))))), errB_ok e1, e2, e3, e4⟩
section
variable {K : PySem.W.Frag} {mg : Str → Option Value} (Φ : Facts K mg)
include Φ
theorem th4 : DefAt K mg "is_name" (top 4) ["value"] := by
  obtain ⟨fd, F⟩ := Φ.fn (dOf 4 "is_name") (.tail _ (.head _))
  exact defAt_of F (Φ.glo "is_name" (.head _)) bd4
theorem th7 : DefAt K mg "is_listing" (top 7) ["value"] := by
  obtain ⟨fd, F⟩ := Φ.fn (dOf 7 "is_listing") (.tail _ (.tail _ (.head _)))
  exact defAt_of F (Φ.glo "is_listing" (.tail _ (.head _))) bd7
theorem th8 : DefAt K mg "has_double" (top 8) ["items"] := by
  obtain ⟨fd, F⟩ := Φ.fn (dOf 8 "has_double") (.tail _ (.tail _ (.tail _ (.head _))))
  exact defAt_of F (Φ.glo "has_double" (.tail _ (.tail _ (.head _)))) bd8
theorem th14 : DefAt K mg "ways" (top 14) ["wishes"] := by
  obtain ⟨fd, F⟩ := Φ.fn (dOf 14 "ways") (.tail _ (.tail _ (.tail _ (.tail _ (.head _)))))
  exact defAt_of F (Φ.glo "ways" (.tail _ (.tail _ (.tail _ (.head _))))) bd14
theorem th15 : DefAt K mg "wishes_fault" (top 15) ["wishes"] := by
  obtain ⟨fd, F⟩ := Φ.fn (dOf 15 "wishes_fault") (.tail _ (.tail _ (.tail _ (.tail _ (.tail _ (.head _))))))
  exact defAt_of F (Φ.glo "wishes_fault" (.tail _ (.tail _ (.tail _ (.tail _ (.head _)))))) bd15
theorem th16 : DefAt K mg "_all_places" (top 16) ["wishes"] := by
  obtain ⟨fd, F⟩ := Φ.fn (dOf 16 "_all_places") (.tail _ (.tail _ (.tail _ (.tail _ (.tail _ (.tail _ (.head _)))))))
  exact defAt_of F (Φ.glo "_all_places" (.tail _ (.tail _ (.tail _ (.tail _ (.tail _ (.head _))))))) bd16
theorem th17 : DefAt K mg "_way_at" (top 17) ["wishes", "places"] := by
  obtain ⟨fd, F⟩ := Φ.fn (dOf 17 "_way_at") (.tail _ (.tail _ (.tail _ (.tail _ (.tail _ (.tail _ (.tail _ (.head _))))))))
  exact defAt_of F (Φ.glo "_way_at" (.tail _ (.tail _ (.tail _ (.tail _ (.tail _ (.tail _ (.head _)))))))) bd17
theorem th19 : DefAt K mg "_law_bag" (top 19) ["script"] := by
  obtain ⟨fd, F⟩ := Φ.fn (dOf 19 "_law_bag") (.tail _ (.tail _ (.tail _ (.tail _ (.tail _ (.tail _ (.tail _ (.tail _ (.head _)))))))))
  exact defAt_of F (Φ.glo "_law_bag" (.tail _ (.tail _ (.tail _ (.tail _ (.tail _ (.tail _ (.tail _ (.head _))))))))) bd19
theorem th20 : DefAt K mg "_law_draw" (top 20) ["bag", "top"] := by
  obtain ⟨fd, F⟩ := Φ.fn (dOf 20 "_law_draw") (.tail _ (.tail _ (.tail _ (.tail _ (.tail _ (.tail _ (.tail _ (.tail _ (.tail _ (.head _))))))))))
  exact defAt_of F (Φ.glo "_law_draw" (.tail _ (.tail _ (.tail _ (.tail _ (.tail _ (.tail _ (.tail _ (.tail _ (.head _)))))))))) bd20
theorem th21 : DefAt K mg "_law_of" (top 21) ["bag", "things"] := by
  obtain ⟨fd, F⟩ := Φ.fn (dOf 21 "_law_of") (.tail _ (.tail _ (.tail _ (.tail _ (.tail _ (.tail _ (.tail _ (.tail _ (.tail _ (.tail _ (.head _)))))))))))
  exact defAt_of F (Φ.glo "_law_of" (.tail _ (.tail _ (.tail _ (.tail _ (.tail _ (.tail _ (.tail _ (.tail _ (.tail _ (.head _))))))))))) bd21
theorem th22 : DefAt K mg "_law_like" (top 22) ["told", "due"] := by
  obtain ⟨fd, F⟩ := Φ.fn (dOf 22 "_law_like") (.tail _ (.tail _ (.tail _ (.tail _ (.tail _ (.tail _ (.tail _ (.tail _ (.tail _ (.tail _ (.tail _ (.head _))))))))))))
  exact defAt_of F (Φ.glo "_law_like" (.tail _ (.tail _ (.tail _ (.tail _ (.tail _ (.tail _ (.tail _ (.tail _ (.tail _ (.tail _ (.head _)))))))))))) bd22
theorem th23 : DefAt K mg "_law_name_form" (top 23) ["item"] := by
  obtain ⟨fd, F⟩ := Φ.fn (dOf 23 "_law_name_form") (.tail _ (.tail _ (.tail _ (.tail _ (.tail _ (.tail _ (.tail _ (.tail _ (.tail _ (.tail _ (.tail _ (.tail _ (.head _)))))))))))))
  exact defAt_of F (Φ.glo "_law_name_form" (.tail _ (.tail _ (.tail _ (.tail _ (.tail _ (.tail _ (.tail _ (.tail _ (.tail _ (.tail _ (.tail _ (.head _))))))))))))) bd23
theorem th24 : DefAt K mg "_law_name" (top 24) ["bag", "taken"] := by
  obtain ⟨fd, F⟩ := Φ.fn (dOf 24 "_law_name") (.tail _ (.tail _ (.tail _ (.tail _ (.tail _ (.tail _ (.tail _ (.tail _ (.tail _ (.tail _ (.tail _ (.tail _ (.tail _ (.head _))))))))))))))
  exact defAt_of F (Φ.glo "_law_name" (.tail _ (.tail _ (.tail _ (.tail _ (.tail _ (.tail _ (.tail _ (.tail _ (.tail _ (.tail _ (.tail _ (.tail _ (.head _)))))))))))))) bd24
theorem th25 : DefAt K mg "_law_ways" (top 25) ["wants"] := by
  obtain ⟨fd, F⟩ := Φ.fn (dOf 25 "_law_ways") (.tail _ (.tail _ (.tail _ (.tail _ (.tail _ (.tail _ (.tail _ (.tail _ (.tail _ (.tail _ (.tail _ (.tail _ (.tail _ (.tail _ (.head _)))))))))))))))
  exact defAt_of F (Φ.glo "_law_ways" (.tail _ (.tail _ (.tail _ (.tail _ (.tail _ (.tail _ (.tail _ (.tail _ (.tail _ (.tail _ (.tail _ (.tail _ (.tail _ (.head _))))))))))))))) bd25
theorem th26 : DefAt K mg "_law_wants" (top 26) ["bag", "names", "top"] := by
  obtain ⟨fd, F⟩ := Φ.fn (dOf 26 "_law_wants") (.tail _ (.tail _ (.tail _ (.tail _ (.tail _ (.tail _ (.tail _ (.tail _ (.tail _ (.tail _ (.tail _ (.tail _ (.tail _ (.tail _ (.tail _ (.head _))))))))))))))))
  exact defAt_of F (Φ.glo "_law_wants" (.tail _ (.tail _ (.tail _ (.tail _ (.tail _ (.tail _ (.tail _ (.tail _ (.tail _ (.tail _ (.tail _ (.tail _ (.tail _ (.tail _ (.head _)))))))))))))))) bd26
theorem th27 : DefAt K mg "_law_wants_wrong" (top 27) ["item"] := by
  obtain ⟨fd, F⟩ := Φ.fn (dOf 27 "_law_wants_wrong") (.tail _ (.tail _ (.tail _ (.tail _ (.tail _ (.tail _ (.tail _ (.tail _ (.tail _ (.tail _ (.tail _ (.tail _ (.tail _ (.tail _ (.tail _ (.tail _ (.head _)))))))))))))))))
  exact defAt_of F (Φ.glo "_law_wants_wrong" (.tail _ (.tail _ (.tail _ (.tail _ (.tail _ (.tail _ (.tail _ (.tail _ (.tail _ (.tail _ (.tail _ (.tail _ (.tail _ (.tail _ (.tail _ (.head _))))))))))))))))) bd27
theorem th28 : DefAt K mg "_law_bent_wants" (top 28) ["bag", "wants"] := by
  obtain ⟨fd, F⟩ := Φ.fn (dOf 28 "_law_bent_wants") (.tail _ (.tail _ (.tail _ (.tail _ (.tail _ (.tail _ (.tail _ (.tail _ (.tail _ (.tail _ (.tail _ (.tail _ (.tail _ (.tail _ (.tail _ (.tail _ (.tail _ (.head _))))))))))))))))))
  exact defAt_of F (Φ.glo "_law_bent_wants" (.tail _ (.tail _ (.tail _ (.tail _ (.tail _ (.tail _ (.tail _ (.tail _ (.tail _ (.tail _ (.tail _ (.tail _ (.tail _ (.tail _ (.tail _ (.tail _ (.head _)))))))))))))))))) bd28
theorem th29 : DefAt K mg "_law_refused_so" (top 29) ["bag", "wants"] := by
  obtain ⟨fd, F⟩ := Φ.fn (dOf 29 "_law_refused_so") (.tail _ (.tail _ (.tail _ (.tail _ (.tail _ (.tail _ (.tail _ (.tail _ (.tail _ (.tail _ (.tail _ (.tail _ (.tail _ (.tail _ (.tail _ (.tail _ (.tail _ (.tail _ (.head _)))))))))))))))))))
  exact defAt_of F (Φ.glo "_law_refused_so" (.tail _ (.tail _ (.tail _ (.tail _ (.tail _ (.tail _ (.tail _ (.tail _ (.tail _ (.tail _ (.tail _ (.tail _ (.tail _ (.tail _ (.tail _ (.tail _ (.tail _ (.head _))))))))))))))))))) bd29
theorem th30 : DefAt K mg "_law_wider_so" (top 30) ["bag", "names", "wants"] := by
  obtain ⟨fd, F⟩ := Φ.fn (dOf 30 "_law_wider_so") (.tail _ (.tail _ (.tail _ (.tail _ (.tail _ (.tail _ (.tail _ (.tail _ (.tail _ (.tail _ (.tail _ (.tail _ (.tail _ (.tail _ (.tail _ (.tail _ (.tail _ (.tail _ (.tail _ (.head _))))))))))))))))))))
  exact defAt_of F (Φ.glo "_law_wider_so" (.tail _ (.tail _ (.tail _ (.tail _ (.tail _ (.tail _ (.tail _ (.tail _ (.tail _ (.tail _ (.tail _ (.tail _ (.tail _ (.tail _ (.tail _ (.tail _ (.tail _ (.tail _ (.head _)))))))))))))))))))) bd30
theorem th31 : DefAt K mg "law" (top 31) ["script"] := by
  obtain ⟨fd, F⟩ := Φ.fn (dOf 31 "law") (.tail _ (.tail _ (.tail _ (.tail _ (.tail _ (.tail _ (.tail _ (.tail _ (.tail _ (.tail _ (.tail _ (.tail _ (.tail _ (.tail _ (.tail _ (.tail _ (.tail _ (.tail _ (.tail _ (.tail _ (.head _)))))))))))))))))))))
  exact defAt_of F (Φ.glo "law" (.tail _ (.tail _ (.tail _ (.tail _ (.tail _ (.tail _ (.tail _ (.tail _ (.tail _ (.tail _ (.tail _ (.tail _ (.tail _ (.tail _ (.tail _ (.tail _ (.tail _ (.tail _ (.tail _ (.head _))))))))))))))))))))) bd31
theorem kst_of : ∀ x d, cst0 x = some d → ∃ v u, mg x = some u ∧ RelV v u ∧ ∀ F, Rep K F d v := by
  intro x d h
  unfold cst0 at h
  split at h
  · rename_i e; subst e; cases h
    obtain ⟨t, e⟩ := Φ.lt
    exact ⟨.str _, _, e, ⟨t, rfl⟩, fun F => rep_str.mpr rfl⟩
  split at h
  · rename_i e; subst e; cases h
    obtain ⟨t, e⟩ := Φ.dg
    exact ⟨.str _, _, e, ⟨t, rfl⟩, fun F => rep_str.mpr rfl⟩
  split at h
  · rename_i e; subst e; cases h
    obtain ⟨t, e⟩ := Φ.ln
    exact ⟨.int _, _, e, ⟨t, rfl⟩, fun F => rep_int.mpr rfl⟩
  split at h
  · rename_i e; subst e; cases h
    obtain ⟨t, e⟩ := Φ.ou
    exact ⟨.str _, _, e, ⟨t, rfl⟩, fun F => rep_str.mpr rfl⟩
  · cases h
theorem fx_of {P : Program} {w : World} {base : Heap} : Fx ⟨P, w, K, mg, base⟩ := by
  obtain ⟨fd, F⟩ := Φ.fn dI (.head _)
  have FI : Fun K "__init__" "InvalidWishes.__init__" sInit (aI K) fd := fun_of F
  refine ⟨⟨Φ.blt⟩, kst_of Φ, th14 Φ, th22 Φ, th29 Φ, aC K, aI K, He.ga K "SeatError", He.ga K "InvalidClause", ⟨Φ.er.T, Φ.er.iC, Φ.er.tI, Φ.er.n1, Φ.er.n2, Φ.er.xf, Φ.er.ex, Φ.glo _ (by decide), fd, ?_, ?_⟩, Φ.glo _ (by decide), Φ.glo _ (by decide), Φ.exm, Φ.z1, Φ.z2⟩
  · exact init1 (st := sInit) rfl FI fSI Φ.er.T Φ.er.n1 Φ.er.n2
  · exact FI.binds bdI.p
theorem tabOk {P : Program} {w : World} {base : Heap} : TabOk ⟨P, w, K, mg, base⟩ tab cst0 cls0 := by
  refine ⟨⟨Φ.blt⟩, kst_of Φ, ?_, ?_, ?_, ?_⟩
  · intro d hd
    simp only [tab, List.mem_cons, List.mem_nil_iff, or_false] at hd
    rcases hd with rfl | rfl | rfl | rfl | rfl | rfl | rfl | rfl | rfl | rfl | rfl | rfl | rfl | rfl | rfl | rfl | rfl | rfl | rfl | rfl
    · exact th4 Φ
    · exact th7 Φ
    · exact th8 Φ
    · exact th14 Φ
    · exact th15 Φ
    · exact th16 Φ
    · exact th17 Φ
    · exact th19 Φ
    · exact th20 Φ
    · exact th21 Φ
    · exact th22 Φ
    · exact th23 Φ
    · exact th24 Φ
    · exact th25 Φ
    · exact th26 Φ
    · exact th27 Φ
    · exact th28 Φ
    · exact th29 Φ
    · exact th30 Φ
    · exact th31 Φ
  · intro d hd
    simp only [tab, List.mem_cons, List.mem_nil_iff, or_false] at hd
    rcases hd with rfl | rfl | rfl | rfl | rfl | rfl | rfl | rfl | rfl | rfl | rfl | rfl | rfl | rfl | rfl | rfl | rfl | rfl | rfl | rfl
    · exact fS4
    · exact fS7
    · exact fS8
    · exact fS14
    · exact fS15
    · exact fS16
    · exact fS17
    · exact fS19
    · exact fS20
    · exact fS21
    · exact fS22
    · exact fS23
    · exact fS24
    · exact fS25
    · exact fS26
    · exact fS27
    · exact fS28
    · exact fS29
    · exact fS30
    · exact fS31
  · intro d hd
    simp only [tab, List.mem_cons, List.mem_nil_iff, or_false] at hd
    rcases hd with rfl | rfl | rfl | rfl | rfl | rfl | rfl | rfl | rfl | rfl | rfl | rfl | rfl | rfl | rfl | rfl | rfl | rfl | rfl | rfl
    · exact fun _ => cm4
    · exact fun _ => cm7
    · exact fun _ => cm8
    · exact fun _ => cm14
    · exact fun _ => cm15
    · exact fun _ => cm16
    · exact fun _ => cm17
    · exact fun _ => cm19
    · exact fun _ => cm20
    · exact fun _ => cm21
    · exact fun _ => cm22
    · exact fun _ => cm23
    · exact fun _ => cm24
    · exact fun _ => cm25
    · exact fun _ => cm26
    · exact fun _ => cm27
    · exact fun _ => cm28
    · intro h; cases h
    · exact fun _ => cm30
    · exact fun _ => cm31
  · intro d hd
    simp only [tab, List.mem_cons, List.mem_nil_iff, or_false] at hd
    rcases hd with rfl | rfl | rfl | rfl | rfl | rfl | rfl | rfl | rfl | rfl | rfl | rfl | rfl | rfl | rfl | rfl | rfl | rfl | rfl | rfl
    · intro h q; cases q
    · intro h q; cases q
    · intro h q; cases q
    · intro h q; cases q
    · intro h q; cases q
    · intro h q; cases q
    · intro h q; cases q
    · intro h q; cases q
    · intro h q; cases q
    · intro h q; cases q
    · intro h q; cases q
    · intro h q; cases q
    · intro h q; cases q
    · intro h q; cases q
    · intro h q; cases q
    · intro h q; cases q
    · intro h q; cases q
    · intro h q n c c' hc hc' _ hM' args r outs g; cases q; exact h17_ok (fx_of Φ) hc hc' hM' g
    · intro h q; cases q
    · intro h q; cases q
end
end K09
/-! K36: the law. -/
namespace K09
open PySem PySem.Spec L2 L2H DL RL PyProof.Rows HE
/-- a table's def, its function known -/
theorem fn_at {M : Mo} {T : List De} {cst : Str → Option DL.D} {cls : Str → Option Nat} (H : TabOk M T cst cls) {n i : Nat} {d : De} {f : Addr} {fd : FuncData} (hi : T[i]? = some d) (hsp : d.sp = none) (Fu : Fun M.K d.name d.name d.st f fd) {args outs : List Slot} {r : Slot} (h : (csT T (n + 1)).C i args = some (r, outs)) :
    FnOk M.P M.w M.K M.mg M.base CX0 (n + 1) f fd d.ps (spD M.K args r outs) := by
  have hd : d ∈ T := List.mem_of_getElem? hi
  obtain ⟨d', h1, h⟩ := bind_some' (show ((T[i]?).bind fun d => stepD T n (callP T n).1 (callP T n).2 d args) = some (r, outs) from h)
  rw [hi] at h1
  cases h1
  rw [step_none hsp] at h
  have ih := callT_ok H n
  have h : runD (csT T n) d args = some (r, outs) := h
  unfold runD at h
  obtain ⟨h2, h⟩ := chk_some h
  obtain ⟨o, h3, h⟩ := bind_some' h
  have key : ∃ (hr : ResOk r) (ho : OwnTo outs args), EndP args r outs o := by
    cases o with
    | ret r' ρ' =>
      obtain ⟨h4, h⟩ := chk_some h
      obtain ⟨os, h5, h⟩ := bind_some' h
      cases h
      obtain ⟨k1, k2⟩ := outs_own h5
      exact ⟨res_ok h4, k1, rfl, k2⟩
    | nx ρ' =>
      obtain ⟨os, h5, h⟩ := bind_some' h
      cases h
      obtain ⟨k1, k2⟩ := outs_own h5
      exact ⟨.val, k1, rfl, k2⟩
    | bk _ => cases h
    | ct _ => cases h
  obtain ⟨hres, hown, hend⟩ := key
  have S := H.scope d hd
  refine fnD Fu S h2 hown fun cdv A outer s H' F0 vs E hroom => ?_
  have ox : OkT M (tabOf T) (gaOf T cst cls d) n (cxOf CX0 M.P M.w M.K M.mg M.base d.N d.name (defScope d.st) f cdv A outer s H' E).nox :=
    { m := H.m, prog := rfl, w := rfl, K := rfl, mg := rfl, base := rfl, N := rfl, sc := rfl, calm := rfl, nd := S.nd, room := hroom, fn := fun _ _ => rfl, fns := fun _ _ _ h => fnsOf_ok h, cst := H.kst, top := rfl, pass := PassesOwn.never, bk := by
        show PySem.Env.blockKind _ = _
        unfold PySem.Env.blockKind
        have : (defScope d.st).kind = .function := S.kind
        show (if (defScope d.st).kind.isAnnotationScope = true then _ else (defScope d.st).kind) = _
        rw [this]; rfl }
  refine blk_ok (fun st a h => stm_ok d.mu 60 _ st a h) (H.comp d hd hsp) _ n _ (csT T n) (args.map isOwn) _ o _ ox ih ?_ h3 hend
  intro i hi e
  have e : (args.map isOwn)[i]? = some true := e
  unfold frB at hi
  rw [List.getD_eq_getElem?_getD, e] at hi
  cases hi
/-- what the law promises: a script of integers, True -/
def spL (K : PySem.W.Frag) : Sp := fun vs H Q E => ∃ ns : List Int, ns.length ≤ 63 ∧ spD K [.v true (.lst (ns.map .int))] (.val (.bl true)) [.v true (.lst (ns.map .int))] vs H Q E
theorem law_ok {P : Program} {w : World} {K : PySem.W.Frag} {mg : Str → Option Value} {base : Heap} {fd : FuncData} (Φ : Facts K mg) (Fu : Fun K "law" "law" (top 31) (He.ga K "law") fd) : FnOk P w K mg base CX0 5 (He.ga K "law") fd ["script"] (spL K) := by
  have one := fun (ns : List Int) (h : ns.length ≤ 63) => fn_at (M := ⟨P, w, K, mg, base⟩) (tabOk Φ) (n := 4) (i := 19) (d := tD 19) rfl rfl Fu (law_spec (n := 0) (refuses 0) (k := true) h)
  exact ⟨fun vs H Q E ⟨ns, h, q⟩ => (one ns h).len vs H Q E q, fun A outer s H args us vs Q E hr he hb hv ⟨ns, h, q⟩ => (one ns h).run A outer s H args us vs Q E hr he hb hv q⟩
end K09
/-! K37: the end. -/
namespace K09
open PySem PySem.Spec L2 L2H DL RL PyProof.Rows HE
theorem rd_of {K : PySem.W.Frag} {mg : Str → Option Value} (Φ : Facts K mg) {H : Hp} {a : Addr} {xs : List V} (h : SqL K H a xs) : Rd H a (.lst xs) := by
  rcases h with h | ⟨o, its, n, hk, hc, _⟩
  · exact h
  · have m := List.all_eq_true.mp Φ.nl _ (He.lookup_mem hk)
    simp only [hc] at m
    exact absurd m (by decide)
theorem reps_int {K : PySem.W.Frag} {H : Hp} : ∀ ns : List Int, Reps K H (ns.map DL.D.int) (ns.map V.int)
  | [] => Reps.nil
  | n :: ns => Reps.cons (rep_int.mpr rfl) (reps_int ns)
theorem spL_of {K : PySem.W.Frag} {H : Hp} {a : Addr} {ns : List Int} (h : Rd H a (.lst (ns.map V.int))) (hn : ns.length ≤ 63) (E : XK) : spL K [.ref a] H (fun v _ => v = .bl true) E := by
  refine ⟨ns, hn, rfl, H, ?_, fun F' H' v _ _ r => rep_bl.mp (show Rep K F' (.bl true) v from r)⟩
  refine ⟨Ext.refl _, Ext.refl _, fun b o e => .inl e, fun b o e => Gx.hv_h0 e, fun b o e => ⟨o, e⟩, fun i e => ?_, fun i k d e => ?_, fun i ds e => ?_, fun i j a ds es _ e => ?_, rfl⟩
  · cases i with
    | zero => cases e
    | succ i => cases e
  · cases i with
    | zero =>
      cases e
      exact ⟨_, rfl, rep_lst.mpr ⟨a, _, rfl, h, reps_int ns⟩⟩
    | succ i => cases e
  · cases i with
    | zero => cases e
    | succ i => cases e
  · cases i with
    | zero => cases e
    | succ i => cases e
theorem law_bind {K : PySem.W.Frag} {f : Addr} {fd : FuncData} (Fu : Fun K "law" "law" (top 31) f fd) (s : Shared) (v : Value) : BindsTo s fd ⟨[v], []⟩ [("script", v)] := by
  obtain ⟨oc, od, kV, doc, pm, an, cdv, ct, osl, rfl, lk, hcd⟩ := Fu.ex
  exact .of_eq (bd31.p kV doc pm an cdv ct [v] rfl)
end K09
open PySem PySem.W PySem.Calls PyProof.Rows
theorem PySem.Challenge.cw_nearseats_k09_whole_ways_in_order_holds : PySem.Challenge.rw_nearseats_k09_whole_ways_in_order.Holds := by
  w_on; o_law
  refine HandSHeadRun.head_any (r := OpenLaw.row PySem.Challenge.rw_nearseats_k09_whole_ways_in_order) (q := view (OpenLaw.row PySem.Challenge.rw_nearseats_k09_whole_ways_in_order).prog [31]) (H := K09.hk) (ob := K09.ob) (M := 2000) (loose := K09.loose) (d := HandSHeadRun.topDef (OpenLaw.row PySem.Challenge.rw_nearseats_k09_whole_ways_in_order).prog 31) (kwd := []) K09.ob_eq
    (by kernel_rfl) (fun s => by kernel_rfl) K09.run (by kernel_rfl) (by kernel_rfl) (by kernel_rfl) (by rfl) (by first | assumption | decide +kernel) (by decide +kernel) ⟨rfl, rfl, rfl, rfl, rfl, by decide +kernel⟩ ?hw ?hc
  case hw => w_witness2
  case hc =>
    refine L2.walk_ofE (l := PySem.Challenge.rw_nearseats_k09_whole_ways_in_order) (n := 63) (k := 5) (x := "script") (CX := L2.CX0) rfl (by decide) (by kernel_rfl) ⟨rfl, by decide, by decide⟩ ?F (fun _ _ _ _ z => z)
    intro w mg fa h Y G hmg0
    obtain ⟨K, KX, c⟩ := Y
    have hmg : mg ("law" : PySem.Str) = some (.ref fa) := by
      have e : (HandSHeadRun.topDef (OpenLaw.row PySem.Challenge.rw_nearseats_k09_whole_ways_in_order).prog 31).name = ("law" : PySem.Str) := by kernel_rfl
      rw [← e]
      exact hmg0
    have Φ := K09.facts_of KX G c
    have e := hmg.symm.trans (Φ.glo "law" (by decide))
    cases e
    obtain ⟨fd, F⟩ := Φ.fn (K09.dOf 31 "law") (by simp [K09.fnL])
    have Fu := K09.fun_of (K := K) (x := "law") (qual := "law") (st := K09.top 31) (f := He.ga K "law") F
    exact ⟨K, fd, K09.spL K, KX, fun s v => K09.law_bind Fu s v, fun H a ns hl _ hS => K09.spL_of (K09.rd_of Φ hS) hl _, fun base _ _ => K09.law_ok (P := (PySem.Challenge.rw_nearseats_k09_whole_ways_in_order).prog) (w := w) (base := base) Φ Fu⟩
