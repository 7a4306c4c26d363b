import PyProof.Rows.All
import Wide.All
import OpenK.AllK
import Wide.FinOn
import HandS.ForMost
import HandS.IsInst
import HandS.Walk
import PyProof.AutoSeq1
import HandS.Defaults
import HandS.DictComp
import HandS.Property
import HandS.OwnEq
import HandS.MakeKwOnly
import HandS.ClsMeth
import HandS.Star
import PyProof.InstNe
import HandS.FStr
import HandS.Small
import PyProof.ReprRoads
import PyProof.ReprLen
import PyProof.EqLayable
import HandS.SetFor
import HandS.Strs
import HandS.SortOrd
import HandS.Zip
import KE.SortData
import HandS.WideBits
import HandS.Conv
import HandS.Style
import HandS.RaiseMore
import HandS.TupAny
import HandS.Dict
import HandS.ListItems
import HandS.Deep
import HandS.Ends
import PySem.Challenge.RW_oneshelf_k61_rules_as_values
set_option Elab.async false
set_option linter.all false
set_option maxRecDepth 100000
/-! data in the abstract heap, apart from a set of addresses that are still worked on -/
namespace Kh
open PySem PySem.Spec PyProof.Rows L2

/-! ### heaps -/
theorem same_new {H : Hp} {p : Addr} {o : HO} (h : H p = none) : Same H (upd H p o) := fun b x e => by
  rw [upd_ne (ne_of_none e h)]; exact e
theorem sup {H H1 : Hp} {p : Addr} {o : HO} (x : Same H H1) (h : H1 p = none) : Same H (upd H1 p o) := x.trans (same_new h)
/-- an object that H doesn't know may change -/
theorem smut {H H1 : Hp} {p : Addr} {o : HO} (x : Same H H1) (h : H p = none) : Same H (upd H1 p o) := fun b u e => by
  rw [upd_ne (ne_of_none e h)]; exact x b u e
theorem same_t {K : PySem.W.Frag} {H H' : Hp} {a : Addr} {xs : List V} (e : Same H H') (h : SqT K H a xs) : SqT K H' a xs := by
  rcases h with (h | ⟨o, h⟩) | h
  · exact .inl (.inl (e _ _ h))
  · exact .inl (.inr ⟨o, e _ _ h⟩)
  · exact .inr h
theorem some_ne {H : Hp} {a : Addr} {o : HO} (h : H a = some o) : H a ≠ none := by rw [h]; exact fun z => nomatch z
theorem same_ne {H H' : Hp} (e : Same H H') {a : Addr} (h : H a ≠ none) : H' a ≠ none := by
  cases q : H a with
  | none => exact (h q).elim
  | some o => rw [e a o q]; exact fun z => nomatch z
theorem sqL {K : PySem.W.Frag} {H : Hp} {a : Addr} {xs : List V} (h : H a = some (.lst xs)) : SqL K H a xs := .inl (.inl h)
theorem sqT {K : PySem.W.Frag} {H : Hp} {a : Addr} {xs : List V} (h : H a = some (.tup xs)) : SqT K H a xs := .inl (.inl h)

mutual
theorem dp_same {K : PySem.W.Frag} {H H' : Hp} (e : Same H H') : ∀ (d : PyData) (v : V), Dp K H v d → Dp K H' v d
  | .none, _, h => by cases h; exact .non
  | .bool b, _, h => by cases h; exact .bl b
  | .int i, _, h => by cases h; exact .int i
  | .str x, _, h => by cases h; exact .str x
  | .list ds, _, h => by
    cases h with
    | lst hs ha => exact .lst (e.seq hs) (dpa_same e ds _ ha)
  | .tuple ds, _, h => by
    cases h with
    | tup hs ha => exact .tup (same_t e hs) (dpa_same e ds _ ha)
  | .dict _, _, h => by cases h
theorem dpa_same {K : PySem.W.Frag} {H H' : Hp} (e : Same H H') : ∀ (ds : List PyData) (vs : List V), DpAll K H vs ds → DpAll K H' vs ds
  | [], _, h => by cases h; exact .nil
  | d :: ds, _, h => by
    cases h with
    | cons h1 h2 => exact .cons (dp_same e d _ h1) (dpa_same e ds _ h2)
end
theorem dpa_len {K : PySem.W.Frag} {H : Hp} : ∀ {vs : List V} {ds : List PyData}, DpAll K H vs ds → vs.length = ds.length
  | _, _, .nil => rfl
  | _, _, .cons _ t => by rw [List.length_cons, List.length_cons, dpa_len t]
theorem dpa_get {K : PySem.W.Frag} {H : Hp} : ∀ {vs : List V} {ds : List PyData} {i : Nat} {d : PyData}, DpAll K H vs ds → ds[i]? = some d → ∃ v, vs[i]? = some v ∧ Dp K H v d
  | _, _, _, _, .nil, e => by simp at e
  | _, _, 0, d, .cons (v := v) h _, e => by simp at e; subst e; exact ⟨v, by simp, h⟩
  | _, _, i + 1, d, .cons _ t, e => by
    obtain ⟨v, h1, h2⟩ := dpa_get (i := i) t (by simpa using e)
    exact ⟨v, by simpa using h1, h2⟩
theorem dpa_at {K : PySem.W.Frag} {H : Hp} : ∀ {vs : List V} {ds : List PyData} {i : Nat} {v : V}, DpAll K H vs ds → vs[i]? = some v → ∃ d, ds[i]? = some d ∧ Dp K H v d
  | _, _, _, _, .nil, e => by simp at e
  | _, _, 0, v, .cons (d := d) h _, e => by simp at e; subst e; exact ⟨d, by simp, h⟩
  | _, _, i + 1, v, .cons _ t, e => by
    obtain ⟨d, h1, h2⟩ := dpa_at (i := i) t (by simpa using e)
    exact ⟨d, by simpa using h1, h2⟩
theorem dpa_app {K : PySem.W.Frag} {H : Hp} : ∀ {vs ws : List V} {ds es : List PyData}, DpAll K H vs ds → DpAll K H ws es → DpAll K H (vs ++ ws) (ds ++ es)
  | _, _, _, _, .nil, t => t
  | _, _, _, _, .cons h s, t => .cons h (dpa_app s t)
theorem dpa_of {K : PySem.W.Frag} {H : Hp} : ∀ {vs : List V} {ds : List PyData}, vs.length = ds.length → (∀ (i : Nat) v d, vs[i]? = some v → ds[i]? = some d → Dp K H v d) → DpAll K H vs ds
  | [], [], _, _ => .nil
  | v :: vs, d :: ds, l, h => .cons (h 0 v d rfl rfl) (dpa_of (by simpa using l) fun i a b h1 h2 => h (i + 1) a b (by simpa using h1) (by simpa using h2))
  | [], _ :: _, l, _ => by simp at l
  | _ :: _, [], l, _ => by simp at l

/-! ### the heap without some addresses -/
open Classical in
noncomputable def off (S : Addr → Prop) (H : Hp) : Hp := fun a => if S a then none else H a
/-- all of S is known -/
def Kn (S : Addr → Prop) (H : Hp) : Prop := ∀ a, S a → H a ≠ none
theorem off_out {S : Addr → Prop} {H : Hp} {a : Addr} (h : ¬ S a) : off S H a = H a := by unfold off; rw [if_neg h]
theorem off_in {S : Addr → Prop} {H : Hp} {a : Addr} (h : S a) : off S H a = none := by unfold off; rw [if_pos h]
theorem off_some {S : Addr → Prop} {H : Hp} {a : Addr} {o : HO} (h : off S H a = some o) : ¬ S a ∧ H a = some o := by
  by_cases q : S a
  · rw [off_in q] at h; cases h
  · rw [off_out q] at h; exact ⟨q, h⟩
theorem off_sub {S : Addr → Prop} {H : Hp} : Same (off S H) H := fun _ _ e => (off_some e).2
theorem off_same {S : Addr → Prop} {H H' : Hp} (e : Same H H') : Same (off S H) (off S H') := fun a o h => by
  obtain ⟨n, h⟩ := off_some h
  rw [off_out n]; exact e a o h
theorem off_less {S S' : Addr → Prop} {H : Hp} (h : ∀ a, S a → S' a) : Same (off S' H) (off S H) := fun a o e => by
  obtain ⟨n, e⟩ := off_some e
  rw [off_out fun z => n (h a z)]; exact e
theorem off_mut {S : Addr → Prop} {H : Hp} {a : Addr} {o : HO} (h : S a) : off S (upd H a o) = off S H := by
  funext b
  by_cases q : S b
  · rw [off_in q, off_in q]
  · rw [off_out q, off_out q, upd_ne]; rintro rfl; exact q h
theorem Kn.same {S : Addr → Prop} {H H' : Hp} (k : Kn S H) (e : Same H H') : Kn S H' := fun a h => same_ne e (k a h)
theorem Kn.new {S : Addr → Prop} {H : Hp} (k : Kn S H) {a : Addr} (h : H a = none) : ¬ S a := fun z => k a z h
theorem Kn.upd {S : Addr → Prop} {H : Hp} (k : Kn S H) {a : Addr} {o : HO} : Kn S (upd H a o) := fun b h => by
  by_cases q : b = a
  · subst q; rw [upd_same]; exact fun z => nomatch z
  · rw [upd_ne q]; exact k b h
/-- one more -/
def plus (S : Addr → Prop) (a : Addr) : Addr → Prop := fun b => S b ∨ b = a
theorem Kn.plus {S : Addr → Prop} {H : Hp} (k : Kn S H) {a : Addr} (h : H a ≠ none) : Kn (plus S a) H := fun b z => by
  rcases z with z | rfl
  · exact k b z
  · exact h
def noS : Addr → Prop := fun _ => False
theorem kn_no {H : Hp} : Kn noS H := fun _ h => h.elim
theorem off_no {H : Hp} : off noS H = H := by funext a; exact off_out fun h => h.elim
end Kh

set_option maxRecDepth 100000
set_option maxHeartbeats 1000000
/-! comprehensions read as wholes; calls of defs that only make new things -/
namespace Kh
open PySem PySem.Spec PyProof.Rows L2

/-- either way of walking -/
theorem pi_or {X : Cx} {tg e : Expr} {w1 w2 : TI} (h1 : PI X tg e w1) (h2 : PI X tg e w2) : PI X tg e (fun σ H R => w1 σ H R ∨ w2 σ H R) :=
  ⟨fun pins s σ H R I h => h.elim (h1.run pins s σ H R I) (h2.run pins s σ H R I)⟩
theorem pe_alt {X : Cx} {e : Expr} {t u : TE} (h1 : PE X e t) (h2 : PE X e u) : PE X e (fun σ H Q => t σ H Q ∨ u σ H Q) :=
  ⟨fun pins s σ H Q I h => h.elim (h1.run pins s σ H Q I) (h2.run pins s σ H Q I)⟩
/-- a list or a tuple -/
theorem pi_any {X : Cx} {tg e : Expr} {t : TE} (h : PE X e t) : PI X tg e (fun σ H R => iList X.K t σ H R ∨ iTup X.K t σ H R) := pi_or (pi_list h) (pi_tup h)

/-- grown but for what stands at D -/
def SameBut (D : Addr) (H H' : Hp) : Prop := ∀ b o, b ≠ D → H b = some o → H' b = some o
theorem sbut {D : Addr} {H H' : Hp} (e : Same H H') : SameBut D H H' := fun b o _ h => e b o h
theorem bmut {D : Addr} {H H' : Hp} {o : HO} (e : SameBut D H H') : SameBut D H (upd H' D o) := fun b u n h => by rw [upd_ne n]; exact e b u n h
theorem off_but {S : Addr → Prop} {D : Addr} {H H' : Hp} (e : SameBut D H H') : Same (off (plus S D) H) (off (plus S D) H') := fun b o h => by
  obtain ⟨n, h⟩ := off_some h
  rw [off_out n]
  exact e b o (fun z => n (.inr z)) h

theorem paired_app {α β : Type} {F : α → β → Prop} : ∀ {l l2 : List α} {m m2 : List β}, Paired F l m → Paired F l2 m2 → Paired F (l ++ l2) (m ++ m2)
  | _, _, _, _, .nil, q => q
  | _, _, _, _, .cons r t, q => .cons r (paired_app t q)
section
variable {J : It} {n : Nat} {G : Hp → Prop} {Y : Nat → Hp → V → Hp → Prop} {te : TE} {tt : TT} {sl : Nat} {vs : List Nat} {σ : L2.St} {H1 : Hp} {D : Addr} {Qd : Hp → Prop}

theorem lc_filt (w : Walk J n G Y) (Xp : Nat → V → Prop) (hY : ∀ i H x H', i < n → Y i H x H' → H' = H ∧ Xp i x) (pt : Nat → Bool) (P : Nat → V → Hp → Prop)
    (hG : ∀ H, Same H1 H → G H) (hD : H1 D = none) (hn : n ≤ 100000) (hw : ∀ x, wipe ((wipe σ vs).set sl (some x)) vs = wipe σ vs)
    (hP : ∀ j y H H', SameBut D H H' → P j y H → P j y H')
    (test : ∀ j x H, j < n → Xp j x → Same H1 H → H D ≠ none → ∀ Q : Bool → Hp → Prop, (∀ H', Same H H' → Q (pt j) H') → tt ((wipe σ vs).set sl (some x)) H Q)
    (body : ∀ j x H, j < n → Xp j x → pt j = true → Same H1 H → H D ≠ none → ∀ Q : VK, (∀ y H', Same H H' → P j y H' → Q y H') → te ((wipe σ vs).set sl (some x)) H Q)
    (done : ∀ ys H, Paired (fun j y => P j y H) ((List.range n).filter pt) ys → Same H1 H → H D = some (.lst ys) → Qd H) :
    ∃ W : Nat → Nat → Hp → Prop, (∃ m, W 0 m (upd H1 D (.lst []))) ∧ ∀ i m H, W i m H →
      (J.stop i H ∧ Qd H) ∨ (J.go i H ∧ ∃ Nx : Hp → Prop, (∀ H', Nx H' → ∃ m', m' < m ∧ W (i + 1) m' H') ∧ ∀ x H', J.yld i H x H' → gName sl x (wipe σ vs) H' fun σ2 H2 => wipe σ2 vs = wipe σ vs ∧ tt σ2 H2 fun b H3 =>
        if b = true then te σ2 H3 fun y H4 => ∃ acc, H4 D = some (.lst acc) ∧ acc.length < sizeLine ∧ Nx (upd H4 D (.lst (acc ++ [y]))) else Nx H3) := by
  have mono : ∀ {l : List Nat} {ys : List V} {H H' : Hp}, SameBut D H H' → Paired (fun j y => P j y H) l ys → Paired (fun j y => P j y H') l ys := fun e p => Paired.mapP p fun a b q => hP a b _ _ e q
  have lenP : ∀ {l : List Nat} {ys : List V} {H : Hp}, Paired (fun j y => P j y H) l ys → l.length = ys.length := fun p => Paired.length p
  refine lc_it w (Pv := fun i H => ∃ ys, Paired (fun j y => P j y H) ((List.range i).filter pt) ys ∧ Same H1 H ∧ H D = some (.lst ys)) ⟨[], .nil, same_new hD, upd_same⟩ (fun i H _ ⟨_, _, s, _⟩ => hG H s) ?_ ?_
  · rintro i x H H' hi ⟨ys, py, s, hd⟩ y
    obtain ⟨rfl, xp⟩ := hY i H x H' hi y
    refine ⟨hw x, test i x H' hi xp s (some_ne hd) _ fun H2 s2 => ?_⟩
    have e : (List.range (i + 1)).filter pt = (List.range i).filter pt ++ (if pt i then [i] else []) := by
      rw [List.range_succ, List.filter_append]
      congr 1
      cases q : pt i <;> simp [q]
    cases hb : pt i with
    | true =>
      refine iteT (body i x H2 hi xp hb (s.trans s2) (some_ne (s2 _ _ hd)) _ fun z H3 s3 pz => ?_)
      have h3 := s3 _ _ (s2 _ _ hd)
      have hl : ys.length ≤ i := by
        rw [← lenP py]
        exact Nat.le_trans (List.length_filter_le _ _) (by simp)
      refine ⟨ys, h3, Nat.lt_of_le_of_lt (show ys.length ≤ 100000 by omega) (by decide), ys ++ [z], ?_, smut ((s.trans s2).trans s3) hD, upd_same⟩
      rw [e, hb]
      exact paired_app (mono ((bmut (sbut (s2.trans s3)))) py) (.cons (hP _ _ _ _ ((bmut (sbut (Same.refl _)))) pz) .nil)
    | false =>
      refine iteF ⟨ys, ?_, s.trans s2, s2 _ _ hd⟩
      rw [e, hb]
      simpa using mono (sbut s2) py
  · rintro H ⟨ys, py, s, hd⟩
    exact done ys H py s hd

theorem lc_map (w : Walk J n G Y) (Xp : Nat → V → Prop) (hY : ∀ i H x H', i < n → Y i H x H' → H' = H ∧ Xp i x) (P : Nat → V → Hp → Prop)
    (hG : ∀ H, Same H1 H → G H) (hD : H1 D = none) (hn : n ≤ 100000) (hw : ∀ x, wipe ((wipe σ vs).set sl (some x)) vs = wipe σ vs)
    (hP : ∀ j y H H', SameBut D H H' → P j y H → P j y H')
    (body : ∀ j x H, j < n → Xp j x → Same H1 H → H D ≠ none → ∀ Q : VK, (∀ y H', Same H H' → P j y H' → Q y H') → te ((wipe σ vs).set sl (some x)) H Q)
    (done : ∀ ys H, ys.length = n → (∀ j y, ys[j]? = some y → P j y H) → Same H1 H → H D = some (.lst ys) → Qd H) :
    ∃ W : Nat → Nat → Hp → Prop, (∃ m, W 0 m (upd H1 D (.lst []))) ∧ ∀ i m H, W i m H →
      (J.stop i H ∧ Qd H) ∨ (J.go i H ∧ ∃ Nx : Hp → Prop, (∀ H', Nx H' → ∃ m', m' < m ∧ W (i + 1) m' H') ∧ ∀ x H', J.yld i H x H' → gName sl x (wipe σ vs) H' fun σ2 H2 => wipe σ2 vs = wipe σ vs ∧ tYes σ2 H2 fun b H3 =>
        if b = true then te σ2 H3 fun y H4 => ∃ acc, H4 D = some (.lst acc) ∧ acc.length < sizeLine ∧ Nx (upd H4 D (.lst (acc ++ [y]))) else Nx H3) := by
  refine lc_it w (Pv := fun i H => ∃ ys, ys.length = i ∧ (∀ j y, ys[j]? = some y → P j y H) ∧ Same H1 H ∧ H D = some (.lst ys)) ⟨[], rfl, fun j y h => by simp at h, same_new hD, upd_same⟩ (fun i H _ ⟨_, _, _, s, _⟩ => hG H s) ?_ ?_
  · rintro i x H H' hi ⟨ys, hl, py, s, hd⟩ y
    obtain ⟨rfl, xp⟩ := hY i H x H' hi y
    refine ⟨hw x, iteT (B := Exists fun zs : List V => zs.length = i + 1 ∧ (∀ (j : Nat) (y : V), zs[j]? = some y → P j y H') ∧ Same H1 H' ∧ H' D = some (HO.lst zs)) ?_⟩
    refine body i x H' hi xp s (some_ne hd) _ fun z H3 s3 pz => ⟨ys, s3 _ _ hd, Nat.lt_of_le_of_lt (show ys.length ≤ 100000 by omega) (by decide), ys ++ [z], by simp [hl], fun j u hj => ?_, smut (s.trans s3) hD, upd_same⟩
    by_cases q : j < ys.length
    · rw [List.getElem?_append_left q] at hj
      exact hP _ _ _ _ ((bmut (sbut s3))) (py j u hj)
    · rw [List.getElem?_append_right (by omega)] at hj
      have e : j = i := by
        by_cases q2 : j - ys.length = 0
        · omega
        · rw [List.getElem?_eq_none_iff.mpr (by simp; omega)] at hj
          cases hj
      subst e
      rw [show j - ys.length = 0 by omega] at hj
      cases hj
      exact hP _ _ _ _ ((bmut (sbut (Same.refl _)))) pz
  · rintro H ⟨ys, hl, py, s, hd⟩
    exact done ys H hl py s hd
end

/-! ### promises over data -/
/-- a def of data that makes new data: of x, under pre, f x; what is in S stays out of it -/
def spP {α : Type} (K : PySem.W.Frag) (enc : α → List PyData) (pre : α → Prop) (f : α → PyData) : Sp := fun vs H Q _ => ∃ (S : Addr → Prop) (x : α), Kn S H ∧ DpAll K (off S H) vs (enc x) ∧ pre x ∧
  ∀ v H', Same H H' → Dp K (off S H') v (f x) → Q v H'
section
variable {α : Type} {K : PySem.W.Frag} {enc : α → List PyData} {pre : α → Prop} {f : α → PyData} {vs : List V} {H : Hp} {Q : VK} {E : XK}
theorem spP_len {n : Nat} (hn : ∀ x, (enc x).length = n) (h : spP K enc pre f vs H Q E) : vs.length = n := by
  obtain ⟨S, x, _, hd, _⟩ := h
  rw [← hn x]; exact dpa_len hd
/-- it is called, the answer flat -/
theorem spP_bl {b : Bool} {H0 : Hp} (e : Same H0 H) (x : α) (hd : DpAll K H0 vs (enc x)) (hp : pre x) (hf : f x = .bool b) (q : ∀ H', Same H H' → Q (.bl b) H') : spP K enc pre f vs H Q E := ⟨noS, x, kn_no, by rw [off_no]; exact dpa_same e _ _ hd, hp, fun v H' s h => by
  rw [hf] at h; cases h; exact q H' s⟩
theorem spP_int {b : Int} {H0 : Hp} (e : Same H0 H) (x : α) (hd : DpAll K H0 vs (enc x)) (hp : pre x) (hf : f x = .int b) (q : ∀ H', Same H H' → Q (.int b) H') : spP K enc pre f vs H Q E := ⟨noS, x, kn_no, by rw [off_no]; exact dpa_same e _ _ hd, hp, fun v H' s h => by
  rw [hf] at h; cases h; exact q H' s⟩
end
def d1 (d : PyData) : List PyData := [d]

/-! ### kinds of data -/
def tyN : PyData → String
  | .none => "NoneType"
  | .bool _ => "bool"
  | .int _ => "int"
  | .str _ => "str"
  | .list _ => "list"
  | .tuple _ => "tuple"
  | .dict _ => "dict"
end Kh

set_option maxRecDepth 100000
set_option maxHeartbeats 1000000
/-! operations on data -/
namespace Kh
open PySem PySem.Spec PyProof.Rows L2

theorem sq_ty {K : PySem.W.Frag} {H : Hp} {a : Addr} {xs : List V} (h : SqL K H a xs) : TyX K H (.ref a) (.type "list") := by
  rcases h with (h | ⟨o, h⟩) | ⟨o, its, n, h1, h2, _⟩
  · exact .base (.lst h)
  · exact .base (.frz h)
  · exact .kList h1 h2
theorem sqt_ty {K : PySem.W.Frag} {H : Hp} {a : Addr} {xs : List V} (h : SqT K H a xs) : TyX K H (.ref a) (.type "tuple") := by
  rcases h with (h | ⟨o, h⟩) | ⟨o, its, n, h1, h2, _⟩
  · exact .base (.tup h)
  · exact .fTuple h
  · exact .kTuple h1 h2
theorem tyx_d {K : PySem.W.Frag} {H : Hp} {v : V} {d : PyData} (h : Dp K H v d) : TyX K H v (.type (tyN d)) := by
  cases h with
  | non => exact .base .non
  | bl b => exact .base (.bl b)
  | int i => exact .base (.int i)
  | str x => exact .base (.str x)
  | lst hs _ => exact sq_ty hs
  | tup hs _ => exact sqt_ty hs
/-- isinstance(x, T) of data -/
theorem isi_d {K : PySem.W.Frag} {H0 H : Hp} {v : V} {d : PyData} {n : String} {b : Bool} {Q : VK} (e : Same H0 H) (h : Dp K H0 v d) (hk : kitB (tyN d) n = some b) (q : Q (.bl b) H) : rIsi K [v, .ty n] H Q :=
  ⟨v, .ty n, _, _, b, rfl, .ty n, tyx_d (dp_same e _ _ h), kit_ty hk, q⟩
theorem isi2_d {K : PySem.W.Frag} {H0 H : Hp} {v : V} {d : PyData} {n m : String} {b c : Bool} {Q : VK} {p : Addr} (e : Same H0 H) (h : Dp K H0 v d) (hp : H p = some (.tup [.ty n, .ty m])) (hk : kitB (tyN d) n = some b) (hc : kitB (tyN d) m = some c) (q : Q (.bl (b || c)) H) : rIsiT K [v, .ref p] H Q := by
  refine ⟨v, p, [.ty n, .ty m], .type (tyN d), [.type n, .type m], b || c, rfl, hp, .cons (.ty n) (.cons (.ty m) .nil), tyx_d (dp_same e _ _ h), ?_, q⟩
  refine kitAny_cons (kit_ty hk) (fun hb => ?_) (fun hb => by rw [hb]; rfl)
  refine kitAny_cons (kit_ty hc) (fun hd => ?_) (fun hd => by rw [hd]; cases b <;> rfl)
  rw [hb, hd]; exact kitAny_nil

/-- what a list or a tuple has -/
def items : PyData → Option (List PyData)
  | .list ds => some ds
  | .tuple ds => some ds
  | _ => none
theorem items_at {K : PySem.W.Frag} {H : Hp} {v : V} {d : PyData} {ds : List PyData} (h : Dp K H v d) (e : items d = some ds) : ∃ a xs, v = .ref a ∧ (SqL K H a xs ∨ SqT K H a xs) ∧ DpAll K H xs ds := by
  cases h with
  | non => cases e
  | bl b => cases e
  | int i => cases e
  | str x => cases e
  | lst hs ha => cases e; exact ⟨_, _, rfl, .inl hs, ha⟩
  | tup hs ha => cases e; exact ⟨_, _, rfl, .inr hs, ha⟩
theorem list_at {K : PySem.W.Frag} {H : Hp} {v : V} {ds : List PyData} (h : Dp K H v (.list ds)) : ∃ a xs, v = .ref a ∧ SqL K H a xs ∧ DpAll K H xs ds := by
  cases h with
  | lst hs ha => exact ⟨_, _, rfl, hs, ha⟩
theorem tup_at {K : PySem.W.Frag} {H : Hp} {v : V} {ds : List PyData} (h : Dp K H v (.tuple ds)) : ∃ a xs, v = .ref a ∧ SqT K H a xs ∧ DpAll K H xs ds := by
  cases h with
  | tup hs ha => exact ⟨_, _, rfl, hs, ha⟩
/-- x[i] of data, i written -/
theorem ix_d {K : PySem.W.Frag} {H0 H : Hp} {v : V} {d x : PyData} {ds : List PyData} {i : Nat} {Q : VK} (e : Same H0 H) (h : Dp K H0 v d) (hd : items d = some ds) (hi : ds[i]? = some x) (q : ∀ u, Dp K H0 u x → Q u H) : rIx K v (.int (i : Nat)) H Q := by
  obtain ⟨a, xs, rfl, hs, ha⟩ := items_at h hd
  obtain ⟨u, hu, du⟩ := dpa_get ha hi
  rcases hs with hs | hs
  · exact .inl ⟨a, xs, i, u, rfl, rfl, e.seq hs, atI_nat hu, q u du⟩
  · exact .inr (.inl ⟨a, xs, i, u, rfl, rfl, same_t e hs, atI_nat hu, q u du⟩)
def rLen (K : PySem.W.Frag) : List V → Hp → VK → Prop := fun xs H Q => ∃ p ys, xs = [.ref p] ∧ (SqL K H p ys ∨ SqT K H p ys) ∧ Q (.int ys.length) H
theorem len_d {K : PySem.W.Frag} {H0 H : Hp} {v : V} {d : PyData} {ds : List PyData} {Q : VK} (e : Same H0 H) (h : Dp K H0 v d) (hd : items d = some ds) (q : Q (.int (ds.length : Nat)) H) : rLen K [v] H Q := by
  obtain ⟨a, xs, rfl, hs, ha⟩ := items_at h hd
  refine ⟨a, xs, rfl, hs.imp (fun z => e.seq z) (fun z => same_t e z), ?_⟩
  rw [dpa_len ha]; exact q

/-! ### whole numbers -/
def iD (n : Nat) : PyData := .int n
theorem dpa_ints {K : PySem.W.Frag} {H : Hp} : ∀ {ns : List Int} {vs : List V}, DpAll K H vs (ns.map PyData.int) → vs = ns.map V.int
  | [], _, h => by cases h; rfl
  | n :: ns, _, h => by
    cases h with
    | cons h1 h2 => cases h1; rw [dpa_ints h2]; rfl
theorem ints_dpa {K : PySem.W.Frag} {H : Hp} : ∀ ns : List Int, DpAll K H (ns.map V.int) (ns.map PyData.int)
  | [] => .nil
  | n :: ns => .cons (.int n) (ints_dpa ns)
theorem flat_ints : ∀ ns : List Int, (ns.map V.int).all flatV = true
  | [] => rfl
  | n :: ns => by rw [List.map_cons, List.all_cons, flat_ints ns]; rfl
theorem inV_ints (n : Int) : ∀ ns : List Int, inV (.int n) (ns.map V.int) = decide (n ∈ ns)
  | [] => by simp [inV]
  | m :: ns => by
    have ih := inV_ints n ns
    unfold inV at ih ⊢
    rw [List.map_cons, List.any_cons, ih]
    show ((m == n) || decide (n ∈ ns)) = decide (n ∈ m :: ns)
    by_cases q : m = n
    · subst q; simp
    · have q2 : ¬ n = m := fun z => q z.symm
      rw [show (m == n) = false from beq_eq_false_iff_ne.mpr q]
      simp [q2]
/-- n in xs, n not in xs -/
theorem in_d {K : PySem.W.Frag} {H0 H : Hp} {v : V} {d : PyData} {ns : List Int} {n : Int} {Q : VK} {neg : Bool} (e : Same H0 H) (h : Dp K H0 v d) (hd : items d = some (ns.map PyData.int)) (q : Q (.bl (if neg then !decide (n ∈ ns) else decide (n ∈ ns))) H) : rIn K neg (.int n) v H Q := by
  obtain ⟨a, xs, rfl, hs, ha⟩ := items_at h hd
  have ex := dpa_ints ha
  subst ex
  refine ⟨a, _, rfl, hs.imp (fun z => e.seq z) (fun z => same_t e z), rfl, flat_ints ns, ?_⟩
  rw [inV_ints]; exact q

/-! ### built-ins by names of their own -/
section
variable {X : Cx}
theorem call_lenR : CallR X (.builtin "len") (rLen X.K) := call_len_seq
def rTupOf (K : PySem.W.Frag) : List V → Hp → VK → Prop := fun xs H Q => ∃ p ys, xs = [.ref p] ∧ ((SqL K H p ys ∧ ∀ l, H l = none → Q (.ref l) (upd H l (.tup ys))) ∨ (SqT K H p ys ∧ Q (.ref p) H))
theorem call_tupR : CallR X (.type "tuple") (rTupOf X.K) := call_tuple_of
def rListOf (K : PySem.W.Frag) : List V → Hp → VK → Prop := fun xs H Q => ∃ p ys, xs = [.ref p] ∧ (SqL K H p ys ∨ SqT K H p ys) ∧ ∀ l, H l = none → Q (.ref l) (upd H l (.lst ys))
theorem call_listR : CallR X (.type "list") (rListOf X.K) := call_list_of
def rAbs : List V → Hp → VK → Prop := fun xs H Q => ∃ i, xs = [.int i] ∧ Q (.int (if i < 0 then -i else i)) H
theorem call_absR : CallR X (.builtin "abs") rAbs := call_abs
def rMax2 : List V → Hp → VK → Prop := fun xs H Q => ∃ i j, xs = [.int i, .int j] ∧ Q (.int (if j > i then j else i)) H
theorem call_max2R (hc : X.calm = true) : CallR X (.builtin "max") rMax2 := call_max2 hc
def rMin2 : List V → Hp → VK → Prop := fun xs H Q => ∃ i j, xs = [.int i, .int j] ∧ Q (.int (if j < i then j else i)) H
theorem call_min2R (hc : X.calm = true) : CallR X (.builtin "min") rMin2 := call_min2 hc
def rInt1 : List V → Hp → VK → Prop := fun xs H Q => (∃ i, xs = [.int i] ∧ Q (.int i) H) ∨ ∃ k, xs = [.bl k] ∧ Q (.int (if k then 1 else 0)) H
theorem call_int1R : CallR X (.type "int") rInt1 := call_int1
end
theorem dpa_bools {K : PySem.W.Frag} {H : Hp} : ∀ {ns : List Bool} {vs : List V}, DpAll K H vs (ns.map PyData.bool) → vs = ns.map V.bl
  | [], _, h => by cases h; rfl
  | n :: ns, _, h => by
    cases h with
    | cons h1 h2 => cases h1; rw [dpa_bools h2]; rfl
theorem all_d {K : PySem.W.Frag} {H0 H : Hp} {v : V} {bs : List Bool} {Q : VK} (e : Same H0 H) (h : Dp K H0 v (.list (bs.map PyData.bool))) (q : Q (.bl (bs.all id)) H) : rAll K [v] H Q := by
  obtain ⟨a, xs, rfl, hs, ha⟩ := list_at h
  have ex := dpa_bools ha
  subst ex
  exact ⟨a, bs, rfl, e.seq hs, q⟩
theorem any_d {K : PySem.W.Frag} {H0 H : Hp} {v : V} {bs : List Bool} {Q : VK} (e : Same H0 H) (h : Dp K H0 v (.list (bs.map PyData.bool))) (q : Q (.bl (bs.any id)) H) : rAny K [v] H Q := by
  obtain ⟨a, xs, rfl, hs, ha⟩ := list_at h
  have ex := dpa_bools ha
  subst ex
  exact ⟨a, bs, rfl, e.seq hs, q⟩
theorem max_d {K : PySem.W.Frag} {H0 H : Hp} {v : V} {ns : List Int} {Q : VK} (e : Same H0 H) (h : Dp K H0 v (.list (ns.map PyData.int))) (hn : 0 < ns.length) (q : ∀ m, m ∈ ns → (∀ y, y ∈ ns → y ≤ m) → Q (.int m) H) : rMax K [v] H Q := by
  obtain ⟨a, xs, rfl, hs, ha⟩ := list_at h
  have ex := dpa_ints ha
  subst ex
  exact ⟨a, ns, rfl, e.seq hs, hn, q⟩
theorem tup_d {K : PySem.W.Frag} {S : Addr → Prop} {H : Hp} {v : V} {d : PyData} {ds : List PyData} {Q : VK} (kn : Kn S H) (h : Dp K (off S H) v d) (hd : items d = some ds) (q : ∀ u H', Same H H' → Dp K (off S H') u (.tuple ds) → Q u H') : rTupOf K [v] H Q := by
  cases h with
  | non => cases hd
  | bl b => cases hd
  | int i => cases hd
  | str x => cases hd
  | lst hs ha =>
    cases hd
    exact ⟨_, _, rfl, .inl ⟨off_sub.seq hs, fun l hl => q _ _ (same_new hl) (.tup (sqT (by rw [off_out (kn.new hl)]; exact upd_same)) (dpa_same (off_same (same_new hl)) _ _ ha))⟩⟩
  | tup hs ha =>
    cases hd
    exact ⟨_, _, rfl, .inr ⟨same_t off_sub hs, q _ _ (Same.refl H) (.tup hs ha)⟩⟩
theorem list_d {K : PySem.W.Frag} {S : Addr → Prop} {H : Hp} {v : V} {d : PyData} {ds : List PyData} {Q : VK} (kn : Kn S H) (h : Dp K (off S H) v d) (hd : items d = some ds) (q : ∀ l xs, H l = none → DpAll K (off S H) xs ds → Dp K (off S (upd H l (.lst xs))) (.ref l) (.list ds) → Q (.ref l) (upd H l (.lst xs))) : rListOf K [v] H Q := by
  obtain ⟨a, xs, rfl, hs, ha⟩ := items_at h hd
  refine ⟨a, xs, rfl, hs.imp (fun z => off_sub.seq z) (fun z => same_t off_sub z), fun l hl => q l xs hl ha ?_⟩
  exact .lst (sqL (by rw [off_out (kn.new hl)]; exact upd_same)) (dpa_same (off_same (same_new hl)) _ _ ha)
end Kh

set_option maxRecDepth 100000
/-! trees: the mathematics -/
namespace Kh
open PySem
inductive T where
  | leaf (n : Nat)
  | gate (b : Bool) (k : Nat) (ps : List T)
theorem T.ind {P : T → Prop} (hl : ∀ n, P (.leaf n)) (hg : ∀ b k ps, (∀ p ∈ ps, P p) → P (.gate b k ps)) : ∀ t, P t := fun t =>
  T.rec (motive_1 := P) (motive_2 := fun ps => ∀ p ∈ ps, P p) hl (fun b k ps h => hg b k ps h) (fun p h => nomatch h) (fun t ts h1 h2 p hp => by
    rcases List.mem_cons.mp hp with rfl | hp
    · exact h1
    · exact h2 p hp) t
def sq (b : Bool) (ds : List PyData) : PyData := if b then .tuple ds else .list ds
theorem items_sq (b : Bool) (ds : List PyData) : items (sq b ds) = some ds := by cases b <;> rfl
mutual
def tD : T → PyData
  | .leaf n => .int (n : Nat)
  | .gate b k ps => .tuple [.str "of", .int (k : Nat), sq b (tDs ps)]
def tDs : List T → List PyData
  | [] => []
  | p :: ps => tD p :: tDs ps
end
mutual
def lv : T → List Nat
  | .leaf n => [n]
  | .gate _ _ ps => lvs ps
def lvs : List T → List Nat
  | [] => []
  | p :: ps => lv p ++ lvs ps
end
mutual
def dep : T → Nat
  | .leaf _ => 0
  | .gate _ _ ps => 1 + deps ps
def deps : List T → Nat
  | [] => 0
  | p :: ps => max (dep p) (deps ps)
end
mutual
def siz : T → Nat
  | .leaf _ => 1
  | .gate _ _ ps => 1 + sizs ps
def sizs : List T → Nat
  | [] => 0
  | p :: ps => siz p + sizs ps
end
mutual
/-- all parts told by tuples (true), by lists (false) -/
def flg (c : Bool) : T → T
  | .leaf n => .leaf n
  | .gate _ k ps => .gate c k (flgs c ps)
def flgs (c : Bool) : List T → List T
  | [] => []
  | p :: ps => flg c p :: flgs c ps
end
mutual
/-- the contrary, its parts lists -/
def con : T → T
  | .leaf n => .leaf n
  | .gate _ k ps => .gate false (ps.length + 1 - k) (cons_ ps)
def cons_ : List T → List T
  | [] => []
  | p :: ps => con p :: cons_ ps
end
mutual
def st (s : List Nat) : T → Bool
  | .leaf n => decide (n ∈ s)
  | .gate _ k ps => decide (k ≤ sts s ps)
def sts (s : List Nat) : List T → Nat
  | [] => 0
  | p :: ps => (if st s p then 1 else 0) + sts s ps
end
mutual
def Wf : T → Prop
  | .leaf n => n < 24
  | .gate _ k ps => 1 ≤ k ∧ k ≤ ps.length ∧ Wfs ps
def Wfs : List T → Prop
  | [] => True
  | p :: ps => Wf p ∧ Wfs ps
end
theorem tDs_map : ∀ ps : List T, tDs ps = ps.map tD
  | [] => by simp [tDs]
  | p :: ps => by simp [tDs, tDs_map ps]
theorem lvs_map : ∀ ps : List T, lvs ps = ps.flatMap lv
  | [] => by simp [lvs]
  | p :: ps => by simp [lvs, lvs_map ps]
theorem flgs_map (c : Bool) : ∀ ps : List T, flgs c ps = ps.map (flg c)
  | [] => by simp [flgs]
  | p :: ps => by simp [flgs, flgs_map c ps]
theorem cons_map : ∀ ps : List T, cons_ ps = ps.map con
  | [] => by simp [cons_]
  | p :: ps => by simp [cons_, cons_map ps]
theorem sts_filter (s : List Nat) : ∀ ps : List T, sts s ps = (ps.filter (st s)).length
  | [] => by simp [sts]
  | p :: ps => by
    rw [sts, sts_filter s ps, List.filter_cons]
    cases st s p <;> simp [Nat.add_comm]
theorem wfs_all : ∀ ps : List T, Wfs ps ↔ ∀ p ∈ ps, Wf p
  | [] => by simp [Wfs]
  | p :: ps => by simp [Wfs, wfs_all ps]
theorem deps_le {d : Nat} : ∀ ps : List T, deps ps ≤ d ↔ ∀ p ∈ ps, dep p ≤ d
  | [] => by simp [deps]
  | p :: ps => by simp [deps, deps_le ps, Nat.max_le]
theorem tD_gate (b : Bool) (k : Nat) (ps : List T) : tD (.gate b k ps) = .tuple [.str "of", .int (k : Nat), sq b (ps.map tD)] := by rw [tD, tDs_map]
theorem lv_gate (b : Bool) (k : Nat) (ps : List T) : lv (.gate b k ps) = ps.flatMap lv := by rw [lv, lvs_map]
theorem flg_gate (c b : Bool) (k : Nat) (ps : List T) : flg c (.gate b k ps) = .gate c k (ps.map (flg c)) := by rw [flg, flgs_map]
theorem con_gate (b : Bool) (k : Nat) (ps : List T) : con (.gate b k ps) = .gate false (ps.length + 1 - k) (ps.map con) := by rw [con, cons_map]
theorem st_gate (s : List Nat) (b : Bool) (k : Nat) (ps : List T) : st s (.gate b k ps) = decide (k ≤ (ps.filter (st s)).length) := by rw [st, sts_filter]
theorem wf_gate (b : Bool) (k : Nat) (ps : List T) : Wf (.gate b k ps) ↔ 1 ≤ k ∧ k ≤ ps.length ∧ ∀ p ∈ ps, Wf p := by rw [Wf, wfs_all]
theorem dep_gate {d : Nat} (b : Bool) (k : Nat) (ps : List T) : dep (.gate b k ps) ≤ d + 1 ↔ ∀ p ∈ ps, dep p ≤ d := by
  rw [dep, ← deps_le]; omega
theorem dep_gate0 (b : Bool) (k : Nat) (ps : List T) : ¬ dep (.gate b k ps) ≤ 0 := by rw [dep]; omega
theorem lv_leaf (n : Nat) : lv (.leaf n) = [n] := by rw [lv]
theorem tD_leaf (n : Nat) : tD (.leaf n) = .int (n : Nat) := by rw [tD]
theorem flg_leaf (c : Bool) (n : Nat) : flg c (.leaf n) = .leaf n := by rw [flg]
theorem con_leaf (n : Nat) : con (.leaf n) = .leaf n := by rw [con]
theorem st_leaf (s : List Nat) (n : Nat) : st s (.leaf n) = decide (n ∈ s) := by rw [st]
end Kh

set_option maxRecDepth 100000
/-! kinds of data, by the kernel -/
namespace Kh
open PySem PySem.Spec PyProof.Rows L2
def kInt : PyData → Bool | .int _ => true | .bool _ => true | _ => false
def kBool : PyData → Bool | .bool _ => true | _ => false
def kStr : PyData → Bool | .str _ => true | _ => false
def kTup : PyData → Bool | .tuple _ => true | _ => false
def kList : PyData → Bool | .list _ => true | _ => false
theorem kit_int : ∀ d : PyData, kitB (tyN d) "int" = some (kInt d)
  | .none => (by decide +kernel : kitB "NoneType" "int" = some false)
  | .bool _ => (by decide +kernel : kitB "bool" "int" = some true)
  | .int _ => (by decide +kernel : kitB "int" "int" = some true)
  | .str _ => (by decide +kernel : kitB "str" "int" = some false)
  | .list _ => (by decide +kernel : kitB "list" "int" = some false)
  | .tuple _ => (by decide +kernel : kitB "tuple" "int" = some false)
  | .dict _ => (by decide +kernel : kitB "dict" "int" = some false)
theorem kit_bool : ∀ d : PyData, kitB (tyN d) "bool" = some (kBool d)
  | .none => (by decide +kernel : kitB "NoneType" "bool" = some false)
  | .bool _ => (by decide +kernel : kitB "bool" "bool" = some true)
  | .int _ => (by decide +kernel : kitB "int" "bool" = some false)
  | .str _ => (by decide +kernel : kitB "str" "bool" = some false)
  | .list _ => (by decide +kernel : kitB "list" "bool" = some false)
  | .tuple _ => (by decide +kernel : kitB "tuple" "bool" = some false)
  | .dict _ => (by decide +kernel : kitB "dict" "bool" = some false)
theorem kit_str : ∀ d : PyData, kitB (tyN d) "str" = some (kStr d)
  | .none => (by decide +kernel : kitB "NoneType" "str" = some false)
  | .bool _ => (by decide +kernel : kitB "bool" "str" = some false)
  | .int _ => (by decide +kernel : kitB "int" "str" = some false)
  | .str _ => (by decide +kernel : kitB "str" "str" = some true)
  | .list _ => (by decide +kernel : kitB "list" "str" = some false)
  | .tuple _ => (by decide +kernel : kitB "tuple" "str" = some false)
  | .dict _ => (by decide +kernel : kitB "dict" "str" = some false)
theorem kit_tup : ∀ d : PyData, kitB (tyN d) "tuple" = some (kTup d)
  | .none => (by decide +kernel : kitB "NoneType" "tuple" = some false)
  | .bool _ => (by decide +kernel : kitB "bool" "tuple" = some false)
  | .int _ => (by decide +kernel : kitB "int" "tuple" = some false)
  | .str _ => (by decide +kernel : kitB "str" "tuple" = some false)
  | .list _ => (by decide +kernel : kitB "list" "tuple" = some false)
  | .tuple _ => (by decide +kernel : kitB "tuple" "tuple" = some true)
  | .dict _ => (by decide +kernel : kitB "dict" "tuple" = some false)
theorem kit_list : ∀ d : PyData, kitB (tyN d) "list" = some (kList d)
  | .none => (by decide +kernel : kitB "NoneType" "list" = some false)
  | .bool _ => (by decide +kernel : kitB "bool" "list" = some false)
  | .int _ => (by decide +kernel : kitB "int" "list" = some false)
  | .str _ => (by decide +kernel : kitB "str" "list" = some false)
  | .list _ => (by decide +kernel : kitB "list" "list" = some true)
  | .tuple _ => (by decide +kernel : kitB "tuple" "list" = some false)
  | .dict _ => (by decide +kernel : kitB "dict" "list" = some false)
def isIntD : PyData → Bool | .int _ => true | _ => false
def isCountD : PyData → Bool | .int i => decide (0 ≤ i) | _ => false
def isListD (d : PyData) : Bool := kList d || kTup d
def belowD (m : Int) : PyData → Bool | .int i => decide (0 ≤ i) && decide (i < m) | _ => false
end Kh

set_option maxRecDepth 100000
/-! readings, piece by piece -/
namespace Kh
open PySem PySem.Spec PyProof.Rows L2
section
variable {σ : L2.St} {H : Hp} {Q : VK} {D : Ends} {te ta tb tc : TE} {tt tu : TT} {ts tv : TS} {r r' : R2} {c1 : List V → Hp → VK → Prop} {sp : Sp} {E : XK} {v : V} {i : Nat} {K : PySem.W.Frag}
theorem t_var (h : σ[i]? = some (some v)) (q : Q v H) : tVar i σ H Q := ⟨v, h, q⟩
theorem t_c (q : Q v H) : tC v σ H Q := q
theorem t_op (h : ta σ H fun x H1 => tb σ H1 fun y H2 => r x y H2 Q) : tOp r ta tb σ H Q := h
theorem t_un {u1 : V → Hp → VK → Prop} (h : ta σ H fun x H1 => u1 x H1 Q) : tUn u1 ta σ H Q := h
theorem t_cb1 (h : ta σ H fun x H1 => c1 [x] H1 Q) : tCB c1 (tCons ta tNil) σ H Q := h
theorem t_cb2 (h : ta σ H fun x H1 => tb σ H1 fun y H2 => c1 [x, y] H2 Q) : tCB c1 (tCons ta (tCons tb tNil)) σ H Q := h
theorem t_call1 (h : ta σ H fun x H1 => sp [x] H1 Q E) : tCall sp [] E (tCons ta tNil) σ H Q := h
theorem t_call2 (h : ta σ H fun x H1 => tb σ H1 fun y H2 => sp [x, y] H2 Q E) : tCall sp [] E (tCons ta (tCons tb tNil)) σ H Q := h
theorem t_call3 (h : ta σ H fun x H1 => tb σ H1 fun y H2 => tc σ H2 fun z H3 => sp [x, y, z] H3 Q E) : tCall sp [] E (tCons ta (tCons tb (tCons tc tNil))) σ H Q := h
theorem t_notV (h : ta σ H fun x H1 => ∃ c, x = .bl c ∧ Q (.bl (!c)) H1) : tNotV ta σ H Q := h
theorem t_andV (h : ta σ H fun x H1 => ∃ c, x = .bl c ∧ if c = true then tb σ H1 Q else Q (.bl false) H1) : tAndV ta tb σ H Q := h
theorem t_orV (h : ta σ H fun x H1 => ∃ c, x = .bl c ∧ if c = true then Q (.bl true) H1 else tb σ H1 Q) : tOrV ta tb σ H Q := h
theorem t_if (h : tt σ H fun c H1 => if c = true then ta σ H1 Q else tb σ H1 Q) : tIf tt ta tb σ H Q := h
theorem t_lst0 (h : ∀ p, H p = none → Q (.ref p) (upd H p (.lst []))) : tLst tNil σ H Q := ⟨Nat.zero_le _, h⟩
theorem t_lst1 (h : ta σ H fun x H1 => ∀ p, H1 p = none → Q (.ref p) (upd H1 p (.lst [x]))) (m : ∀ Q Q' : VK, (∀ v H, Q v H → Q' v H) → ta σ H Q → ta σ H Q') : tLst (tCons ta tNil) σ H Q := m _ _ (fun x _ h => ⟨show [x].length ≤ sizeLine from Nat.le_trans (show 1 ≤ 1000 by decide) (by decide), h⟩) h
theorem t_tup {t : TA} (h : t σ H fun xs H1 => xs.length ≤ sizeLine ∧ ∀ p, H1 p = none → Q (.ref p) (upd H1 p (.tup xs))) : tTup t σ H Q := h
theorem t_lst {t : TA} (h : t σ H fun xs H1 => xs.length ≤ sizeLine ∧ ∀ p, H1 p = none → Q (.ref p) (upd H1 p (.lst xs))) : tLst t σ H Q := h
theorem a_cons {t : TA} {q : List V → Hp → Prop} (h : te σ H fun x H1 => t σ H1 fun xs H2 => q (x :: xs) H2) : tCons te t σ H q := h
theorem a_nil {q : List V → Hp → Prop} (h : q [] H) : tNil σ H q := h
theorem t_bm {K : PySem.W.Frag} {T : String} {r3 : V → List V → Hp → VK → Prop} {t : TA} (h : te σ H fun x H1 => tyV K T x H1 ∧ t σ H1 fun xs H2 => r3 x xs H2 Q) : tBM K T r3 te t σ H Q := h
theorem t_bm0 {K : PySem.W.Frag} {T : String} {r3 : V → List V → Hp → VK → Prop} (h : te σ H fun x H1 => tyV K T x H1 ∧ r3 x [] H1 Q) : tBM0 K T r3 te σ H Q := h
theorem t_call {t : TA} (h : t σ H fun vs H1 => sp vs H1 Q E) : tCall sp [] E t σ H Q := by
  have e : (fun (vs : List V) (H1 : Hp) => sp (vs ++ []) H1 Q E) = fun vs H1 => sp vs H1 Q E := by funext vs H1; rw [List.append_nil]
  show t σ H fun vs H1 => sp (vs ++ []) H1 Q E
  rw [e]; exact h
theorem t_cb {t : TA} (h : t σ H fun vs H1 => c1 vs H1 Q) : tCB c1 t σ H Q := h
theorem b_test {q : Bool → Hp → Prop} (h : te σ H fun x H1 => ∃ k, x = .bl k ∧ q k H1) : tTest te σ H q := h
theorem b_val {q : Bool → Hp → Prop} (h : te σ H fun x H1 => ∃ k, x = .bl k ∧ q k H1) : tB te σ H q := h
theorem b_not {q : Bool → Hp → Prop} (h : tt σ H fun b H1 => q (!b) H1) : tNot tt σ H q := h
theorem b_and {q : Bool → Hp → Prop} (h : tt σ H fun c H1 => if c = true then tu σ H1 q else q false H1) : tAnd tt tu σ H q := h
theorem b_or {q : Bool → Hp → Prop} (h : tt σ H fun c H1 => if c = true then q true H1 else tu σ H1 q) : tOr tt tu σ H q := h
theorem s_ret (h : te σ H D.rt) : tRet te D σ H := h
theorem s_if (h : tt σ H fun b H1 => if b = true then ts D σ H1 else tv D σ H1) : tIfS tt ts tv D σ H := h
theorem s_seq (h : ts { D with nx := tv D } σ H) : tSeq ts tv D σ H := h
theorem s_set (h : te σ H fun x H1 => D.nx (σ.set i (some x)) H1) : tAsg te (gName i) D σ H := h
theorem s_next {f : L2.St → Hp → Prop} {r : VK} {b c : L2.St → Hp → Prop} (h : f σ H) : tNext { nx := f, rt := r, bk := b, ct := c } σ H := h
theorem nx_of {f : L2.St → Hp → Prop} {r : VK} {b c : L2.St → Hp → Prop} (h : f σ H) : Ends.nx { nx := f, rt := r, bk := b, ct := c } σ H := h
theorem s_drop (h : te σ H fun _ H1 => D.nx σ H1) : tDrop te D σ H := h
end
/-- a bool, then by cases -/
theorem bl_if {b : Bool} {A B : Prop} (h1 : b = true → A) (h2 : b = false → B) : ∃ c, V.bl b = V.bl c ∧ if c = true then A else B :=
  ⟨b, rfl, by cases b with
    | true => exact iteT (h1 rfl)
    | false => exact iteF (h2 rfl)⟩
theorem bl_ifT {A B : Prop} (h1 : A) : ∃ c, V.bl true = V.bl c ∧ if c = true then A else B := bl_if (fun _ => h1) fun z => nomatch z
theorem bl_ifF {A B : Prop} (h1 : B) : ∃ c, V.bl false = V.bl c ∧ if c = true then A else B := bl_if (fun z => nomatch z) fun _ => h1
theorem if_b {b : Bool} {A B : Prop} (h1 : b = true → A) (h2 : b = false → B) : if b = true then A else B := by
  cases b with
  | true => exact iteT (h1 rfl)
  | false => exact iteF (h2 rfl)
theorem ii {i j : Int} {C : Int → Int → Prop} (h : C i j) : ∃ k l, V.int i = V.int k ∧ V.int j = V.int l ∧ C k l := ⟨i, j, rfl, rfl, h⟩
end Kh

set_option maxRecDepth 100000
set_option maxHeartbeats 1000000
/-! comprehensions over data -/
namespace Kh
open PySem PySem.Spec PyProof.Rows L2
theorem le1 : 1 ≤ sizeLine := by decide
theorem le2 : 2 ≤ sizeLine := by decide
theorem le3 : 3 ≤ sizeLine := by decide
theorem le4 : 4 ≤ sizeLine := by decide
theorem le5 : 5 ≤ sizeLine := by decide
theorem ifT {b : Bool} {A B : Prop} (e : b = true) (h : A) : if b = true then A else B := by rw [e]; exact iteT h
theorem ifF {b : Bool} {A B : Prop} (e : b = false) (h : B) : if b = true then A else B := by rw [e]; exact iteF h
/-- a new object keeps the rest of what is told -/
theorem off_plus {S : Addr → Prop} {H1 H : Hp} {D : Addr} (hD : H1 D = none) (s : Same H1 H) : Same (off S H1) (off (plus S D) H) := fun b o h => by
  obtain ⟨n, h⟩ := off_some h
  rw [off_out]
  · exact s b o h
  · rintro (z | rfl)
    · exact n z
    · rw [hD] at h; cases h
theorem off_fin {S : Addr → Prop} {H : Hp} {D : Addr} : Same (off (plus S D) H) (off S H) := off_less fun _ h => .inl h
/-- a new list or tuple of data -/
theorem dp_lst {K : PySem.W.Frag} {S : Addr → Prop} {H : Hp} {D : Addr} {ys : List V} {ds : List PyData} (n : ¬ S D) (h : H D = some (.lst ys)) (a : DpAll K (off S H) ys ds) : Dp K (off S H) (.ref D) (.list ds) :=
  .lst (sqL (by rw [off_out n]; exact h)) a
theorem dp_tup {K : PySem.W.Frag} {S : Addr → Prop} {H : Hp} {D : Addr} {ys : List V} {ds : List PyData} (n : ¬ S D) (h : H D = some (.tup ys)) (a : DpAll K (off S H) ys ds) : Dp K (off S H) (.ref D) (.tuple ds) :=
  .tup (sqT (by rw [off_out n]; exact h)) a
theorem dp_newT {K : PySem.W.Frag} {S : Addr → Prop} {H : Hp} {D : Addr} {ys : List V} {ds : List PyData} (kn : Kn S H) (h : H D = none) (a : DpAll K (off S H) ys ds) : Dp K (off S (upd H D (.tup ys))) (.ref D) (.tuple ds) :=
  dp_tup (kn.new h) upd_same (dpa_same (off_same (same_new h)) _ _ a)
theorem dp_newL {K : PySem.W.Frag} {S : Addr → Prop} {H : Hp} {D : Addr} {ys : List V} {ds : List PyData} (kn : Kn S H) (h : H D = none) (a : DpAll K (off S H) ys ds) : Dp K (off S (upd H D (.lst ys))) (.ref D) (.list ds) :=
  dp_lst (kn.new h) upd_same (dpa_same (off_same (same_new h)) _ _ a)
theorem dp_bl {K : PySem.W.Frag} {H : Hp} {b c : Bool} (e : b = c) : Dp K H (.bl b) (.bool c) := by subst e; exact .bl b
theorem dp_int {K : PySem.W.Frag} {H : Hp} {b c : Int} (e : b = c) : Dp K H (.int b) (.int c) := by subst e; exact .int b
/-- what is walked: a list or a tuple of data -/
theorem it_any {K : PySem.W.Frag} {S : Addr → Prop} {H : Hp} {σ : L2.St} {t : TE} {R : It → Hp → Prop} {b : Bool} {ds : List PyData}
    (hev : ∀ Q : VK, (∀ u H1, Same H H1 → Dp K (off S H1) u (sq b ds) → Q u H1) → t σ H Q)
    (k : ∀ J xs H1, Same H H1 → DpAll K (off S H1) xs ds → Walk J xs.length (fun H' => Same (off S H1) H') (YAt xs) → R J H1) : iList K t σ H R ∨ iTup K t σ H R := by
  cases b with
  | false =>
    refine .inl (hev _ fun u H1 s du => ?_)
    obtain ⟨a, xs, rfl, hs, ha⟩ := list_at du
    exact ⟨a, rfl, ⟨xs, off_sub.seq hs⟩, k _ xs H1 s ha (walk_list.mono (fun H' z => z.seq hs) fun _ _ _ _ _ _ y => y)⟩
  | true =>
    refine .inr (hev _ fun u H1 s du => ?_)
    obtain ⟨a, xs, rfl, hs, ha⟩ := tup_at du
    exact ⟨a, rfl, ⟨xs, same_t off_sub hs⟩, k _ xs H1 s ha (walk_tup.mono (fun H' z => same_t z hs) fun _ _ _ _ _ _ y => y)⟩
theorem range_map {α β : Type} {l : List α} {f : Nat → β} {g : α → β} (h : ∀ i x, l[i]? = some x → f i = g x) : (List.range l.length).map f = l.map g := by
  apply List.ext_getElem?
  intro i
  by_cases q : i < l.length
  · rw [List.getElem?_map, List.getElem?_map, List.getElem?_range q, List.getElem?_eq_getElem q]
    simp [h i _ (List.getElem?_eq_getElem q)]
  · rw [List.getElem?_eq_none_iff.mpr (by simp; omega), List.getElem?_eq_none_iff.mpr (by simp; omega)]
/-- [e for x in xs], e data of the item -/
theorem lc_dat {K : PySem.W.Frag} {S : Addr → Prop} {H1 : Hp} {σ : L2.St} {te : TE} {sl : Nat} {vs : List Nat} {Qd : VK} {J : It} {xs : List V} {ds : List PyData} (f : Nat → PyData)
    (w : Walk J xs.length (fun H' => Same (off S H1) H') (YAt xs)) (ha : DpAll K (off S H1) xs ds) (kn : Kn S H1) (hn : ds.length ≤ 100000) (hw : ∀ x, wipe ((wipe σ vs).set sl (some x)) vs = wipe σ vs)
    (body : ∀ j x d H S', ds[j]? = some d → Same H1 H → Kn S' H → Dp K (off S' H) x d → (∀ a, S a → S' a) → Same (off S H1) (off S' H) → ∀ Q : VK, (∀ y H', Same H H' → Dp K (off S' H') y (f j) → Q y H') → te ((wipe σ vs).set sl (some x)) H Q)
    (done : ∀ D H ys, H1 D = none → Same H1 H → H D = some (.lst ys) → Dp K (off S H) (.ref D) (.list ((List.range ds.length).map f)) → Qd (.ref D) H) :
    ∀ D, H1 D = none → ∃ W : Nat → Nat → Hp → Prop, (∃ m, W 0 m (upd H1 D (.lst []))) ∧ ∀ i m H, W i m H →
      (J.stop i H ∧ Qd (.ref D) H) ∨ (J.go i H ∧ ∃ Nx : Hp → Prop, (∀ H', Nx H' → ∃ m', m' < m ∧ W (i + 1) m' H') ∧ ∀ x H', J.yld i H x H' → gName sl x (wipe σ vs) H' fun σ2 H2 => wipe σ2 vs = wipe σ vs ∧ tYes σ2 H2 fun b H3 =>
        if b = true then te σ2 H3 fun y H4 => ∃ acc, H4 D = some (.lst acc) ∧ acc.length < sizeLine ∧ Nx (upd H4 D (.lst (acc ++ [y]))) else Nx H3) := by
  intro D hD
  have ln := dpa_len ha
  refine lc_map (Qd := Qd (.ref D)) w (fun j x => xs[j]? = some x) (fun i H x H' _ y => y) (fun j y H => Dp K (off (plus S D) H) y (f j)) (fun H s => off_sub.trans s) hD (by omega) hw (fun j y H H' e h => dp_same (off_but e) _ _ h) (fun j x H hj xj s hd Q q => ?_) (fun ys H hl py s hd => ?_)
  · obtain ⟨d, dj, dx⟩ := dpa_at ha xj
    exact body j x d H (plus S D) dj s ((kn.same s).plus hd) (dp_same (off_plus hD s) _ _ dx) (fun _ h => .inl h) (off_plus hD s) Q q
  · refine done D H ys hD s hd (dp_lst (kn.new hD) hd ?_)
    refine dpa_same (off_fin (D := D)) _ _ (dpa_of (by simp [hl, ln]) fun i v d h1 h2 => ?_)
    have hi : i < ds.length := by
      have := (List.getElem?_eq_some_iff.mp h1).1
      omega
    rw [List.getElem?_map, List.getElem?_range hi] at h2
    cases h2
    exact py i v h1
/-- [e for x in xs if t], t known item by item -/
theorem lc_datF {K : PySem.W.Frag} {S : Addr → Prop} {H1 : Hp} {σ : L2.St} {te : TE} {tt : TT} {sl : Nat} {vs : List Nat} {Qd : VK} {J : It} {xs : List V} {ds : List PyData} (pt : Nat → Bool) (f : Nat → PyData)
    (w : Walk J xs.length (fun H' => Same (off S H1) H') (YAt xs)) (ha : DpAll K (off S H1) xs ds) (kn : Kn S H1) (hn : ds.length ≤ 100000) (hw : ∀ x, wipe ((wipe σ vs).set sl (some x)) vs = wipe σ vs)
    (test : ∀ j x d H S', ds[j]? = some d → Same H1 H → Kn S' H → Dp K (off S' H) x d → (∀ a, S a → S' a) → Same (off S H1) (off S' H) → ∀ Q : Bool → Hp → Prop, (∀ H', Same H H' → Q (pt j) H') → tt ((wipe σ vs).set sl (some x)) H Q)
    (body : ∀ j x d H S', ds[j]? = some d → pt j = true → Same H1 H → Kn S' H → Dp K (off S' H) x d → (∀ a, S a → S' a) → Same (off S H1) (off S' H) → ∀ Q : VK, (∀ y H', Same H H' → Dp K (off S' H') y (f j) → Q y H') → te ((wipe σ vs).set sl (some x)) H Q)
    (done : ∀ D H ys, H1 D = none → Same H1 H → H D = some (.lst ys) → Dp K (off S H) (.ref D) (.list (((List.range ds.length).filter pt).map f)) → Qd (.ref D) H) :
    ∀ D, H1 D = none → ∃ W : Nat → Nat → Hp → Prop, (∃ m, W 0 m (upd H1 D (.lst []))) ∧ ∀ i m H, W i m H →
      (J.stop i H ∧ Qd (.ref D) H) ∨ (J.go i H ∧ ∃ Nx : Hp → Prop, (∀ H', Nx H' → ∃ m', m' < m ∧ W (i + 1) m' H') ∧ ∀ x H', J.yld i H x H' → gName sl x (wipe σ vs) H' fun σ2 H2 => wipe σ2 vs = wipe σ vs ∧ tt σ2 H2 fun b H3 =>
        if b = true then te σ2 H3 fun y H4 => ∃ acc, H4 D = some (.lst acc) ∧ acc.length < sizeLine ∧ Nx (upd H4 D (.lst (acc ++ [y]))) else Nx H3) := by
  intro D hD
  have ln := dpa_len ha
  refine lc_filt (Qd := Qd (.ref D)) w (fun j x => xs[j]? = some x) (fun i H x H' _ y => y) pt (fun j y H => Dp K (off (plus S D) H) y (f j)) (fun H s => off_sub.trans s) hD (by omega) hw (fun j y H H' e h => dp_same (off_but e) _ _ h) (fun j x H hj xj s hd Q q => ?_) (fun j x H hj xj pj s hd Q q => ?_) (fun ys H py s hd => ?_)
  · obtain ⟨d, dj, dx⟩ := dpa_at ha xj
    exact test j x d H (plus S D) dj s ((kn.same s).plus hd) (dp_same (off_plus hD s) _ _ dx) (fun _ h => .inl h) (off_plus hD s) Q q
  · obtain ⟨d, dj, dx⟩ := dpa_at ha xj
    exact body j x d H (plus S D) dj pj s ((kn.same s).plus hd) (dp_same (off_plus hD s) _ _ dx) (fun _ h => .inl h) (off_plus hD s) Q q
  · refine done D H ys hD s hd (dp_lst (kn.new hD) hd ?_)
    rw [ln] at py
    refine dpa_same (off_fin (D := D)) _ _ ?_
    have go : ∀ {l : List Nat} {ys : List V}, Paired (fun j y => Dp K (off (plus S D) H) y (f j)) l ys → DpAll K (off (plus S D) H) ys (l.map f) := by
      intro l ys p
      induction p with
      | nil => exact .nil
      | cons r t ih => exact .cons r ih
    exact go py
theorem lc_seqF {K : PySem.W.Frag} {S : Addr → Prop} {H : Hp} {σ : L2.St} {t te : TE} {tt : TT} {sl : Nat} {vs : List Nat} {Q : VK} {b : Bool} {ds : List PyData} (pt : Nat → Bool) (f : Nat → PyData) (kn : Kn S H)
    (hev : ∀ Q : VK, (∀ u H1, Same H H1 → Dp K (off S H1) u (sq b ds) → Q u H1) → t σ H Q) (hn : ds.length ≤ 100000) (hw : ∀ x, wipe ((wipe σ vs).set sl (some x)) vs = wipe σ vs)
    (test : ∀ j x d H1 S', ds[j]? = some d → Same H H1 → Kn S' H1 → Dp K (off S' H1) x d → (∀ a, S a → S' a) → Same (off S H) (off S' H1) → ∀ Q : Bool → Hp → Prop, (∀ H', Same H1 H' → Q (pt j) H') → tt ((wipe σ vs).set sl (some x)) H1 Q)
    (body : ∀ j x d H1 S', ds[j]? = some d → pt j = true → Same H H1 → Kn S' H1 → Dp K (off S' H1) x d → (∀ a, S a → S' a) → Same (off S H) (off S' H1) → ∀ Q : VK, (∀ y H', Same H1 H' → Dp K (off S' H') y (f j) → Q y H') → te ((wipe σ vs).set sl (some x)) H1 Q)
    (done : ∀ D H1 ys, H D = none → Same H H1 → H1 D = some (.lst ys) → Dp K (off S H1) (.ref D) (.list (((List.range ds.length).filter pt).map f)) → Q (.ref D) H1) :
    tLc (fun σ H R => iList K t σ H R ∨ iTup K t σ H R) (gName sl) tt te vs σ H Q :=
  it_any hev fun J xs H1 s ha w => lc_datF pt f w ha (kn.same s) hn hw (fun j x d H2 S' dj s2 kn2 dx hS hoff Q q => test j x d H2 S' dj (s.trans s2) kn2 dx hS ((off_same s).trans hoff) Q q)
    (fun j x d H2 S' dj pj s2 kn2 dx hS hoff Q q => body j x d H2 S' dj pj (s.trans s2) kn2 dx hS ((off_same s).trans hoff) Q q)
    fun D H2 ys hD s2 hd h => done D H2 ys (s.free hD) (s.trans s2) hd h
theorem range_filter {α β : Type} {l : List α} {pt : Nat → Bool} {p : α → Bool} {f : Nat → β} {g : α → β} (h : ∀ i x, l[i]? = some x → pt i = p x ∧ f i = g x) : ((List.range l.length).filter pt).map f = (l.filter p).map g := by
  have go : ∀ n, n ≤ l.length → ((List.range n).filter pt).map f = ((l.take n).filter p).map g := by
    intro n
    induction n with
    | zero => intro _; simp
    | succ n ih =>
      intro hn
      have e : l[n]? = some l[n] := List.getElem?_eq_getElem (by omega)
      obtain ⟨h1, h2⟩ := h n _ e
      rw [List.range_succ, List.take_add_one, e, List.filter_append, List.filter_append, List.map_append, List.map_append, ih (by omega)]
      congr 1
      cases q : p l[n] with
      | true => rw [q] at h1; simp [h1, h2, q]
      | false => rw [q] at h1; simp [h1, q]
  have := go l.length (Nat.le_refl _)
  rwa [List.take_length] at this
/-- .. that is walked as it stands -/
theorem lc_seq {K : PySem.W.Frag} {S : Addr → Prop} {H : Hp} {σ : L2.St} {t te : TE} {sl : Nat} {vs : List Nat} {Q : VK} {b : Bool} {ds : List PyData} (f : Nat → PyData) (kn : Kn S H)
    (hev : ∀ Q : VK, (∀ u H1, Same H H1 → Dp K (off S H1) u (sq b ds) → Q u H1) → t σ H Q) (hn : ds.length ≤ 100000) (hw : ∀ x, wipe ((wipe σ vs).set sl (some x)) vs = wipe σ vs)
    (body : ∀ j x d H1 S', ds[j]? = some d → Same H H1 → Kn S' H1 → Dp K (off S' H1) x d → (∀ a, S a → S' a) → Same (off S H) (off S' H1) → ∀ Q : VK, (∀ y H', Same H1 H' → Dp K (off S' H') y (f j) → Q y H') → te ((wipe σ vs).set sl (some x)) H1 Q)
    (done : ∀ D H1 ys, H D = none → Same H H1 → H1 D = some (.lst ys) → Dp K (off S H1) (.ref D) (.list ((List.range ds.length).map f)) → Q (.ref D) H1) :
    tLc (fun σ H R => iList K t σ H R ∨ iTup K t σ H R) (gName sl) tYes te vs σ H Q :=
  it_any hev fun J xs H1 s ha w => lc_dat f w ha (kn.same s) hn hw (fun j x d H2 S' dj s2 kn2 dx hS hoff Q q => body j x d H2 S' dj (s.trans s2) kn2 dx hS ((off_same s).trans hoff) Q q)
    fun D H2 ys hD s2 hd h => done D H2 ys (s.free hD) (s.trans s2) hd h

theorem t_yes {σ : L2.St} {H : Hp} {A B : Hp → Prop} (h : A H) : tYes σ H fun b H' => if b = true then A H' else B H' := iteT (A := A H) (B := B H) h
/-- any walk, a step a turn -/
theorem wlk {J : It} {n : Nat} {G : Hp → Prop} {Y : Nat → Hp → V → Hp → Prop} (w : Walk J n G Y) {H0 : Hp} {Dn : Hp → Prop} (Stp : V → Hp → (Hp → Prop) → Prop) (Pv : Nat → Hp → Prop) (h0 : Pv 0 H0) (hG : ∀ i H, i ≤ n → Pv i H → G H)
    (hs : ∀ i x H H', i < n → Pv i H → Y i H x H' → Stp x H' (Pv (i + 1))) (hd : ∀ H, Pv n H → Dn H) :
    ∃ W : Nat → Nat → Hp → Prop, (∃ m, W 0 m H0) ∧ ∀ i m H, W i m H →
      (J.stop i H ∧ Dn H) ∨ (J.go i H ∧ ∃ Nx : Hp → Prop, (∀ H', Nx H' → ∃ m', m' < m ∧ W (i + 1) m' H') ∧ ∀ x H', J.yld i H x H' → Stp x H' Nx) := by
  refine ⟨fun i m H => m = n - i ∧ i ≤ n ∧ Pv i H, ⟨n, by simp, Nat.zero_le _, h0⟩, ?_⟩
  rintro i m H ⟨rfl, hi, p⟩
  by_cases q : i < n
  · exact .inr ⟨w.goes i H q (hG i H hi p), Pv (i + 1), fun H' p' => ⟨n - (i + 1), by omega, rfl, q, p'⟩, fun x H' y => hs i x H H' q p (w.yields i H x H' q (hG i H hi p) y)⟩
  · have e : i = n := by omega
    subst e
    exact .inl ⟨w.stops H (hG _ H hi p), hd H p⟩
theorem flat_take {f : Nat → List PyData} (n : Nat) : (List.range (n + 1)).flatMap f = (List.range n).flatMap f ++ f n := by
  rw [List.range_succ, List.flatMap_append]; simp
/-- [y for x in xs for y in e], e a list of data -/
theorem lc2_seq {K : PySem.W.Frag} {S : Addr → Prop} {H : Hp} {σ : L2.St} {t t2 : TE} {s1 s2 : Nat} {vs vs1 : List Nat} {Q : VK} {b : Bool} {ds : List PyData} (f : Nat → List PyData) (kn : Kn S H)
    (hev : ∀ Q : VK, (∀ u H1, Same H H1 → Dp K (off S H1) u (sq b ds) → Q u H1) → t σ H Q) (hn : ∀ n, n ≤ ds.length → ((List.range n).flatMap f).length ≤ 100000) (hw : ∀ x, wipe ((wipe σ vs).set s1 (some x)) vs = wipe σ vs)
    (hw1 : ∀ x y, wipe ((wipe ((wipe σ vs).set s1 (some x)) vs1).set s2 (some y)) vs1 = wipe ((wipe σ vs).set s1 (some x)) vs1) (hg : ∀ x y, ((wipe ((wipe σ vs).set s1 (some x)) vs1).set s2 (some y))[s2]? = some (some y))
    (body : ∀ j x d H1 S', ds[j]? = some d → Same H H1 → Kn S' H1 → Dp K (off S' H1) x d → (∀ a, S a → S' a) → ∀ Q : VK, (∀ y H', Same H1 H' → Dp K (off S' H') y (.list (f j)) → Q y H') → t2 ((wipe σ vs).set s1 (some x)) H1 Q)
    (done : ∀ D H1 ys, H D = none → Same H H1 → H1 D = some (.lst ys) → Dp K (off S H1) (.ref D) (.list ((List.range ds.length).flatMap f)) → Q (.ref D) H1) :
    tLc2 (fun σ H R => iList K t σ H R ∨ iTup K t σ H R) (gName s1) tYes (fun σ H R => iList K t2 σ H R ∨ iTup K t2 σ H R) (gName s2) tYes (tVar s2) vs vs1 σ H Q := by
  refine it_any hev fun J xs H1 s ha w D hD => ?_
  have ln := dpa_len ha
  have kn1 := kn.same s
  refine wlk w (fun x H' Nx => gName s1 x (wipe σ vs) H' _) (fun i H' => ∃ ys, DpAll K (off (plus S D) H') ys ((List.range i).flatMap f) ∧ Same H1 H' ∧ H' D = some (.lst ys)) ⟨[], .nil, same_new hD, upd_same⟩ (fun i H' _ ⟨_, _, z, _⟩ => off_sub.trans z) ?_ ?_
  · rintro i x H2 H3 hi ⟨ys, py, z, hd⟩ ⟨rfl, xi⟩
    obtain ⟨d, dj, dx⟩ := dpa_at ha xi
    refine ⟨hw x, t_yes ?_⟩
    refine it_any (b := false) (S := plus S D) (ds := f i) (fun Q q => body i x d H3 (plus S D) dj (s.trans z) ((kn1.same z).plus (some_ne hd)) (dp_same (off_plus hD z) _ _ dx) (fun _ h => .inl h) Q q) fun J1 zs H4 s4 hz w1 => ?_
    have lz := dpa_len hz
    refine wlk w1 (fun y H' Nx => gName s2 y (wipe ((wipe σ vs).set s1 (some x)) vs1) H' fun σ3 H5 => wipe σ3 vs1 = wipe ((wipe σ vs).set s1 (some x)) vs1 ∧ tYes σ3 H5 fun b H6 => if b = true then tVar s2 σ3 H6 fun y H7 => ∃ acc, H7 D = some (.lst acc) ∧ acc.length < sizeLine ∧ Nx (upd H7 D (.lst (acc ++ [y]))) else Nx H6) (fun j H' => ∃ ys', DpAll K (off (plus S D) H') ys' ((List.range i).flatMap f ++ (f i).take j) ∧ SameBut D H4 H' ∧ H' D = some (.lst ys')) ⟨ys, by simpa using dpa_same (off_same s4) _ _ py, sbut (Same.refl _), s4 _ _ hd⟩ (fun j H' _ ⟨_, _, z', _⟩ => fun c o h => z' c o (fun e => (off_some h).1 (.inr e)) (off_some h).2) ?_ fun H5 h5 => ?_
    · rintro j y H5 H6 hj ⟨ys', py', z', hd'⟩ ⟨rfl, yj⟩
      obtain ⟨e, ej, de⟩ := dpa_at hz yj
      refine ⟨hw1 x y, t_yes ?_⟩
      have hl : ys'.length ≤ 100000 := by
        have h1 := dpa_len py'
        have h2 := hn (i + 1) (by omega)
        rw [flat_take, List.length_append] at h2
        rw [h1, List.length_append, List.length_take]
        omega
      refine ⟨y, hg x y, ys', hd', Nat.lt_of_le_of_lt hl (by decide), ys' ++ [y], ?_, bmut z', upd_same⟩
      rw [off_mut (show plus S D D from .inr rfl), List.take_add_one, ej, ← List.append_assoc]
      exact dpa_app py' (.cons (dp_same (off_but z') _ _ de) .nil)
    · obtain ⟨ys', py', z', hd'⟩ := h5
      refine ⟨ys', ?_, ?_, hd'⟩
      · rw [flat_take]
        rwa [List.take_of_length_le (by omega)] at py'
      · intro c o h
        exact z' c o (ne_of_none h hD) (s4 c o (z c o h))
  · rintro H2 ⟨ys, py, z, hd⟩
    refine done D H2 ys (s.free hD) (s.trans z) hd (dp_lst (kn1.new hD) hd ?_)
    rw [← ln]
    exact dpa_same (off_fin (D := D)) _ _ py
end Kh

set_option maxRecDepth 100000
set_option maxHeartbeats 4000000
namespace PySem
open PySem.AutoSeq1
theorem kh_extend_tuple (l : Addr) (items : Array Value) (n : Nat) (b : Addr) (items2 : Array Value) (n2 : Nat) (dd : Option Addr) (sl : Array (Option Value)) (hs0 : ¬(!items.isEmpty && Builtin.List.listTooLong (items.size + items2.size)) = true) (hs1 : items.size ≤ sizeLine)
    (hs2 : items.size + items2.size ≤ sizeLine + 1) :
    Meets (Builtin.«list.extend» ⟨[.ref l, .ref b], []⟩) (fun _ R s => s.heap.get? l = some { cls := .type "list", dict := none, data := .seq items n, slots := #[] } ∧ s.heap.get? b = some { cls := .type "tuple", dict := dd, data := .seq items2 n2, slots := sl } ∧
      R (.ok (.ret Value.none)) { s with heap := s.heap.update l (Obj.mapSeq fun x => x ++ items2), toks := s.toks }) :=
  .of_wp fun prog w A R s h => by
    obtain ⟨hp, g, d, tk, os⟩ := s
    obtain ⟨hl, hb, h⟩ := h
    have f1 := idx_int; have f2 := sub_tuple_tuple; have f3 := sub_list_list; have f4 := sub_tuple_list; have f5 := sub_list_tuple
    have hz' : (items ++ items2).size ≤ sizeLine + 1 := by rw [Array.size_append]; exact hs2
    wp_walk using (wpAny_updateSeq hl rfl (hz := hs1) (_hz' := hz')), wpAny_loadPart' hl, wpAny_loadPart' hb
    exact ⟨_, rfl, h⟩
theorem kh_extend_list (l : Addr) (items : Array Value) (n : Nat) (b : Addr) (items2 : Array Value) (n2 : Nat) (dd : Option Addr) (sl : Array (Option Value)) (hs0 : ¬(!items.isEmpty && Builtin.List.listTooLong (items.size + items2.size)) = true) (hs1 : items.size ≤ sizeLine)
    (hs2 : items.size + items2.size ≤ sizeLine + 1) :
    Meets (Builtin.«list.extend» ⟨[.ref l, .ref b], []⟩) (fun _ R s => s.heap.get? l = some { cls := .type "list", dict := none, data := .seq items n, slots := #[] } ∧ s.heap.get? b = some { cls := .type "list", dict := dd, data := .seq items2 n2, slots := sl } ∧
      R (.ok (.ret Value.none)) { s with heap := s.heap.update l (Obj.mapSeq fun x => x ++ items2), toks := s.toks }) :=
  .of_wp fun prog w A R s h => by
    obtain ⟨hp, g, d, tk, os⟩ := s
    obtain ⟨hl, hb, h⟩ := h
    have f1 := idx_int; have f2 := sub_tuple_tuple; have f3 := sub_list_list; have f4 := sub_tuple_list; have f5 := sub_list_tuple
    have hz' : (items ++ items2).size ≤ sizeLine + 1 := by rw [Array.size_append]; exact hs2
    wp_walk using (wpAny_updateSeq hl rfl (hz := hs1) (_hz' := hz')), wpAny_loadPart' hl, wpAny_loadPart' hb
    exact ⟨_, rfl, h⟩
end PySem
namespace Kh
open PySem PySem.Spec PyProof.Rows L2
/-- xs.extend(a list or a tuple) -/
def rExtS (K : PySem.W.Frag) : V → List V → Hp → VK → Prop := fun x vs H Q => ∃ l b xs zs, x = .ref l ∧ vs = [.ref b] ∧ H l = some (.lst xs) ∧ (SqL K H b zs ∨ SqT K H b zs) ∧ xs.length + zs.length ≤ sizeLine ∧ Q .non (upd H l (.lst (xs ++ zs)))
theorem mt_extS {X : Cx} : MtM X "list.extend" (rExtS X.K) := by
  intro pins s ρ H x vs v us Q I rx rv h
  obtain ⟨l, b, xs, zs, rfl, rfl, hH, hB, hz, q⟩ := h
  cases rx
  obtain ⟨u, rfl, ru⟩ := rv.one
  cases ru
  obtain ⟨z, its, n, r, hl, e⟩ := I.lstM hH
  have fin : ∀ (its2 : List Value), Vals zs its2 → EP X pins ρ Q Value.none { s with heap := s.heap.update l (Obj.mapSeq fun x => x ++ its2.toArray), toks := s.toks } := fun its2 r2 =>
    ⟨.non, _, I.lset (its' := its ++ its2) hH e (by simp) (r.append r2) (by rw [List.length_append]; omega), rfl, q⟩
  have door : ∀ its2 : List Value, Vals zs its2 → ¬ (!its.toArray.isEmpty && Builtin.List.listTooLong (its.toArray.size + its2.toArray.size)) = true := fun its2 r2 => by
    have h1 : its.toArray.size + its2.toArray.size ≤ sizeLine := by rw [List.size_toArray, List.size_toArray, ← hl, ← r2.length]; exact hz
    rw [notLongL h1, Bool.and_false]; exact Bool.false_ne_true
  rcases hB with hB | hB
  · obtain ⟨its2, r2, ⟨⟨oc, od, ot, os⟩, n2, e2, h1, h2, h3⟩, _⟩ := I.list hB
    simp only at h1 h2 h3
    subst h1; subst h2; subst h3
    refine call_meets F.slot_list_extend ⟨_, e, rfl⟩ F.entry_list_extend (F.args_list_extend_2 _ _) (kh_extend_list l its.toArray n b its2.toArray n2 none os (door its2 r2) (by rw [List.size_toArray]; omega) ?_) ⟨e, e2, fin its2 r2⟩
    rw [List.size_toArray, List.size_toArray, ← hl, ← r2.length]; omega
  · obtain ⟨its2, r2, ⟨⟨oc, od, ot, os⟩, e2, h1, n2, h3⟩, _⟩ := I.tuple hB
    simp only at h1 h3
    subst h1; subst h3
    refine call_meets F.slot_list_extend ⟨_, e, rfl⟩ F.entry_list_extend (F.args_list_extend_2 _ _) (kh_extend_tuple l its.toArray n b its2.toArray n2 od os (door its2 r2) (by rw [List.size_toArray]; omega) ?_) ⟨e, e2, fin its2 r2⟩
    rw [List.size_toArray, List.size_toArray, ← hl, ← r2.length]; omega
end Kh

set_option maxRecDepth 100000
set_option maxHeartbeats 1000000
/-! the rules with the written part named (within a comprehension it is the body's) -/
namespace Kh
open PySem PySem.Spec PyProof.Rows L2
section
variable {X : Cx} {K : PySem.W.Frag}
theorem k_ix (h : X.K = K := by rfl) : IxR X (rIx K) := by subst h; exact ix_seq
theorem k_isi (h : X.K = K := by rfl) : CallR X (.builtin "isinstance") (rIsi K) := by subst h; exact call_isi
theorem k_isiT (h : X.K = K := by rfl) : CallR X (.builtin "isinstance") (rIsiT K) := by subst h; exact call_isiT
theorem k_len (h : X.K = K := by rfl) : CallR X (.builtin "len") (rLen K) := by subst h; exact call_lenR
theorem k_tup (h : X.K = K := by rfl) : CallR X (.type "tuple") (rTupOf K) := by subst h; exact call_tupR
theorem k_list (h : X.K = K := by rfl) : CallR X (.type "list") (rListOf K) := by subst h; exact call_listR
theorem k_all (hc : X.calm = true) (h : X.K = K := by rfl) : CallR X (.builtin "all") (rAll K) := by subst h; exact cr_all hc
theorem k_any (hc : X.calm = true) (h : X.K = K := by rfl) : CallR X (.builtin "any") (rAny K) := by subst h; exact cr_any hc
theorem k_max (hc : X.calm = true) (h : X.K = K := by rfl) : CallR X (.builtin "max") (rMax K) := by subst h; exact cr_max hc
theorem k_in (h : X.K = K := by rfl) : OpR X (compareOp .In) (rIn K false) := by subst h; exact op_in_seq
theorem k_notIn (h : X.K = K := by rfl) : OpR X (compareOp .NotIn) (rIn K true) := by subst h; exact op_notIn_seq
theorem k_eqD (hu : X.A.units + 64 < cLine) (h : X.K = K := by rfl) : OpR X (compareOp .Eq) (rEqD K) := by subst h; exact op_eqD hu
theorem k_neD (hu : X.A.units + 64 < cLine) (h : X.K = K := by rfl) : OpR X (compareOp .NotEq) (rNeD K) := by subst h; exact op_neD hu
theorem k_sl (h : X.K = K := by rfl) : SlR X (rSlL K) := by subst h; exact sl_list
theorem k_ext (h : X.K = K := by rfl) : MtM X "list.extend" (rExtS K) := by subst h; exact mt_extS
theorem k_pi {tg e : Expr} {t : TE} (he : PE X e t) (h : X.K = K := by rfl) : PI X tg e (fun σ H R => iList K t σ H R ∨ iTup K t σ H R) := by subst h; exact pi_any he
theorem k_fld {e : Expr} {f : Str} {pos : Pos} {t : TE} (he : PE X e t) (hb : attributeBase e f X.env (eval e X.env) = eval e X.env) (h : X.K = K := by rfl) : PE X (.Attribute e f pos) (tFld K t f) := by subst h; exact pe_fld he hb
end
end Kh

set_option maxRecDepth 100000
set_option maxHeartbeats 4000000
namespace K31
open PySem PySem.Spec PyProof.Rows L2 Kh
def top (i : Nat) : Stmt := PySem.Challenge.pw_oneshelf_k61_rules_as_values.main.body.getD i (.Pass ⟨0, 0, 0, 0⟩)
abbrev is_integer_s : Stmt := top 1
abbrev is_integer_N : List Str := ["value"]
theorem sc_is_integer : FnScope is_integer_N ["value"] (defScope is_integer_s) := ⟨rfl, rfl, rfl, by decide +kernel, rfl, by decide +kernel, by decide +kernel⟩
abbrev is_count_s : Stmt := top 2
abbrev is_count_N : List Str := ["value"]
theorem sc_is_count : FnScope is_count_N ["value"] (defScope is_count_s) := ⟨rfl, rfl, rfl, by decide +kernel, rfl, by decide +kernel, by decide +kernel⟩
abbrev is_list_s : Stmt := top 3
abbrev is_list_N : List Str := ["value"]
theorem sc_is_list : FnScope is_list_N ["value"] (defScope is_list_s) := ⟨rfl, rfl, rfl, by decide +kernel, rfl, by decide +kernel, by decide +kernel⟩
abbrev is_number_below_s : Stmt := top 4
abbrev is_number_below_N : List Str := ["value", "many"]
theorem sc_is_number_below : FnScope is_number_below_N ["value", "many"] (defScope is_number_below_s) := ⟨rfl, rfl, rfl, by decide +kernel, rfl, by decide +kernel, by decide +kernel⟩
abbrev is_gate_s : Stmt := top 19
abbrev is_gate_N : List Str := ["value"]
theorem sc_is_gate : FnScope is_gate_N ["value"] (defScope is_gate_s) := ⟨rfl, rfl, rfl, by decide +kernel, rfl, by decide +kernel, by decide +kernel⟩
abbrev is_tree_s : Stmt := top 20
abbrev is_tree_N : List Str := ["value", "waiting", "part"]
theorem sc_is_tree : FnScope is_tree_N ["value"] (defScope is_tree_s) := ⟨rfl, rfl, rfl, by decide +kernel, rfl, by decide +kernel, by decide +kernel⟩
abbrev firm_s : Stmt := top 21
abbrev firm_N : List Str := ["shape", "part"]
theorem sc_firm : FnScope firm_N ["shape"] (defScope firm_s) := ⟨rfl, rfl, rfl, by decide +kernel, rfl, by decide +kernel, by decide +kernel⟩
abbrev listed_s : Stmt := top 22
abbrev listed_N : List Str := ["shape", "part"]
theorem sc_listed : FnScope listed_N ["shape"] (defScope listed_s) := ⟨rfl, rfl, rfl, by decide +kernel, rfl, by decide +kernel, by decide +kernel⟩
abbrev leaves_s : Stmt := top 23
abbrev leaves_N : List Str := ["shape", "part", "house"]
theorem sc_leaves : FnScope leaves_N ["shape"] (defScope leaves_s) := ⟨rfl, rfl, rfl, by decide +kernel, rfl, by decide +kernel, by decide +kernel⟩
abbrev depth_s : Stmt := top 24
abbrev depth_N : List Str := ["shape", "part"]
theorem sc_depth : FnScope depth_N ["shape"] (defScope depth_s) := ⟨rfl, rfl, rfl, by decide +kernel, rfl, by decide +kernel, by decide +kernel⟩
abbrev stands_in_s : Stmt := top 26
abbrev stands_in_N : List Str := ["shape", "houses", "part"]
theorem sc_stands_in : FnScope stands_in_N ["shape", "houses"] (defScope stands_in_s) := ⟨rfl, rfl, rfl, by decide +kernel, rfl, by decide +kernel, by decide +kernel⟩
abbrev Tree_init_s : Stmt := inClass (top 28) 0
abbrev Tree_init_N : List Str := ["self", "shape", "house"]
theorem sc_Tree_init : FnScope Tree_init_N ["self", "shape"] (defScope Tree_init_s) := ⟨rfl, rfl, rfl, by decide +kernel, rfl, by decide +kernel, by decide +kernel⟩
abbrev Tree_shape_s : Stmt := inClass (top 28) 2
abbrev Tree_shape_N : List Str := ["self"]
theorem sc_Tree_shape : FnScope Tree_shape_N ["self"] (defScope Tree_shape_s) := ⟨rfl, rfl, rfl, by decide +kernel, rfl, by decide +kernel, by decide +kernel⟩
abbrev Tree_is_plain_s : Stmt := inClass (top 28) 3
abbrev Tree_is_plain_N : List Str := ["self"]
theorem sc_Tree_is_plain : FnScope Tree_is_plain_N ["self"] (defScope Tree_is_plain_s) := ⟨rfl, rfl, rfl, by decide +kernel, rfl, by decide +kernel, by decide +kernel⟩
abbrev Tree_members_s : Stmt := inClass (top 28) 4
abbrev Tree_members_N : List Str := ["self"]
theorem sc_Tree_members : FnScope Tree_members_N ["self"] (defScope Tree_members_s) := ⟨rfl, rfl, rfl, by decide +kernel, rfl, by decide +kernel, by decide +kernel⟩
abbrev Tree_eq_s : Stmt := inClass (top 28) 11
abbrev Tree_eq_N : List Str := ["self", "other"]
theorem sc_Tree_eq : FnScope Tree_eq_N ["self", "other"] (defScope Tree_eq_s) := ⟨rfl, rfl, rfl, by decide +kernel, rfl, by decide +kernel, by decide +kernel⟩
abbrev Tree_repr_s : Stmt := inClass (top 28) 12
abbrev Tree_repr_N : List Str := ["self"]
theorem sc_Tree_repr : FnScope Tree_repr_N ["self"] (defScope Tree_repr_s) := ⟨rfl, rfl, rfl, by decide +kernel, rfl, by decide +kernel, by decide +kernel⟩
abbrev lists_of_s : Stmt := top 31
abbrev lists_of_N : List Str := ["houses", "found", "house", "some"]
theorem sc_lists_of : FnScope lists_of_N ["houses"] (defScope lists_of_s) := ⟨rfl, rfl, rfl, by decide +kernel, rfl, by decide +kernel, by decide +kernel⟩
abbrev stands_barely_s : Stmt := top 32
abbrev stands_barely_N : List Str := ["shape", "houses", "house", "other"]
theorem sc_stands_barely : FnScope stands_barely_N ["shape", "houses"] (defScope stands_barely_s) := ⟨rfl, rfl, rfl, by decide +kernel, rfl, by decide +kernel, by decide +kernel⟩
abbrev mixed_meetings_s : Stmt := top 33
abbrev mixed_meetings_N : List Str := ["tree", "shape", "houses"]
theorem sc_mixed_meetings : FnScope mixed_meetings_N ["tree"] (defScope mixed_meetings_s) := ⟨rfl, rfl, rfl, by decide +kernel, rfl, by decide +kernel, by decide +kernel⟩
abbrev plain_count_s : Stmt := top 34
abbrev plain_count_N : List Str := ["shape", "counts", "part", "many", "former", "count"]
theorem sc_plain_count : FnScope plain_count_N ["shape"] (defScope plain_count_s) := ⟨rfl, rfl, rfl, by decide +kernel, rfl, by decide +kernel, by decide +kernel⟩
abbrev how_many_s : Stmt := top 35
abbrev how_many_N : List Str := ["tree"]
theorem sc_how_many : FnScope how_many_N ["tree"] (defScope how_many_s) := ⟨rfl, rfl, rfl, by decide +kernel, rfl, by decide +kernel, by decide +kernel⟩
abbrev unions_s : Stmt := top 36
abbrev unions_N : List Str := ["choices", "need", "rest", "some", "more"]
theorem sc_unions : FnScope unions_N ["choices", "need"] (defScope unions_s) := ⟨rfl, rfl, rfl, by decide +kernel, rfl, by decide +kernel, by decide +kernel⟩
abbrev plain_meetings_s : Stmt := top 37
abbrev plain_meetings_N : List Str := ["shape", "part"]
theorem sc_plain_meetings : FnScope plain_meetings_N ["shape"] (defScope plain_meetings_s) := ⟨rfl, rfl, rfl, by decide +kernel, rfl, by decide +kernel, by decide +kernel⟩
abbrev meetings_within_s : Stmt := top 38
abbrev meetings_within_N : List Str := ["tree", "what", "limit", "houses"]
theorem sc_meetings_within : FnScope meetings_within_N ["tree", "what", "limit"] (defScope meetings_within_s) := ⟨rfl, rfl, rfl, by decide +kernel, rfl, by decide +kernel, by decide +kernel⟩
abbrev meetings_s : Stmt := top 39
abbrev meetings_N : List Str := ["tree"]
theorem sc_meetings : FnScope meetings_N ["tree"] (defScope meetings_s) := ⟨rfl, rfl, rfl, by decide +kernel, rfl, by decide +kernel, by decide +kernel⟩
abbrev Rule_init_s : Stmt := inClass (top 44) 0
abbrev Rule_init_N : List Str := ["self", "houses", "reading", "writing", "writers", "back", "tree", "house"]
theorem sc_Rule_init : FnScope Rule_init_N ["self", "houses", "reading", "writing", "writers", "back"] (defScope Rule_init_s) := ⟨rfl, rfl, rfl, by decide +kernel, rfl, by decide +kernel, by decide +kernel⟩
abbrev Rule_houses_s : Stmt := inClass (top 44) 1
abbrev Rule_houses_N : List Str := ["self"]
theorem sc_Rule_houses : FnScope Rule_houses_N ["self"] (defScope Rule_houses_s) := ⟨rfl, rfl, rfl, by decide +kernel, rfl, by decide +kernel, by decide +kernel⟩
abbrev Rule_reading_s : Stmt := inClass (top 44) 2
abbrev Rule_reading_N : List Str := ["self"]
theorem sc_Rule_reading : FnScope Rule_reading_N ["self"] (defScope Rule_reading_s) := ⟨rfl, rfl, rfl, by decide +kernel, rfl, by decide +kernel, by decide +kernel⟩
abbrev Rule_writing_s : Stmt := inClass (top 44) 3
abbrev Rule_writing_N : List Str := ["self"]
theorem sc_Rule_writing : FnScope Rule_writing_N ["self"] (defScope Rule_writing_s) := ⟨rfl, rfl, rfl, by decide +kernel, rfl, by decide +kernel, by decide +kernel⟩
abbrev Rule_writers_s : Stmt := inClass (top 44) 4
abbrev Rule_writers_N : List Str := ["self"]
theorem sc_Rule_writers : FnScope Rule_writers_N ["self"] (defScope Rule_writers_s) := ⟨rfl, rfl, rfl, by decide +kernel, rfl, by decide +kernel, by decide +kernel⟩
abbrev Rule_back_s : Stmt := inClass (top 44) 5
abbrev Rule_back_N : List Str := ["self"]
theorem sc_Rule_back : FnScope Rule_back_N ["self"] (defScope Rule_back_s) := ⟨rfl, rfl, rfl, by decide +kernel, rfl, by decide +kernel, by decide +kernel⟩
abbrev Rule_reading_meetings_s : Stmt := inClass (top 44) 6
abbrev Rule_reading_meetings_N : List Str := ["self", "houses"]
theorem sc_Rule_reading_meetings : FnScope Rule_reading_meetings_N ["self"] (defScope Rule_reading_meetings_s) := ⟨rfl, rfl, rfl, by decide +kernel, rfl, by decide +kernel, by decide +kernel⟩
abbrev Rule_writing_meetings_s : Stmt := inClass (top 44) 7
abbrev Rule_writing_meetings_N : List Str := ["self", "houses"]
theorem sc_Rule_writing_meetings : FnScope Rule_writing_meetings_N ["self"] (defScope Rule_writing_meetings_s) := ⟨rfl, rfl, rfl, by decide +kernel, rfl, by decide +kernel, by decide +kernel⟩
abbrev Rule_written_s : Stmt := inClass (top 44) 8
abbrev Rule_written_N : List Str := ["self", "found", "house", "houses"]
theorem sc_Rule_written : FnScope Rule_written_N ["self"] (defScope Rule_written_s) := ⟨rfl, rfl, rfl, by decide +kernel, rfl, by decide +kernel, by decide +kernel⟩
abbrev Rule_eq_s : Stmt := inClass (top 44) 9
abbrev Rule_eq_N : List Str := ["self", "other"]
theorem sc_Rule_eq : FnScope Rule_eq_N ["self", "other"] (defScope Rule_eq_s) := ⟨rfl, rfl, rfl, by decide +kernel, rfl, by decide +kernel, by decide +kernel⟩
abbrev Rule_repr_s : Stmt := inClass (top 44) 10
abbrev Rule_repr_N : List Str := ["self"]
theorem sc_Rule_repr : FnScope Rule_repr_N ["self"] (defScope Rule_repr_s) := ⟨rfl, rfl, rfl, by decide +kernel, rfl, by decide +kernel, by decide +kernel⟩
abbrev _law_pot_s : Stmt := top 46
abbrev _law_pot_N : List Str := ["_law_script", "_law_k", "_law_cell"]
theorem sc__law_pot : FnScope _law_pot_N ["_law_script", "_law_k"] (defScope _law_pot_s) := ⟨rfl, rfl, rfl, by decide +kernel, rfl, by decide +kernel, by decide +kernel⟩
abbrev _law_draw_s : Stmt := top 47
abbrev _law_draw_N : List Str := ["_law_pot_here", "_law_size", "_law_digit"]
theorem sc__law_draw : FnScope _law_draw_N ["_law_pot_here", "_law_size"] (defScope _law_draw_s) := ⟨rfl, rfl, rfl, by decide +kernel, rfl, by decide +kernel, by decide +kernel⟩
abbrev _law_pick_s : Stmt := top 48
abbrev _law_pick_N : List Str := ["_law_pot_here", "_law_some"]
theorem sc__law_pick : FnScope _law_pick_N ["_law_pot_here", "_law_some"] (defScope _law_pick_s) := ⟨rfl, rfl, rfl, by decide +kernel, rfl, by decide +kernel, by decide +kernel⟩
abbrev _law_shape_s : Stmt := top 49
abbrev _law_shape_N : List Str := ["_law_pot_here", "_law_many", "_law_deep", "_law_parts", "_law_part"]
theorem sc__law_shape : FnScope _law_shape_N ["_law_pot_here", "_law_many", "_law_deep"] (defScope _law_shape_s) := ⟨rfl, rfl, rfl, by decide +kernel, rfl, by decide +kernel, by decide +kernel⟩
abbrev _law_tree_s : Stmt := top 50
abbrev _law_tree_N : List Str := ["_law_pot_here", "_law_many", "_law_houses", "_law_menu"]
theorem sc__law_tree : FnScope _law_tree_N ["_law_pot_here", "_law_many"] (defScope _law_tree_s) := ⟨rfl, rfl, rfl, by decide +kernel, rfl, by decide +kernel, by decide +kernel⟩
abbrev _law_stands_s : Stmt := top 51
abbrev _law_stands_N : List Str := ["_law_shape_here", "_law_some", "_law_part"]
theorem sc__law_stands : FnScope _law_stands_N ["_law_shape_here", "_law_some"] (defScope _law_stands_s) := ⟨rfl, rfl, rfl, by decide +kernel, rfl, by decide +kernel, by decide +kernel⟩
abbrev _law_meetings_s : Stmt := top 52
abbrev _law_meetings_N : List Str := ["_law_shape_here", "_law_many", "_law_lots", "_law_found", "_law_house", "_law_lot", "_law_one"]
theorem sc__law_meetings : FnScope _law_meetings_N ["_law_shape_here", "_law_many"] (defScope _law_meetings_s) := ⟨rfl, rfl, rfl, by decide +kernel, rfl, by decide +kernel, by decide +kernel⟩
abbrev _law_is_within_s : Stmt := top 53
abbrev _law_is_within_N : List Str := ["_law_one", "_law_other", "_law_house"]
theorem sc__law_is_within : FnScope _law_is_within_N ["_law_one", "_law_other"] (defScope _law_is_within_s) := ⟨rfl, rfl, rfl, by decide +kernel, rfl, by decide +kernel, by decide +kernel⟩
abbrev _law_model_s : Stmt := top 55
abbrev _law_model_N : List Str := ["_law_pot_here", "_law_most", "_law_many", "_law_writers", "_law_back"]
theorem sc__law_model : FnScope _law_model_N ["_law_pot_here", "_law_most"] (defScope _law_model_s) := ⟨rfl, rfl, rfl, by decide +kernel, rfl, by decide +kernel, by decide +kernel⟩
abbrev _law_rule_of_s : Stmt := top 56
abbrev _law_rule_of_N : List Str := ["_law_many", "_law_reading", "_law_writing", "_law_writers", "_law_back", "_law_model_here"]
theorem sc__law_rule_of : FnScope _law_rule_of_N ["_law_many", "_law_reading", "_law_writing", "_law_writers", "_law_back"] (defScope _law_rule_of_s) := ⟨rfl, rfl, rfl, by decide +kernel, rfl, by decide +kernel, by decide +kernel⟩
abbrev _law_rule_s : Stmt := top 57
abbrev _law_rule_N : List Str := ["_law_model_here"]
theorem sc__law_rule : FnScope _law_rule_N ["_law_model_here"] (defScope _law_rule_s) := ⟨rfl, rfl, rfl, by decide +kernel, rfl, by decide +kernel, by decide +kernel⟩
abbrev _law_told_right_s : Stmt := top 58
abbrev _law_told_right_N : List Str := ["_law_model_here", "_law_rule_here", "_law_reading", "_law_writing", "_law_due", "_law_words", "_law_some", "_law_turn", "_law_told", "_law_thing", "_law_house", "_law_lot"]
theorem sc__law_told_right : FnScope _law_told_right_N ["_law_model_here", "_law_rule_here"] (defScope _law_told_right_s) := ⟨rfl, rfl, rfl, by decide +kernel, rfl, by decide +kernel, by decide +kernel⟩
abbrev _law_others_s : Stmt := top 59
abbrev _law_others_N : List Str := ["_law_pot_here", "_law_model_here", "_law_found", "_law_part", "_law_thing", "_law_other"]
theorem sc__law_others : FnScope _law_others_N ["_law_pot_here", "_law_model_here"] (defScope _law_others_s) := ⟨rfl, rfl, rfl, by decide +kernel, rfl, by decide +kernel, by decide +kernel⟩
abbrev _law_is_same_s : Stmt := top 60
abbrev _law_is_same_N : List Str := ["_law_model_here", "_law_other", "_law_part"]
theorem sc__law_is_same : FnScope _law_is_same_N ["_law_model_here", "_law_other"] (defScope _law_is_same_s) := ⟨rfl, rfl, rfl, by decide +kernel, rfl, by decide +kernel, by decide +kernel⟩
abbrev _law_right_s : Stmt := top 61
abbrev _law_right_N : List Str := ["_law_pot_here", "_law_model_here", "_law_reading", "_law_writing", "_law_rule_here", "_law_plain", "_law_other", "_law_same", "_law_odd", "_law_thing"]
theorem sc__law_right : FnScope _law_right_N ["_law_pot_here"] (defScope _law_right_s) := ⟨rfl, rfl, rfl, by decide +kernel, rfl, by decide +kernel, by decide +kernel⟩
abbrev law_s : Stmt := top 62
abbrev law_N : List Str := ["_law_script", "_law_k"]
theorem sc_law : FnScope law_N ["_law_script"] (defScope law_s) := ⟨rfl, rfl, rfl, by decide +kernel, rfl, by decide +kernel, by decide +kernel⟩
structure Txt (K : PySem.W.Frag) (mg : Str → Option Value) (a : Nat → Addr) (fd : Nat → FuncData) (C : Addr) (tk : Nat → Tok) : Prop where
  F_is_integer : Fun K "is_integer" "is_integer" is_integer_s (a 0) (fd 0)
  m_is_integer : mg "is_integer" = some (.ref (a 0))
  b_is_integer : Binds K (fd 0) ["value"] []
  F_is_count : Fun K "is_count" "is_count" is_count_s (a 1) (fd 1)
  m_is_count : mg "is_count" = some (.ref (a 1))
  b_is_count : Binds K (fd 1) ["value"] []
  F_is_list : Fun K "is_list" "is_list" is_list_s (a 2) (fd 2)
  m_is_list : mg "is_list" = some (.ref (a 2))
  b_is_list : Binds K (fd 2) ["value"] []
  F_is_number_below : Fun K "is_number_below" "is_number_below" is_number_below_s (a 3) (fd 3)
  m_is_number_below : mg "is_number_below" = some (.ref (a 3))
  b_is_number_below : Binds K (fd 3) ["value", "many"] []
  F_is_gate : Fun K "is_gate" "is_gate" is_gate_s (a 4) (fd 4)
  m_is_gate : mg "is_gate" = some (.ref (a 4))
  b_is_gate : Binds K (fd 4) ["value"] []
  F_is_tree : Fun K "is_tree" "is_tree" is_tree_s (a 5) (fd 5)
  m_is_tree : mg "is_tree" = some (.ref (a 5))
  b_is_tree : Binds K (fd 5) ["value"] []
  F_firm : Fun K "firm" "firm" firm_s (a 6) (fd 6)
  m_firm : mg "firm" = some (.ref (a 6))
  b_firm : Binds K (fd 6) ["shape"] []
  F_listed : Fun K "listed" "listed" listed_s (a 7) (fd 7)
  m_listed : mg "listed" = some (.ref (a 7))
  b_listed : Binds K (fd 7) ["shape"] []
  F_leaves : Fun K "leaves" "leaves" leaves_s (a 8) (fd 8)
  m_leaves : mg "leaves" = some (.ref (a 8))
  b_leaves : Binds K (fd 8) ["shape"] []
  F_depth : Fun K "depth" "depth" depth_s (a 9) (fd 9)
  m_depth : mg "depth" = some (.ref (a 9))
  b_depth : Binds K (fd 9) ["shape"] []
  F_stands_in : Fun K "stands_in" "stands_in" stands_in_s (a 10) (fd 10)
  m_stands_in : mg "stands_in" = some (.ref (a 10))
  b_stands_in : Binds K (fd 10) ["shape", "houses"] []
  F_Tree_init : Fun K "__init__" "Tree.__init__" Tree_init_s (a 11) (fd 11)
  b_Tree_init : Binds K (fd 11) ["self", "shape"] []
  F_Tree_shape : Fun K "shape" "Tree.shape" Tree_shape_s (a 12) (fd 12)
  b_Tree_shape : Binds K (fd 12) ["self"] []
  F_Tree_is_plain : Fun K "is_plain" "Tree.is_plain" Tree_is_plain_s (a 13) (fd 13)
  b_Tree_is_plain : Binds K (fd 13) ["self"] []
  F_Tree_members : Fun K "members" "Tree.members" Tree_members_s (a 14) (fd 14)
  b_Tree_members : Binds K (fd 14) ["self"] []
  F_Tree_eq : Fun K "__eq__" "Tree.__eq__" Tree_eq_s (a 15) (fd 15)
  b_Tree_eq : Binds K (fd 15) ["self", "other"] []
  F_Tree_repr : Fun K "__repr__" "Tree.__repr__" Tree_repr_s (a 16) (fd 16)
  b_Tree_repr : Binds K (fd 16) ["self"] []
  F_lists_of : Fun K "lists_of" "lists_of" lists_of_s (a 17) (fd 17)
  m_lists_of : mg "lists_of" = some (.ref (a 17))
  b_lists_of : Binds K (fd 17) ["houses"] []
  F_stands_barely : Fun K "stands_barely" "stands_barely" stands_barely_s (a 18) (fd 18)
  m_stands_barely : mg "stands_barely" = some (.ref (a 18))
  b_stands_barely : Binds K (fd 18) ["shape", "houses"] []
  F_mixed_meetings : Fun K "mixed_meetings" "mixed_meetings" mixed_meetings_s (a 19) (fd 19)
  m_mixed_meetings : mg "mixed_meetings" = some (.ref (a 19))
  b_mixed_meetings : Binds K (fd 19) ["tree"] []
  F_plain_count : Fun K "plain_count" "plain_count" plain_count_s (a 20) (fd 20)
  m_plain_count : mg "plain_count" = some (.ref (a 20))
  b_plain_count : Binds K (fd 20) ["shape"] []
  F_how_many : Fun K "how_many" "how_many" how_many_s (a 21) (fd 21)
  m_how_many : mg "how_many" = some (.ref (a 21))
  b_how_many : Binds K (fd 21) ["tree"] []
  F_unions : Fun K "unions" "unions" unions_s (a 22) (fd 22)
  m_unions : mg "unions" = some (.ref (a 22))
  b_unions : Binds K (fd 22) ["choices", "need"] []
  F_plain_meetings : Fun K "plain_meetings" "plain_meetings" plain_meetings_s (a 23) (fd 23)
  m_plain_meetings : mg "plain_meetings" = some (.ref (a 23))
  b_plain_meetings : Binds K (fd 23) ["shape"] []
  F_meetings_within : Fun K "meetings_within" "meetings_within" meetings_within_s (a 24) (fd 24)
  m_meetings_within : mg "meetings_within" = some (.ref (a 24))
  b_meetings_within : Binds K (fd 24) ["tree", "what", "limit"] []
  F_meetings : Fun K "meetings" "meetings" meetings_s (a 25) (fd 25)
  m_meetings : mg "meetings" = some (.ref (a 25))
  b_meetings : Binds K (fd 25) ["tree"] []
  F_Rule_init : FunD K "__init__" "Rule.__init__" (defArgs Rule_init_s) (defBody Rule_init_s) (defScope Rule_init_s) [.str "one", .str "always"] [] (a 26) (fd 26)
  b_Rule_init : Binds K (fd 26) ["self", "houses", "reading", "writing", "writers", "back"] []
  F_Rule_houses : Fun K "houses" "Rule.houses" Rule_houses_s (a 27) (fd 27)
  b_Rule_houses : Binds K (fd 27) ["self"] []
  F_Rule_reading : Fun K "reading" "Rule.reading" Rule_reading_s (a 28) (fd 28)
  b_Rule_reading : Binds K (fd 28) ["self"] []
  F_Rule_writing : Fun K "writing" "Rule.writing" Rule_writing_s (a 29) (fd 29)
  b_Rule_writing : Binds K (fd 29) ["self"] []
  F_Rule_writers : Fun K "writers" "Rule.writers" Rule_writers_s (a 30) (fd 30)
  b_Rule_writers : Binds K (fd 30) ["self"] []
  F_Rule_back : Fun K "back" "Rule.back" Rule_back_s (a 31) (fd 31)
  b_Rule_back : Binds K (fd 31) ["self"] []
  F_Rule_reading_meetings : Fun K "reading_meetings" "Rule.reading_meetings" Rule_reading_meetings_s (a 32) (fd 32)
  b_Rule_reading_meetings : Binds K (fd 32) ["self"] []
  F_Rule_writing_meetings : Fun K "writing_meetings" "Rule.writing_meetings" Rule_writing_meetings_s (a 33) (fd 33)
  b_Rule_writing_meetings : Binds K (fd 33) ["self"] []
  F_Rule_written : Fun K "written" "Rule.written" Rule_written_s (a 34) (fd 34)
  b_Rule_written : Binds K (fd 34) ["self"] []
  F_Rule_eq : Fun K "__eq__" "Rule.__eq__" Rule_eq_s (a 35) (fd 35)
  b_Rule_eq : Binds K (fd 35) ["self", "other"] []
  F_Rule_repr : Fun K "__repr__" "Rule.__repr__" Rule_repr_s (a 36) (fd 36)
  b_Rule_repr : Binds K (fd 36) ["self"] []
  F__law_pot : Fun K "_law_pot" "_law_pot" _law_pot_s (a 37) (fd 37)
  m__law_pot : mg "_law_pot" = some (.ref (a 37))
  b__law_pot : Binds K (fd 37) ["_law_script", "_law_k"] []
  F__law_draw : Fun K "_law_draw" "_law_draw" _law_draw_s (a 38) (fd 38)
  m__law_draw : mg "_law_draw" = some (.ref (a 38))
  b__law_draw : Binds K (fd 38) ["_law_pot_here", "_law_size"] []
  F__law_pick : Fun K "_law_pick" "_law_pick" _law_pick_s (a 39) (fd 39)
  m__law_pick : mg "_law_pick" = some (.ref (a 39))
  b__law_pick : Binds K (fd 39) ["_law_pot_here", "_law_some"] []
  F__law_shape : Fun K "_law_shape" "_law_shape" _law_shape_s (a 40) (fd 40)
  m__law_shape : mg "_law_shape" = some (.ref (a 40))
  b__law_shape : Binds K (fd 40) ["_law_pot_here", "_law_many", "_law_deep"] []
  F__law_tree : Fun K "_law_tree" "_law_tree" _law_tree_s (a 41) (fd 41)
  m__law_tree : mg "_law_tree" = some (.ref (a 41))
  b__law_tree : Binds K (fd 41) ["_law_pot_here", "_law_many"] []
  F__law_stands : Fun K "_law_stands" "_law_stands" _law_stands_s (a 42) (fd 42)
  m__law_stands : mg "_law_stands" = some (.ref (a 42))
  b__law_stands : Binds K (fd 42) ["_law_shape_here", "_law_some"] []
  F__law_meetings : Fun K "_law_meetings" "_law_meetings" _law_meetings_s (a 43) (fd 43)
  m__law_meetings : mg "_law_meetings" = some (.ref (a 43))
  b__law_meetings : Binds K (fd 43) ["_law_shape_here", "_law_many"] []
  F__law_is_within : Fun K "_law_is_within" "_law_is_within" _law_is_within_s (a 44) (fd 44)
  m__law_is_within : mg "_law_is_within" = some (.ref (a 44))
  b__law_is_within : Binds K (fd 44) ["_law_one", "_law_other"] []
  F__law_model : Fun K "_law_model" "_law_model" _law_model_s (a 45) (fd 45)
  m__law_model : mg "_law_model" = some (.ref (a 45))
  b__law_model : Binds K (fd 45) ["_law_pot_here", "_law_most"] []
  F__law_rule_of : Fun K "_law_rule_of" "_law_rule_of" _law_rule_of_s (a 46) (fd 46)
  m__law_rule_of : mg "_law_rule_of" = some (.ref (a 46))
  b__law_rule_of : Binds K (fd 46) ["_law_many", "_law_reading", "_law_writing", "_law_writers", "_law_back"] []
  F__law_rule : Fun K "_law_rule" "_law_rule" _law_rule_s (a 47) (fd 47)
  m__law_rule : mg "_law_rule" = some (.ref (a 47))
  b__law_rule : Binds K (fd 47) ["_law_model_here"] []
  F__law_told_right : Fun K "_law_told_right" "_law_told_right" _law_told_right_s (a 48) (fd 48)
  m__law_told_right : mg "_law_told_right" = some (.ref (a 48))
  b__law_told_right : Binds K (fd 48) ["_law_model_here", "_law_rule_here"] []
  F__law_others : Fun K "_law_others" "_law_others" _law_others_s (a 49) (fd 49)
  m__law_others : mg "_law_others" = some (.ref (a 49))
  b__law_others : Binds K (fd 49) ["_law_pot_here", "_law_model_here"] []
  F__law_is_same : Fun K "_law_is_same" "_law_is_same" _law_is_same_s (a 50) (fd 50)
  m__law_is_same : mg "_law_is_same" = some (.ref (a 50))
  b__law_is_same : Binds K (fd 50) ["_law_model_here", "_law_other"] []
  F__law_right : Fun K "_law_right" "_law_right" _law_right_s (a 51) (fd 51)
  m__law_right : mg "_law_right" = some (.ref (a 51))
  b__law_right : Binds K (fd 51) ["_law_pot_here"] []
  F_law : Fun K "law" "law" law_s (a 52) (fd 52)
  m_law : mg "law" = some (.ref (a 52))
  b_law : Binds K (fd 52) ["_law_script"] []
  m_HOUSES : mg "HOUSES" = some (.int 24 (tk 0))
  m_MOST_LEAVES : mg "MOST_LEAVES" = some (.int 24 (tk 1))
  m_MOST_DEPTH : mg "MOST_DEPTH" = some (.int 5 (tk 2))
  m_MOST_MIXED : mg "MOST_MIXED" = some (.int 8 (tk 3))
  m_MOST_MEETINGS : mg "MOST_MEETINGS" = some (.int 200 (tk 4))
  m_MOST_HOUSES : mg "MOST_HOUSES" = some (.int 5 (tk 5))
  z_isinstance : mg "isinstance" = none
  z_int : mg "int" = none
  z_bool : mg "bool" = none
  z_list : mg "list" = none
  z_tuple : mg "tuple" = none
  z_len : mg "len" = none
  z_str : mg "str" = none
  z_max : mg "max" = none
  z_range : mg "range" = none
  z_property : mg "property" = none
  z_any : mg "any" = none
  z_sorted : mg "sorted" = none
  z_zip : mg "zip" = none
  z_all : mg "all" = none
  z_abs : mg "abs" = none
  z_divmod : mg "divmod" = none
  z_repr : mg "repr" = none
  z_dict : mg "dict" = none
  z_min : mg "min" = none
end K31

set_option maxRecDepth 100000
set_option maxHeartbeats 4000000
namespace K31
open PySem PySem.Spec PyProof.Rows L2 Kh
section
variable {P : Program} {w : World} {K : PySem.W.Frag} {mg : Str → Option Value} {base : Heap} {a : Nat → Addr} {fd : Nat → FuncData} {C : Addr} {tk : Nat → Tok}
abbrev spIsInteger (K : PySem.W.Frag) : Sp := spP K d1 (fun _ => True) fun d => .bool (isIntD d)
theorem ok_is_integer (T : Txt K mg a fd C tk) : FnOk P w K mg base CX0 1 (a 0) (fd 0) ["value"] (spIsInteger K) := by
  refine T.F_is_integer.ok sc_is_integer (fun vs H Q E h => spP_len (fun _ => rfl) h) (fun cdv A outer s H vs Q E hr h => ?_)
  obtain ⟨S, d, kn, hd, -, q⟩ := h
  obtain - | ⟨hd, ⟨⟩⟩ := hd
  rename_i v
  refine ⟨_, (pss_one (ps_ret (pe_and (pe_callB call_isi (by rfl) T.z_isinstance (by decide +kernel) (pa_cons (pv 0) (pa_cons (pe_bltn (v := .ty "int") (by rfl) T.z_int (by decide +kernel) rfl) pa_nil))) (pe_one (pe_not (pe_callB call_isi (by rfl) T.z_isinstance (by decide +kernel) (pa_cons (pv 0) (pa_cons (pe_bltn (v := .ty "bool") (by rfl) T.z_bool (by decide +kernel) rfl) pa_nil)))))))), ?_⟩
  have fin : ∀ b, isIntD d = b → Q (.bl b) H := fun b e => q _ _ (Same.refl H) (by subst e; exact .bl _)
  refine s_ret (t_andV (t_cb2 (t_var rfl (t_c (isi_d off_sub hd (kit_int d) (bl_if (fun c => ?_) (fun c => ?_)))))))
  · refine t_notV (t_cb2 (t_var rfl (t_c (isi_d off_sub hd (kit_bool d) ⟨_, rfl, fin _ ?_⟩))))
    cases d <;> first | rfl | cases c
  · exact fin _ (by cases d <;> first | rfl | cases c)
abbrev spIsCount (K : PySem.W.Frag) : Sp := spP K d1 (fun _ => True) fun d => .bool (isCountD d)
theorem ok_is_count (T : Txt K mg a fd C tk) : FnOk P w K mg base CX0 2 (a 1) (fd 1) ["value"] (spIsCount K) := by
  have G_is_integer : FnOk P w K mg base CX0 1 (a 0) (fd 0) ["value"] (spIsInteger K) := ok_is_integer T
  refine T.F_is_count.ok sc_is_count (fun vs H Q E h => spP_len (fun _ => rfl) h) (fun cdv A outer s H vs Q E hr h => ?_)
  obtain ⟨S, d, kn, hd, -, q⟩ := h
  obtain - | ⟨hd, ⟨⟩⟩ := hd
  rename_i v
  refine ⟨_, (pss_one (ps_ret (pe_and (pe_call G_is_integer (hr.mono (by omega)) (by rfl) T.m_is_integer T.F_is_integer.kp T.b_is_integer .nil pass0 (pa_cons (pv 0) pa_nil)) (pe_one (pe_cmpR op_ge (pv 0) pe_int (nomark _)))))), ?_⟩
  have fin : ∀ b H', isCountD d = b → Same H H' → Q (.bl b) H' := fun b H' e sm => q _ _ sm (by subst e; exact .bl _)
  refine s_ret (t_andV (t_call1 (t_var rfl (spP_bl off_sub d (.cons hd .nil) trivial rfl fun H' sm => bl_if (fun c => ?_) (fun c => fin _ _ (by cases d <;> first | rfl | cases c) sm)))))
  cases d with
  | int i =>
    cases hd
    exact t_op (t_var rfl (t_c ⟨_, _, rfl, rfl, fin _ _ rfl sm⟩))
  | _ => cases c
abbrev spIsList (K : PySem.W.Frag) : Sp := spP K d1 (fun _ => True) fun d => .bool (isListD d)
theorem ok_is_list (T : Txt K mg a fd C tk) : FnOk P w K mg base CX0 1 (a 2) (fd 2) ["value"] (spIsList K) := by
  refine T.F_is_list.ok sc_is_list (fun vs H Q E h => spP_len (fun _ => rfl) h) (fun cdv A outer s H vs Q E hr h => ?_)
  obtain ⟨S, d, kn, hd, -, q⟩ := h
  obtain - | ⟨hd, ⟨⟩⟩ := hd
  rename_i v
  refine ⟨_, (pss_one (ps_ret (pe_callB call_isiT (by rfl) T.z_isinstance (by decide +kernel) (pa_cons (pv 0) (pa_cons (pe_tup (pa_cons (pe_bltn (v := .ty "list") (by rfl) T.z_list (by decide +kernel) rfl) (pa_cons (pe_bltn (v := .ty "tuple") (by rfl) T.z_tuple (by decide +kernel) rfl) pa_nil))) pa_nil))))), ?_⟩
  refine ⟨v, rfl, by decide, fun p hp => ?_⟩
  exact isi2_d (off_sub.trans (same_new hp)) hd upd_same (kit_list d) (kit_tup d) (q _ _ (same_new hp) (.bl _))
abbrev spBelow (K : PySem.W.Frag) : Sp := spP K (fun x : PyData × Int => [x.1, .int x.2]) (fun _ => True) fun x => .bool (belowD x.2 x.1)
theorem ok_is_number_below (T : Txt K mg a fd C tk) : FnOk P w K mg base CX0 3 (a 3) (fd 3) ["value", "many"] (spBelow K) := by
  have G_is_count : FnOk P w K mg base CX0 2 (a 1) (fd 1) ["value"] (spIsCount K) := ok_is_count T
  refine T.F_is_number_below.ok sc_is_number_below (fun vs H Q E h => spP_len (fun _ => rfl) h) (fun cdv A outer s H vs Q E hr h => ?_)
  obtain ⟨S, ⟨d, m⟩, kn, hd, -, q⟩ := h
  obtain - | ⟨hd, - | ⟨⟨⟩, ⟨⟩⟩⟩ := hd
  rename_i v
  refine ⟨_, (pss_one (ps_ret (pe_and (pe_call G_is_count (hr.mono (by omega)) (by rfl) T.m_is_count T.F_is_count.kp T.b_is_count .nil pass0 (pa_cons (pv 0) pa_nil)) (pe_one (pe_cmpR op_lt (pv 0) (pv 1) (nomark _)))))), ?_⟩
  have fin : ∀ b H', belowD m d = b → Same H H' → Q (.bl b) H' := fun b H' e sm => q _ _ sm (by subst e; exact .bl _)
  refine s_ret (t_andV (t_call1 (t_var rfl (spP_bl off_sub d (.cons hd .nil) trivial rfl fun H' sm => bl_if (fun c => ?_) (fun c => fin _ _ ?_ sm)))))
  · cases d with
    | int i =>
      cases hd
      refine t_op (t_var rfl (t_var rfl ⟨_, _, rfl, rfl, fin _ _ ?_ sm⟩))
      show (decide (0 ≤ i) && decide (i < m)) = decide (i < m)
      rw [show decide (0 ≤ i) = true from c]; rfl
    | _ => cases c
  · cases d <;> first | rfl | skip
    rename_i i
    show (decide (0 ≤ i) && decide (i < m)) = false
    rw [show decide (0 ≤ i) = false from c]; rfl
end
end K31

set_option maxRecDepth 100000
set_option maxHeartbeats 4000000
namespace K31
open PySem PySem.Spec PyProof.Rows L2 Kh
section
variable {P : Program} {w : World} {K : PySem.W.Frag} {mg : Str → Option Value} {base : Heap} {a : Nat → Addr} {fd : Nat → FuncData} {C : Addr} {tk : Nat → Tok}
/-- a tree as it is handed in: right, with few leaves -/
def Sm (t : T) : Prop := Wf t ∧ (lv t).length ≤ 1000
theorem lv_pos : ∀ t, Wf t → 1 ≤ (lv t).length := T.ind (fun n _ => by rw [lv_leaf]; exact Nat.le_refl _) fun b k ps ih h => by
  obtain ⟨h1, h2, h3⟩ := (wf_gate b k ps).mp h
  cases ps with
  | nil => simp at h2; omega
  | cons p r =>
    rw [lv_gate, List.flatMap_cons, List.length_append]
    have := ih p List.mem_cons_self (h3 p List.mem_cons_self)
    omega
theorem lv_part {ps : List T} {p : T} (h : p ∈ ps) : (lv p).length ≤ (ps.flatMap lv).length := by
  induction ps with
  | nil => cases h
  | cons q r ih =>
    rw [List.flatMap_cons, List.length_append]
    rcases List.mem_cons.mp h with rfl | h
    · omega
    · have := ih h; omega
theorem len_lv : ∀ ps : List T, (∀ p ∈ ps, Wf p) → ps.length ≤ (ps.flatMap lv).length
  | [], _ => Nat.zero_le _
  | p :: r, h => by
    rw [List.flatMap_cons, List.length_append, List.length_cons]
    have h1 := lv_pos p (h p List.mem_cons_self)
    have h2 := len_lv r fun q hq => h q (List.mem_cons_of_mem _ hq)
    omega
theorem Sm.parts {b : Bool} {k : Nat} {ps : List T} (h : Sm (.gate b k ps)) : ∀ p ∈ ps, Sm p := fun p hp => by
  obtain ⟨h1, h2⟩ := h
  refine ⟨((wf_gate b k ps).mp h1).2.2 p hp, ?_⟩
  rw [lv_gate] at h2
  exact Nat.le_trans (lv_part hp) h2
theorem Sm.len {b : Bool} {k : Nat} {ps : List T} (h : Sm (.gate b k ps)) : ps.length ≤ 1000 := by
  obtain ⟨h1, h2⟩ := h
  rw [lv_gate] at h2
  exact Nat.le_trans (len_lv ps ((wf_gate b k ps).mp h1).2.2) h2
def t1 (t : T) : List PyData := [tD t]
def isGate : T → Bool | .leaf _ => false | .gate _ _ _ => true
abbrev spIsGate (K : PySem.W.Frag) : Sp := spP K t1 Wf fun t => .bool (isGate t)
theorem ok_is_gate (T : Txt K mg a fd C tk) : FnOk P w K mg base CX0 4 (a 4) (fd 4) ["value"] (spIsGate K) := by
  have G_is_list : FnOk P w K mg base CX0 1 (a 2) (fd 2) ["value"] (spIsList K) := ok_is_list T
  have G_is_count : FnOk P w K mg base CX0 2 (a 1) (fd 1) ["value"] (spIsCount K) := ok_is_count T
  refine T.F_is_gate.ok sc_is_gate (fun vs H Q E h => spP_len (fun _ => rfl) h) (fun cdv A outer s H vs Q E hr h => ?_)
  obtain ⟨S, t, kn, hd, wf, q⟩ := h
  obtain - | ⟨hd, ⟨⟩⟩ := hd
  rename_i v
  refine ⟨_, (pss_cons (ps_if (PW.pt (pw_or (pt_not (pt_val (pe_callB (k_isi (K := K)) (by rfl) T.z_isinstance (by decide +kernel) (pa_cons (pv 0) (pa_cons (pe_bltn (v := .ty "tuple") (by rfl) T.z_tuple (by decide +kernel) rfl) pa_nil))))) (pw_or1 (pt_cmpR op_ne (pe_callB (k_len (K := K)) (by rfl) T.z_len (by decide +kernel) (pa_cons (pv 0) pa_nil)) pe_int (nomark _)))))
        (pss_one (ps_ret pe_bl)) pss_nil)
      (pss_cons (ps_if (PW.pt (pw_or (pt_not (pt_val (pe_callB (k_isi (K := K)) (by rfl) T.z_isinstance (by decide +kernel) (pa_cons (pe_ix (k_ix (K := K)) (pv 0) pe_int (fun _ _ => rfl)) (pa_cons (pe_bltn (v := .ty "str") (by rfl) T.z_str (by decide +kernel) rfl) pa_nil))))) (pw_or1 (pt_cmpR op_ne (pe_ix (k_ix (K := K)) (pv 0) pe_int (fun _ _ => rfl)) pe_str (nomark _)))))
        (pss_one (ps_ret pe_bl)) pss_nil)
      (pss_one (ps_ret (pe_and (pe_call G_is_list (hr.mono (by omega)) (by rfl) T.m_is_list T.F_is_list.kp T.b_is_list .nil pass0 (pa_cons (pe_ix (k_ix (K := K)) (pv 0) pe_int (fun _ _ => rfl)) pa_nil)) (pe_and (pe_call G_is_count (hr.mono (by omega)) (by rfl) T.m_is_count T.F_is_count.kp T.b_is_count .nil pass0 (pa_cons (pe_ix (k_ix (K := K)) (pv 0) pe_int (fun _ _ => rfl)) pa_nil)) (pe_one (pe_chain op_le op_le pe_int (pe_ix (k_ix (K := K)) (pv 0) pe_int (fun _ _ => rfl)) (pe_callB (k_len (K := K)) (by rfl) T.z_len (by decide +kernel) (pa_cons (pe_ix (k_ix (K := K)) (pv 0) pe_int (fun _ _ => rfl)) pa_nil)))))))))), ?_⟩
  cases t with
  | leaf n =>
    rw [tD_leaf] at hd
    refine s_seq (s_if (b_or (b_not (b_val (t_cb2 (t_var rfl (t_c (isi_d off_sub hd (kit_tup _) ⟨_, rfl, ?_⟩))))))))
    exact ifT rfl (ifT rfl (s_ret (t_c (q _ _ (Same.refl H) (.bl _)))))
  | gate b k ps =>
    rw [tD_gate] at hd
    obtain ⟨k1, k2, _⟩ := (wf_gate b k ps).mp wf
    refine s_seq (s_if (b_or (b_not (b_val (t_cb2 (t_var rfl (t_c (isi_d off_sub hd (kit_tup _) ⟨_, rfl, ifF rfl ?_⟩))))))))
    refine b_test (t_op (t_cb1 (t_var rfl (len_d off_sub hd rfl (t_c ⟨rfl, _, rfl, ifF (by rfl) (s_next ?_)⟩)))))
    refine s_seq (s_if (b_or (b_not (b_val (t_cb2 (t_op (t_var rfl (t_c (ix_d (i := 0) off_sub hd rfl rfl fun u du => t_c (isi_d off_sub du (kit_str _) ⟨_, rfl, ifF rfl ?_⟩))))))))))
    refine b_test (t_op (t_op (t_var rfl (t_c (ix_d (i := 0) off_sub hd rfl rfl fun u du => ?_)))))
    cases du
    refine t_c ⟨rfl, _, rfl, ifF (by rfl) (s_next ?_)⟩
    refine s_ret (t_andV (t_call1 (t_op (t_var rfl (t_c (ix_d (i := 2) off_sub hd rfl rfl fun u du => spP_bl off_sub (sq b (ps.map tD)) (.cons du .nil) trivial rfl fun H1 s1 => ?_))))))
    refine bl_if (fun _ => ?_) (fun c => by cases b <;> cases c)
    refine t_andV (t_call1 (t_op (t_var rfl (t_c (ix_d (i := 1) (off_sub.trans s1) hd rfl rfl fun u du => spP_bl (off_sub.trans s1) (.int (k : Nat)) (.cons du .nil) trivial rfl fun H2 s2 => ?_)))))
    have s12 : Same H H2 := s1.trans s2
    refine bl_if (fun _ => ?_) (fun c => absurd c (by simp [isCountD]))
    refine t_c (t_op (t_var rfl (t_c (ix_d (i := 1) (off_sub.trans s12) hd rfl rfl fun u du => ?_))))
    cases du
    refine ⟨_, _, rfl, rfl, bl_if (fun _ => ?_) (fun c => absurd (show (1 : Int) ≤ (k : Nat) by omega) (of_decide_eq_false c))⟩
    refine t_cb1 (t_op (t_var rfl (t_c (ix_d (i := 2) (off_sub.trans s12) hd rfl rfl fun u du => len_d (off_sub.trans s12) du (items_sq b _) ⟨_, _, rfl, rfl, ?_⟩))))
    exact q _ H2 s12 (dp_bl (decide_eq_true (by simp; omega)))
end
end K31

set_option maxRecDepth 100000
set_option maxHeartbeats 4000000
namespace K31
open PySem PySem.Spec PyProof.Rows L2 Kh
section
variable {P : Program} {w : World} {K : PySem.W.Frag} {mg : Str → Option Value} {base : Heap} {a : Nat → Addr} {fd : Nat → FuncData} {C : Addr} {tk : Nat → Tok}
theorem at_ps {α : Type} {ps : List Kh.T} {g : Kh.T → α} {j : Nat} {d : α} (h : (ps.map g)[j]? = some d) : ∃ p, ps[j]? = some p ∧ p ∈ ps ∧ d = g p := by
  rw [List.getElem?_map] at h
  cases e : ps[j]? with
  | none => rw [e] at h; cases h
  | some p => rw [e] at h; exact ⟨p, rfl, List.mem_of_getElem? e, (Option.some.inj h).symm⟩
/-- the j-th part's own -/
def nth (ps : List Kh.T) (g : Kh.T → PyData) (j : Nat) : PyData := match ps[j]? with | some p => g p | none => .none
theorem nth_eq {ps : List Kh.T} {g : Kh.T → PyData} {j : Nat} {p : Kh.T} (h : ps[j]? = some p) : nth ps g j = g p := by unfold nth; rw [h]
theorem nth_map (ps : List Kh.T) (g h : Kh.T → PyData) : (List.range (ps.map h).length).map (nth ps g) = ps.map g := by
  rw [List.length_map]
  exact range_map fun i x e => nth_eq e
theorem dep_lt {d : Nat} {b : Bool} {k : Nat} {ps : List Kh.T} (h : dep (.gate b k ps) < d + 1) : ∀ p ∈ ps, dep p < d := fun p hp => by
  cases d with
  | zero => exact absurd (Nat.le_of_lt_succ h) (dep_gate0 b k ps)
  | succ d => exact Nat.lt_succ_of_le ((dep_gate b k ps).mp (Nat.le_of_lt_succ h) p hp)
theorem fn_none {k : Nat} {f : Addr} {fd : FuncData} {ps : List Str} {sp : Sp} (h : ∀ vs H Q E, sp vs H Q E → False) : FnOk P w K mg base CX0 k f fd ps sp :=
  ⟨fun vs H Q E q => (h vs H Q E q).elim, fun _ _ _ H _ _ vs Q E _ _ _ _ q => (h vs H Q E q).elim⟩
abbrev preT (d : Nat) (t : Kh.T) : Prop := Sm t ∧ dep t < d
theorem pre0 {f : Kh.T → PyData} {vs : List V} {H : Hp} {Q : VK} {E : XK} (h : spP K t1 (preT 0) f vs H Q E) : False := by
  obtain ⟨_, t, _, _, ⟨_, h⟩, _⟩ := h
  exact Nat.not_lt_zero _ h
abbrev spFirm (K : PySem.W.Frag) (d : Nat) : Sp := spP K t1 (preT d) fun t => tD (flg true t)
theorem ok_firm (T : Txt K mg a fd C tk) : ∀ d, FnOk P w K mg base CX0 (d + 1) (a 6) (fd 6) ["shape"] (spFirm K d)
  | 0 => fn_none fun _ _ _ _ => pre0
  | d + 1 => by
    have G_firm := ok_firm T d
    have G_is_integer : FnOk P w K mg base CX0 1 (a 0) (fd 0) ["value"] (spIsInteger K) := ok_is_integer T
    refine T.F_firm.ok sc_firm (fun vs H Q E h => spP_len (fun _ => rfl) h) (fun cdv A outer s H vs Q E hr h => ?_)
    obtain ⟨S, t, kn, hd, ⟨sm, dp⟩, q⟩ := h
    replace q : ∀ v H', Same H H' → Dp K (off S H') v (tD (flg true t)) → Q v H' := q
    obtain - | ⟨hd, ⟨⟩⟩ := hd
    rename_i v
    refine ⟨_, (pss_cons (ps_if (pt_val (pe_call G_is_integer (hr.mono (by omega)) (by rfl) T.m_is_integer T.F_is_integer.kp T.b_is_integer .nil pass0 (pa_cons (pv 0) pa_nil)))
        (pss_one (ps_ret (pv 0))) pss_nil)
      (pss_one (ps_ret (pe_tup (pa_cons pe_str (pa_cons (pe_ix (k_ix (K := K)) (pv 0) pe_int (fun _ _ => rfl)) (pa_cons (pe_callTy (k_tup (K := K)) (by rfl) T.z_tuple (by decide +kernel) (pa_cons (pe_lc (own := [("part", 1)]) (g := gName 1) (tt := tYes) rfl sc_firm.nd (k_pi (K := K) (pe_ix (k_ix (K := K)) (pv 0) pe_int (fun _ _ => rfl))) (blkOk_by (own := [("part", 1)]) (N := firm_N) (sc := defScope firm_s) (by decide +kernel)) (fun _ _ _ _ _ => (pg_name (i := 1) sc_firm.nd rfl (Or.inl rfl))) (fun _ _ _ _ _ => pts_nil) (fun _ _ _ _ _ => (pe_call G_firm (hr.mono (by omega)) (by rfl) T.m_firm T.F_firm.kp T.b_firm .nil pass0 (pa_cons (pv 1) pa_nil)))) pa_nil)) pa_nil))))))), ?_⟩
    cases t with
    | leaf n =>
      rw [flg_leaf] at q
      have hd' := hd
      rw [tD_leaf] at hd
      refine s_seq (s_if (b_val (t_call1 (t_var rfl (spP_bl off_sub _ (.cons hd .nil) trivial rfl fun H1 s1 => ⟨_, rfl, ifT rfl ?_⟩)))))
      exact s_ret (t_var rfl (q _ H1 s1 (dp_same (off_same s1) _ _ hd')))
    | gate b k ps =>
      rw [flg_gate, tD_gate] at q
      rw [tD_gate] at hd
      refine s_seq (s_if (b_val (t_call1 (t_var rfl (spP_bl off_sub _ (.cons hd .nil) trivial rfl fun H1 s1 => ⟨_, rfl, ifF rfl (s_next ?_)⟩)))))
      have kn1 := kn.same s1
      have hd1 := dp_same (off_same s1) _ _ hd
      refine s_ret (t_tup (a_cons (t_c (a_cons (t_op (t_var rfl (t_c (ix_d (i := 1) off_sub hd1 rfl rfl fun u du => ?_))))))))
      cases du
      refine a_cons (t_cb1 (lc_seq (b := b) (ds := ps.map tD) (nth ps fun p => tD (flg true p)) kn1 (fun Q q => t_op (t_var rfl (t_c (ix_d (i := 2) off_sub hd1 rfl rfl fun u du => q u _ (Same.refl _) du)))) (by rw [List.length_map]; exact Nat.le_trans sm.len (by decide)) (fun _ => rfl) (fun j x d H2 S' dj s2 kn2 dx hS hoff Q q => ?_) fun D H2 ys hD s2 hd2 h2 => ?_))
      · obtain ⟨p, pj, pm, rfl⟩ := at_ps dj
        refine t_call1 (t_var rfl ⟨S', p, kn2, .cons dx .nil, ⟨sm.parts p pm, dep_lt dp p pm⟩, fun v H' s' h => q v H' s' ?_⟩)
        rw [nth_eq pj]; exact h
      · rw [nth_map] at h2
        refine tup_d (kn1.same s2) h2 rfl fun u H3 s3 h3 => ⟨le3, fun p hp => ?_⟩
        refine q _ _ (((s1.trans s2).trans s3).trans (same_new hp)) ?_
        rw [List.map_map]
        exact dp_newT ((kn1.same s2).same s3) hp (.cons (.str _) (.cons (.int _) (.cons h3 .nil)))
end
end K31

set_option maxRecDepth 100000
set_option maxHeartbeats 4000000
namespace K31
open PySem PySem.Spec PyProof.Rows L2 Kh
section
variable {P : Program} {w : World} {K : PySem.W.Frag} {mg : Str → Option Value} {base : Heap} {a : Nat → Addr} {fd : Nat → FuncData} {C : Addr} {tk : Nat → Tok}
theorem len_ok {ps : List Kh.T} {g : Kh.T → PyData} {b : Bool} {k : Nat} (sm : Sm (.gate b k ps)) : (ps.map g).length ≤ 100000 := by rw [List.length_map]; exact Nat.le_trans sm.len (by decide)
abbrev spListed (K : PySem.W.Frag) (d : Nat) : Sp := spP K t1 (preT d) fun t => tD (flg false t)
theorem ok_listed (T : Txt K mg a fd C tk) : ∀ d, FnOk P w K mg base CX0 (d + 1) (a 7) (fd 7) ["shape"] (spListed K d)
  | 0 => fn_none fun _ _ _ _ => pre0
  | d + 1 => by
    have G_listed := ok_listed T d
    have G_is_integer : FnOk P w K mg base CX0 1 (a 0) (fd 0) ["value"] (spIsInteger K) := ok_is_integer T
    refine T.F_listed.ok sc_listed (fun vs H Q E h => spP_len (fun _ => rfl) h) (fun cdv A outer s H vs Q E hr h => ?_)
    obtain ⟨S, t, kn, hd, ⟨sm, dp⟩, q⟩ := h
    replace q : ∀ v H', Same H H' → Dp K (off S H') v (tD (flg false t)) → Q v H' := q
    obtain - | ⟨hd, ⟨⟩⟩ := hd
    rename_i v
    refine ⟨_, (pss_cons (ps_if (pt_val (pe_call G_is_integer (hr.mono (by omega)) (by rfl) T.m_is_integer T.F_is_integer.kp T.b_is_integer .nil pass0 (pa_cons (pv 0) pa_nil)))
        (pss_one (ps_ret (pv 0))) pss_nil)
      (pss_one (ps_ret (pe_tup (pa_cons pe_str (pa_cons (pe_ix (k_ix (K := K)) (pv 0) pe_int (fun _ _ => rfl)) (pa_cons (pe_lc (own := [("part", 1)]) (g := gName 1) (tt := tYes) rfl sc_listed.nd (k_pi (K := K) (pe_ix (k_ix (K := K)) (pv 0) pe_int (fun _ _ => rfl))) (blkOk_by (own := [("part", 1)]) (N := listed_N) (sc := defScope listed_s) (by decide +kernel)) (fun _ _ _ _ _ => (pg_name (i := 1) sc_listed.nd rfl (Or.inl rfl))) (fun _ _ _ _ _ => pts_nil) (fun _ _ _ _ _ => (pe_call G_listed (hr.mono (by omega)) (by rfl) T.m_listed T.F_listed.kp T.b_listed .nil pass0 (pa_cons (pv 1) pa_nil)))) pa_nil))))))), ?_⟩
    cases t with
    | leaf n =>
      rw [flg_leaf] at q
      have hd' := hd
      rw [tD_leaf] at hd
      refine s_seq (s_if (b_val (t_call1 (t_var rfl (spP_bl off_sub _ (.cons hd .nil) trivial rfl fun H1 s1 => ⟨_, rfl, ifT rfl ?_⟩)))))
      exact s_ret (t_var rfl (q _ H1 s1 (dp_same (off_same s1) _ _ hd')))
    | gate b k ps =>
      rw [flg_gate, tD_gate] at q
      rw [tD_gate] at hd
      refine s_seq (s_if (b_val (t_call1 (t_var rfl (spP_bl off_sub _ (.cons hd .nil) trivial rfl fun H1 s1 => ⟨_, rfl, ifF rfl (s_next ?_)⟩)))))
      have kn1 := kn.same s1
      have hd1 := dp_same (off_same s1) _ _ hd
      refine s_ret (t_tup (a_cons (t_c (a_cons (t_op (t_var rfl (t_c (ix_d (i := 1) off_sub hd1 rfl rfl fun u du => ?_))))))))
      cases du
      refine a_cons (lc_seq (b := b) (ds := ps.map tD) (nth ps fun p => tD (flg false p)) kn1 (fun Q q => t_op (t_var rfl (t_c (ix_d (i := 2) off_sub hd1 rfl rfl fun u du => q u _ (Same.refl _) du)))) (len_ok sm) (fun _ => rfl) (fun j x d H2 S' dj s2 kn2 dx hS hoff Q q => ?_) fun D H2 ys hD s2 hd2 h2 => ?_)
      · obtain ⟨p, pj, pm, rfl⟩ := at_ps dj
        refine t_call1 (t_var rfl ⟨S', p, kn2, .cons dx .nil, ⟨sm.parts p pm, dep_lt dp p pm⟩, fun v H' s' h => q v H' s' ?_⟩)
        rw [nth_eq pj]; exact h
      · rw [nth_map] at h2
        refine ⟨le3, fun p hp => q _ _ ((s1.trans s2).trans (same_new hp)) ?_⟩
        rw [List.map_map]
        exact dp_newT (kn1.same s2) hp (.cons (.str _) (.cons (.int _) (.cons h2 .nil)))
end
end K31

set_option maxRecDepth 100000
set_option maxHeartbeats 4000000
namespace K31
open PySem PySem.Spec PyProof.Rows L2 Kh
section
variable {P : Program} {w : World} {K : PySem.W.Frag} {mg : Str → Option Value} {base : Heap} {a : Nat → Addr} {fd : Nat → FuncData} {C : Addr} {tk : Nat → Tok}
/-- whole numbers told -/
def nD (n : Nat) : PyData := .int (n : Nat)
def nL (ns : List Nat) : PyData := .list (ns.map nD)
/-- the j-th part's houses -/
def nthL (ps : List Kh.T) (j : Nat) : List PyData := match ps[j]? with | some p => (lv p).map nD | none => []
theorem nthL_eq {ps : List Kh.T} {j : Nat} {p : Kh.T} (h : ps[j]? = some p) : nthL ps j = (lv p).map nD := by unfold nthL; rw [h]
theorem nthL_take (ps : List Kh.T) : ∀ n, n ≤ ps.length → (List.range n).flatMap (nthL ps) = ((ps.take n).flatMap lv).map nD
  | 0, _ => by simp
  | n + 1, h => by
    have e : ps[n]? = some ps[n] := List.getElem?_eq_getElem (by omega)
    rw [flat_take, nthL_take ps n (by omega), List.take_add_one, e, nthL_eq e, List.flatMap_append, List.map_append]
    simp
theorem flat_take_le (ps : List Kh.T) (n : Nat) : ((ps.take n).flatMap lv).length ≤ (ps.flatMap lv).length := by
  have e : ps.flatMap lv = (ps.take n).flatMap lv ++ (ps.drop n).flatMap lv := by rw [← List.flatMap_append, List.take_append_drop]
  rw [e, List.length_append]; omega
abbrev spLeaves (K : PySem.W.Frag) (d : Nat) : Sp := spP K t1 (preT d) fun t => nL (lv t)
theorem ok_leaves (T : Txt K mg a fd C tk) : ∀ d, FnOk P w K mg base CX0 (d + 1) (a 8) (fd 8) ["shape"] (spLeaves K d)
  | 0 => fn_none fun _ _ _ _ => pre0
  | d + 1 => by
    have G_leaves := ok_leaves T d
    have G_is_integer : FnOk P w K mg base CX0 1 (a 0) (fd 0) ["value"] (spIsInteger K) := ok_is_integer T
    refine T.F_leaves.ok sc_leaves (fun vs H Q E h => spP_len (fun _ => rfl) h) (fun cdv A outer s H vs Q E hr h => ?_)
    obtain ⟨S, t, kn, hd, ⟨sm, dp⟩, q⟩ := h
    replace q : ∀ v H', Same H H' → Dp K (off S H') v (.list ((lv t).map nD)) → Q v H' := q
    obtain - | ⟨hd, ⟨⟩⟩ := hd
    rename_i v
    refine ⟨_, (pss_cons (ps_if (pt_val (pe_call G_is_integer (hr.mono (by omega)) (by rfl) T.m_is_integer T.F_is_integer.kp T.b_is_integer .nil pass0 (pa_cons (pv 0) pa_nil)))
        (pss_one (ps_ret (pe_lst (pa_cons (pv 0) pa_nil)))) pss_nil)
      (pss_one (ps_ret (pe_lc2 (own := [("part", 1), ("house", 2)]) (vs1 := [2]) (g := gName 1) (g1 := gName 2) (tt := tYes) (tt1 := tYes) rfl sc_leaves.nd (k_pi (K := K) (pe_ix (k_ix (K := K)) (pv 0) pe_int (fun _ _ => rfl))) (blkOk_by (own := [("part", 1), ("house", 2)]) (N := leaves_N) (sc := defScope leaves_s) (by decide +kernel)) (by decide) (fun _ _ _ _ _ => (pg_name (i := 1) sc_leaves.nd rfl (Or.inl rfl))) (fun _ _ _ _ _ => pts_nil) (fun _ _ _ _ _ => (k_pi (K := K) (pe_call G_leaves (hr.mono (by omega)) (by rfl) T.m_leaves T.F_leaves.kp T.b_leaves .nil pass0 (pa_cons (pv 1) pa_nil)))) (fun _ _ _ _ _ => (pg_name (i := 2) sc_leaves.nd rfl (Or.inl rfl))) (fun _ _ _ _ _ => pts_nil) (fun _ _ _ _ _ => (pv 2)))))), ?_⟩
    cases t with
    | leaf n =>
      rw [lv_leaf] at q
      have hd' := hd
      rw [tD_leaf] at hd
      refine s_seq (s_if (b_val (t_call1 (t_var rfl (spP_bl off_sub _ (.cons hd .nil) trivial rfl fun H1 s1 => ⟨_, rfl, ifT rfl ?_⟩)))))
      exact s_ret (t_lst (a_cons (t_var rfl ⟨le1, fun p hp => q _ _ (s1.trans (same_new hp)) (dp_newL (kn.same s1) hp (.cons (dp_same (off_same s1) _ _ hd) .nil))⟩)))
    | gate b k ps =>
      rw [lv_gate] at q
      rw [tD_gate] at hd
      refine s_seq (s_if (b_val (t_call1 (t_var rfl (spP_bl off_sub _ (.cons hd .nil) trivial rfl fun H1 s1 => ⟨_, rfl, ifF rfl (s_next ?_)⟩)))))
      have kn1 := kn.same s1
      have hd1 := dp_same (off_same s1) _ _ hd
      refine s_ret (lc2_seq (b := b) (ds := ps.map tD) (nthL ps) kn1 (fun Q q => t_op (t_var rfl (t_c (ix_d (i := 2) off_sub hd1 rfl rfl fun u du => q u _ (Same.refl _) du)))) (fun n hn => ?_) (fun _ => rfl) (fun _ _ => rfl) (fun _ _ => rfl) (fun j x d H2 S' dj s2 kn2 dx hS Q q => ?_) fun D H2 ys hD s2 hd2 h2 => ?_)
      · rw [List.length_map] at hn
        rw [nthL_take ps n hn, List.length_map]
        have h1 := flat_take_le ps n
        have h2 := sm.2
        rw [lv_gate] at h2
        omega
      · obtain ⟨p, pj, pm, rfl⟩ := at_ps dj
        refine t_call1 (t_var rfl ⟨S', p, kn2, .cons dx .nil, ⟨sm.parts p pm, dep_lt dp p pm⟩, fun v H' s' h => q v H' s' ?_⟩)
        rw [nthL_eq pj]; exact h
      · rw [List.length_map, nthL_take ps _ (Nat.le_refl _), List.take_length] at h2
        exact q _ _ (s1.trans s2) h2
theorem deps_max : ∀ {ps : List Kh.T} {m : Int}, m ∈ ps.map (fun p => ((dep p : Nat) : Int)) → (∀ y, y ∈ ps.map (fun p => ((dep p : Nat) : Int)) → y ≤ m) → m = ((deps ps : Nat) : Int) := by
  intro ps m h1 h2
  obtain ⟨p, hp, rfl⟩ := List.mem_map.mp h1
  have a1 : deps ps ≤ dep p := (deps_le ps).mpr fun q hq => by
    have := h2 _ (List.mem_map.mpr ⟨q, hq, rfl⟩)
    omega
  have a2 : dep p ≤ deps ps := (deps_le ps).mp (Nat.le_refl _) p hp
  omega
abbrev spDepth (K : PySem.W.Frag) (d : Nat) : Sp := spP K t1 (preT d) fun t => nD (dep t)
theorem ok_depth (T : Txt K mg a fd C tk) : ∀ d, FnOk P w K mg base CX0 (d + 1) (a 9) (fd 9) ["shape"] (spDepth K d)
  | 0 => fn_none fun _ _ _ _ => pre0
  | d + 1 => by
    have G_depth := ok_depth T d
    have G_is_integer : FnOk P w K mg base CX0 1 (a 0) (fd 0) ["value"] (spIsInteger K) := ok_is_integer T
    refine T.F_depth.ok sc_depth (fun vs H Q E h => spP_len (fun _ => rfl) h) (fun cdv A outer s H vs Q E hr h => ?_)
    obtain ⟨S, t, kn, hd, ⟨sm, dp⟩, q⟩ := h
    replace q : ∀ v H', Same H H' → Dp K (off S H') v (.int ((dep t : Nat) : Int)) → Q v H' := q
    obtain - | ⟨hd, ⟨⟩⟩ := hd
    rename_i v
    refine ⟨_, (pss_cons (ps_if (pt_val (pe_call G_is_integer (hr.mono (by omega)) (by rfl) T.m_is_integer T.F_is_integer.kp T.b_is_integer .nil pass0 (pa_cons (pv 0) pa_nil)))
        (pss_one (ps_ret pe_int)) pss_nil)
      (pss_one (ps_ret (pe_op op_add pe_int (pe_callB (k_max (K := K) rfl) (by rfl) T.z_max (by decide +kernel) (pa_cons (pe_lc (own := [("part", 1)]) (g := gName 1) (tt := tYes) rfl sc_depth.nd (k_pi (K := K) (pe_ix (k_ix (K := K)) (pv 0) pe_int (fun _ _ => rfl))) (blkOk_by (own := [("part", 1)]) (N := depth_N) (sc := defScope depth_s) (by decide +kernel)) (fun _ _ _ _ _ => (pg_name (i := 1) sc_depth.nd rfl (Or.inl rfl))) (fun _ _ _ _ _ => pts_nil) (fun _ _ _ _ _ => (pe_call G_depth (hr.mono (by omega)) (by rfl) T.m_depth T.F_depth.kp T.b_depth .nil pass0 (pa_cons (pv 1) pa_nil)))) pa_nil)))))), ?_⟩
    cases t with
    | leaf n =>
      rw [tD_leaf] at hd
      refine s_seq (s_if (b_val (t_call1 (t_var rfl (spP_bl off_sub _ (.cons hd .nil) trivial rfl fun H1 s1 => ⟨_, rfl, ifT rfl ?_⟩)))))
      exact s_ret (t_c (q _ _ s1 (dp_int (by rw [dep]; rfl))))
    | gate b k ps =>
      obtain ⟨k1, k2, _⟩ := (wf_gate b k ps).mp sm.1
      rw [dep] at q
      rw [tD_gate] at hd
      refine s_seq (s_if (b_val (t_call1 (t_var rfl (spP_bl off_sub _ (.cons hd .nil) trivial rfl fun H1 s1 => ⟨_, rfl, ifF rfl (s_next ?_)⟩)))))
      have kn1 := kn.same s1
      have hd1 := dp_same (off_same s1) _ _ hd
      refine s_ret (t_op (t_c (t_cb1 (lc_seq (b := b) (ds := ps.map tD) (nth ps fun p => nD (dep p)) kn1 (fun Q q => t_op (t_var rfl (t_c (ix_d (i := 2) off_sub hd1 rfl rfl fun u du => q u _ (Same.refl _) du)))) (len_ok sm) (fun _ => rfl) (fun j x d H2 S' dj s2 kn2 dx hS hoff Q q => ?_) fun D H2 ys hD s2 hd2 h2 => ?_))))
      · obtain ⟨p, pj, pm, rfl⟩ := at_ps dj
        refine t_call1 (t_var rfl ⟨S', p, kn2, .cons dx .nil, ⟨sm.parts p pm, dep_lt dp p pm⟩, fun v H' s' h => q v H' s' ?_⟩)
        rw [nth_eq pj]; exact h
      · rw [nth_map] at h2
        refine max_d (ns := ps.map fun p => ((dep p : Nat) : Int)) off_sub (by rw [List.map_map]; exact h2) (by rw [List.length_map]; omega) fun m m1 m2 => ⟨_, _, rfl, rfl, q _ _ (s1.trans s2) (dp_int ?_)⟩
        rw [deps_max m1 m2]; omega
/-- a tree, houses told as a list or a tuple -/
def tS (x : Kh.T × Bool × List Nat) : List PyData := [tD x.1, sq x.2.1 (x.2.2.map nD)]
theorem mem_ints {n : Nat} {s : List Nat} : ((n : Nat) : Int) ∈ s.map (fun m : Nat => ((m : Nat) : Int)) ↔ n ∈ s := by
  constructor
  · intro h
    obtain ⟨m, hm, e⟩ := List.mem_map.mp h
    have : m = n := by omega
    exact this ▸ hm
  · intro h; exact List.mem_map.mpr ⟨n, h, rfl⟩
abbrev spStandsIn (K : PySem.W.Frag) (d : Nat) : Sp := spP K tS (fun x => preT d x.1) fun x => .bool (st x.2.2 x.1)
theorem ok_stands_in (T : Txt K mg a fd C tk) : ∀ d, FnOk P w K mg base CX0 (d + 1) (a 10) (fd 10) ["shape", "houses"] (spStandsIn K d)
  | 0 => fn_none fun _ _ _ _ h => by
    obtain ⟨_, x, _, _, ⟨_, h⟩, _⟩ := h
    exact Nat.not_lt_zero _ h
  | d + 1 => by
    have G_stands_in := ok_stands_in T d
    have G_is_integer : FnOk P w K mg base CX0 1 (a 0) (fd 0) ["value"] (spIsInteger K) := ok_is_integer T
    refine T.F_stands_in.ok sc_stands_in (fun vs H Q E h => spP_len (fun _ => rfl) h) (fun cdv A outer s H vs Q E hr h => ?_)
    obtain ⟨S, ⟨t, c, ss⟩, kn, hd, ⟨sm, dp⟩, q⟩ := h
    replace q : ∀ v H', Same H H' → Dp K (off S H') v (.bool (st ss t)) → Q v H' := q
    replace sm : Sm t := sm
    replace dp : dep t < d + 1 := dp
    obtain - | ⟨hd, - | ⟨hs, ⟨⟩⟩⟩ := hd
    rename_i v vh
    replace hd : Dp K (off S H) v (tD t) := hd
    replace hs : Dp K (off S H) vh (sq c (ss.map nD)) := hs
    refine ⟨_, (pss_cons (ps_if (pt_val (pe_call G_is_integer (hr.mono (by omega)) (by rfl) T.m_is_integer T.F_is_integer.kp T.b_is_integer .nil pass0 (pa_cons (pv 0) pa_nil)))
        (pss_one (ps_ret (pe_cmpR (k_in (K := K)) (pv 0) (pv 1) (by rfl)))) pss_nil)
      (pss_one (ps_ret (pe_cmpR op_ge (pe_callB (k_len (K := K)) (by rfl) T.z_len (by decide +kernel) (pa_cons (pe_lc (own := [("part", 2)]) (g := gName 2) (tt := _) rfl sc_stands_in.nd (k_pi (K := K) (pe_ix (k_ix (K := K)) (pv 0) pe_int (fun _ _ => rfl))) (blkOk_by (own := [("part", 2)]) (N := stands_in_N) (sc := defScope stands_in_s) (by decide +kernel)) (fun _ _ _ _ _ => (pg_name (i := 2) sc_stands_in.nd rfl (Or.inl rfl))) (fun _ _ _ _ _ => (pts_one (pt_val (pe_call G_stands_in (hr.mono (by omega)) (by rfl) T.m_stands_in T.F_stands_in.kp T.b_stands_in .nil pass0 (pa_cons (pv 2) (pa_cons (pv 1) pa_nil)))))) (fun _ _ _ _ _ => (pv 2))) pa_nil)) (pe_ix (k_ix (K := K)) (pv 0) pe_int (fun _ _ => rfl)) (nomark _))))), ?_⟩
    cases t with
    | leaf n =>
      rw [tD_leaf] at hd
      rw [st_leaf] at q
      refine s_seq (s_if (b_val (t_call1 (t_var rfl (spP_bl off_sub _ (.cons hd .nil) trivial rfl fun H1 s1 => ⟨_, rfl, ifT rfl ?_⟩)))))
      cases hd
      refine s_ret (t_op (t_var rfl (t_var rfl (in_d (ns := ss.map fun m : Nat => ((m : Nat) : Int)) (off_sub.trans s1) hs (by rw [items_sq, List.map_map]; rfl) (q _ _ s1 (dp_bl ?_))))))
      exact decide_eq_decide.mpr mem_ints
    | gate b k ps =>
      rw [tD_gate] at hd
      rw [st_gate] at q
      refine s_seq (s_if (b_val (t_call1 (t_var rfl (spP_bl off_sub _ (.cons hd .nil) trivial rfl fun H1 s1 => ⟨_, rfl, ifF rfl (s_next ?_)⟩)))))
      have kn1 := kn.same s1
      have hd1 := dp_same (off_same s1) _ _ hd
      have hs1 := dp_same (off_same s1) _ _ hs
      refine s_ret (t_op (t_cb1 (lc_seqF (b := b) (ds := ps.map tD) (fun j => (ps[j]?).any (st ss)) (nth ps tD) kn1 (fun Q q => t_op (t_var rfl (t_c (ix_d (i := 2) off_sub hd1 rfl rfl fun u du => q u _ (Same.refl _) du)))) (len_ok sm) (fun _ => rfl) (fun j x d H2 S' dj s2 kn2 dx hS hoff Q q => ?_) (fun j x d H2 S' dj pj s2 kn2 dx hS hoff Q q => ?_) fun D H2 ys hD s2 hd2 h2 => ?_)))
      · obtain ⟨p, pj, pm, rfl⟩ := at_ps dj
        refine b_val (t_call2 (t_var rfl (t_var rfl ⟨S', (p, c, ss), kn2, .cons dx (.cons (dp_same hoff _ _ hs1) .nil), ⟨sm.parts p pm, dep_lt dp p pm⟩, fun v H' s' h => ?_⟩)))
        replace h : Dp K (off S' H') v (.bool (st ss p)) := h
        cases h
        refine ⟨_, rfl, ?_⟩
        have e : (ps[j]?).any (st ss) = st ss p := by rw [pj]; rfl
        rw [← e]; exact q H' s'
      · obtain ⟨p, pj', pm, rfl⟩ := at_ps dj
        refine t_var rfl (q _ _ (Same.refl _) ?_)
        rw [nth_eq pj']; exact dx
      · rw [List.length_map, range_filter (p := st ss) (g := tD) fun i x e => ⟨by rw [e]; rfl, nth_eq e⟩] at h2
        refine len_d off_sub h2 rfl (t_op (t_var rfl (t_c (ix_d (i := 1) (off_sub.trans s2) hd1 rfl rfl fun u du => ?_))))
        cases du
        refine ⟨_, _, rfl, rfl, q _ _ (s1.trans s2) (dp_bl ?_)⟩
        rw [List.length_map]
        exact decide_eq_decide.mpr (by omega)
end
end K31

set_option maxRecDepth 100000
set_option maxHeartbeats 1000000
/-! name = {k: v for ..} -/
namespace Kh
open PySem PySem.Spec PyProof.Rows L2
theorem t_dc {wi : TI} {g : TG} {tt : TT} {tk tv : TE} {vs : List Nat} {σ : L2.St} {H : Hp} {Q : VK} (h : wi σ H fun J H1 => ∀ D, H1 D = none → ∃ W : Nat → Nat → Hp → Prop, (∃ m, W 0 m (upd H1 D (.dK []))) ∧ ∀ i m H, W i m H →
    (J.stop i H ∧ Q (.ref D) H) ∨ (J.go i H ∧ ∃ Nx : Hp → Prop, (∀ H', Nx H' → ∃ m', m' < m ∧ W (i + 1) m' H') ∧ ∀ x H', J.yld i H x H' → g x (wipe σ vs) H' fun σ2 H2 => wipe σ2 vs = wipe σ vs ∧ tt σ2 H2 fun b H3 =>
      if b = true then tk σ2 H3 fun y H4 => tv σ2 H4 fun z H5 => ∃ kvs k, y = kV k ∧ H5 D = some (.dK kvs) ∧ kvs.length < sizeLine ∧ Nx (upd H5 D (.dK (putK kvs k z))) else Nx H3)) : tDc wi g tt tk tv vs σ H Q := h
section
variable {X : Cx}
theorem sw_dict {kx vx : Expr} {gs : List Comprehension} {sc : Scope} {p q : Pos} {y : Str} {l : Nat} {env : Env} (h1 : env.scope.kind = .function) (h2 : env.scope.names.lookup y = some .local) (h3 : (q.line == p.line) = true)
    (h4 : (sc.names.any fun (n, k) => n == y && (k == .local || k == .cell)) = false) : swapsWith (.DictComp kx vx gs sc p) (some (.Name y q)) l env = pure true := by
  have k1 : env.kindOf y = some .local := h2
  have k2 : env.blockKind = .function := by (unfold Env.blockKind; rw [h1]; rfl)
  unfold swapsWith; simp only [k2, k1, h4, Expr.pos, h3]; rfl
theorem ps_setDc {i : Nat} {y : Str} {py : Pos} {kx vx tg it : Expr} {ifs : List Expr} {sc : Scope} {own : List (Str × Nat)} {pos spos : Pos} {wi : TI} {g : TG} {tt : TT} {tk tv : TE} (hc : X.calm = true) (hN : X.N.Nodup) (hy : X.N[i]? = some y) (hyl : X.env.scope.names.lookup y = some .local)
    (hsw : swapsWith (.DictComp kx vx [⟨tg, it, ifs, 0⟩] sc pos) (some (.Name y py)) spos.line X.env = pure true) (hi : PI X tg it wi) (ok : BlkOk X.N X.env.scope sc own)
    (hg : ∀ (s : Shared) (H : Hp) (C : Addr) (cl : List (Str × Addr)) (fp : List Addr), PG (X.blk s H sc (compEnvC sc cl C X.env) fp) tg g)
    (ht : ∀ (s : Shared) (H : Hp) (C : Addr) (cl : List (Str × Addr)) (fp : List Addr), PTs (X.blk s H sc (compEnvC sc cl C X.env) fp) ifs tt)
    (hk : ∀ (s : Shared) (H : Hp) (C : Addr) (cl : List (Str × Addr)) (fp : List Addr), PE (X.blk s H sc (compEnvC sc cl C X.env) fp) kx tk)
    (he : ∀ (s : Shared) (H : Hp) (C : Addr) (cl : List (Str × Addr)) (fp : List Addr), PE (X.blk s H sc (compEnvC sc cl C X.env) fp) vx tv) (hs : ∀ x, foldedSetIterable it X.env x = pure x := by intro _; rfl) :
    PS X (.Assign [.Name y py] (.DictComp kx vx [⟨tg, it, ifs, 0⟩] sc pos) spos) (tAsg (tDc wi g tt tk tv (own.map (·.2))) (gName i)) := by
  constructor
  intro pins s ρ H D I h
  rw [exec_Assign_Name_used _ _ _ _ hsw]
  have h' : tDc wi g tt tk tv (own.map (·.2)) ρ H (fun x H1 => gName i x ρ H1 D.nx) := h
  have step := dc_core (pos := pos) (pos' := firstIterPos [⟨tg, it, ifs, 0⟩] pos) (use := some (assign (.Name y py) X.env)) (Qf := fun _ s' => SP X pins D .next s') hc hN I hi ok hg ht hk he hs h' (fun L c s' m H' I' q hn f => by
    show wpAny _ _ (assign (.Name y py) X.env (.ref L)) _ _ _
    refine wpAny_assign_Name (store_ok2 (v := V.ref L) I' hN hy (.inl hyl) rfl ?_ (.inr hyl))
    rintro s2 I2 ⟨b, sb, hb⟩
    obtain ⟨f0, f1, f2, f3, f4, f5⟩ := f
    have nb : c ≠ b := hb.elim (fun z => z ▸ f1) fun z e => f4 y b z e.symm
    exact ⟨m, hn.sameBut sb nb, fun h3 sb3 => ⟨_, H', I2.turned (t' := s2.toks) (fun d o hd e => (sb3.2 d hd).trans e) f0 f1 f3 f4 f5, q⟩⟩)
  exact wpAny_bind (wpAny_standAt (wpAny_bind (wpAny_bind (thn step fun _ s' hq => wpAny_pure (wpAny_pure hq)))))
end
end Kh

set_option maxRecDepth 100000
set_option maxHeartbeats 4000000
namespace K31
open PySem PySem.Spec PyProof.Rows L2 Kh
section
variable {P : Program} {w : World} {K : PySem.W.Frag} {mg : Str → Option Value} {base : Heap} {a : Nat → Addr} {fd : Nat → FuncData} {C : Addr} {tk : Nat → Tok}
theorem dpa_snoc {K : PySem.W.Frag} {H : Hp} {d : PyData} : ∀ {ds : List PyData} {vs : List V}, DpAll K H vs (ds ++ [d]) → ∃ vs' v, vs = vs' ++ [v] ∧ DpAll K H vs' ds ∧ Dp K H v d
  | [], _, .cons h .nil => ⟨[], _, rfl, .nil, h⟩
  | e :: ds, _, .cons h t => by
    obtain ⟨vs', v, rfl, h1, h2⟩ := dpa_snoc t
    exact ⟨_ :: vs', v, rfl, .cons h h1, h2⟩
theorem siz_pos (t : Kh.T) : 1 ≤ siz t := by cases t <;> simp [siz]
theorem len_sizs : ∀ ts : List Kh.T, ts.length ≤ sizs ts
  | [] => Nat.zero_le _
  | t :: ts => by rw [sizs, List.length_cons]; have := siz_pos t; have := len_sizs ts; omega
theorem sizs_app : ∀ xs ys : List Kh.T, sizs (xs ++ ys) = sizs xs + sizs ys
  | [], ys => by simp [sizs]
  | x :: xs, ys => by rw [List.cons_append, sizs, sizs, sizs_app xs ys]; omega
abbrev spIsTree (K : PySem.W.Frag) : Sp := spP K t1 (fun t => Wf t ∧ siz t ≤ 100000) fun _ => .bool true
theorem ok_is_tree (T : Txt K mg a fd C tk) : FnOk P w K mg base CX0 5 (a 5) (fd 5) ["value"] (spIsTree K) := by
  have G_is_gate : FnOk P w K mg base CX0 4 (a 4) (fd 4) ["value"] (spIsGate K) := ok_is_gate T
  have G_is_number_below : FnOk P w K mg base CX0 3 (a 3) (fd 3) ["value", "many"] (spBelow K) := ok_is_number_below T
  refine T.F_is_tree.ok sc_is_tree (fun vs H Q E h => spP_len (fun _ => rfl) h) (fun cdv A outer s H vs Q E hr h => ?_)
  obtain ⟨S, t, kn, hd, ⟨wf, sz⟩, q⟩ := h
  obtain - | ⟨hd, ⟨⟩⟩ := hd
  rename_i v
  refine ⟨_, (pss_cons (ps_set (i := 1) sc_is_tree.nd rfl (Or.inl rfl) (pe_lst (pa_cons (pv 0) pa_nil)))
      (pss_cons (ps_while PassesOwn.never (pt_cmpR op_gt (pe_callB (k_len (K := K)) (by rfl) T.z_len (by decide +kernel) (pa_cons (pv 1) pa_nil)) pe_int (nomark _))
        (pss_cons (ps_set (i := 2) sc_is_tree.nd rfl (Or.inl rfl) (pe_bm0 PySem.F.plainAttrs_list PySem.F.slot_list_pop PySem.F.type_list_pop mt_pop (pv 1)))
        (pss_one (ps_if (pt_val (pe_call G_is_gate (hr.mono (by omega)) (by rfl) T.m_is_gate T.F_is_gate.kp T.b_is_gate .nil pass0 (pa_cons (pv 2) pa_nil)))
          (pss_one (ps_expr (pe_bm PySem.F.plainAttrs_list PySem.F.slot_list_extend PySem.F.type_list_extend (k_ext (K := K)) (pv 1) (pa_cons (pe_ix (k_ix (K := K)) (pv 2) pe_int (fun _ _ => rfl)) pa_nil)))) (pss_one (ps_if (pt_not (pt_val (pe_call G_is_number_below (hr.mono (by omega)) (by rfl) T.m_is_number_below T.F_is_number_below.kp T.b_is_number_below .nil pass0 (pa_cons (pv 2) (pa_cons (pe_glob (v := .int 24) (by rfl) T.m_HOUSES ⟨_, rfl⟩) pa_nil)))))
            (pss_one (ps_ret pe_bl)) pss_nil))))))
      (pss_one (ps_ret pe_bl)))), ?_⟩
  refine s_seq (s_set (t_lst (a_cons (t_var rfl ⟨le1, fun D hD => ?_⟩))))
  refine s_seq ?_
  refine ⟨fun m σ H' => ∃ vs ts x2, σ = [some v, some (.ref D), x2] ∧ H' D = some (.lst vs) ∧ DpAll K (off (plus S D) H') vs (ts.map tD) ∧ (∀ t ∈ ts, Wf t) ∧ m = sizs ts ∧ sizs ts ≤ 100000 ∧ Same H H',
    ⟨_, [v], [t], none, rfl, upd_same, .cons (dp_same (off_plus hD (same_new hD)) _ _ hd) .nil, fun p hp => by rw [List.mem_singleton.mp hp]; exact wf, rfl, by simp [sizs]; exact sz, same_new hD⟩, ?_⟩
  rintro m σ H' ⟨vs, ts, x2, rfl, hv, da, wfs, rfl, sz', sm⟩
  refine b_test (t_op (t_cb1 (t_var rfl ⟨D, vs, rfl, .inl (sqL hv), t_c ⟨_, _, rfl, rfl, _, rfl, ?_⟩⟩)))
  have ln : vs.length = ts.length := by rw [dpa_len da, List.length_map]
  rcases List.eq_nil_or_concat ts with rfl | ⟨ts', t', rfl⟩
  · have e : vs = [] := List.eq_nil_of_length_eq_zero ln
    subst e
    refine ifF (by decide) (nx_of ?_)
    exact s_ret (t_c (q _ _ sm (.bl true)))
  · rw [List.concat_eq_append] at da wfs sz' ln ⊢
    rw [List.map_append] at da
    obtain ⟨vs', u, rfl, d1, d2⟩ := dpa_snoc da
    have wf' : Wf t' := wfs t' (by simp)
    have ep : sizs (ts' ++ [t']) = sizs ts' + siz t' := by rw [sizs_app]; simp [sizs]
    refine ifT (decide_eq_true (by rw [List.length_append, List.length_singleton]; omega)) ⟨fun σ' H'' => ∃ vs ts x2, σ' = [some v, some (.ref D), x2] ∧ H'' D = some (.lst vs) ∧ DpAll K (off (plus S D) H'') vs (ts.map tD) ∧ (∀ t ∈ ts, Wf t) ∧ sizs ts < sizs (ts' ++ [t']) ∧ Same H H'', ?_, ?_⟩
    · rintro σ' H'' ⟨vs, ts, x2, h1, h2, h3, h4, h5, h6⟩
      exact ⟨_, h5, vs, ts, x2, h1, h2, h3, h4, rfl, by omega, h6⟩
    refine s_seq (s_set (t_bm0 (t_var rfl ⟨.inl ⟨rfl, _, sqL hv⟩, D, _, u, rfl, rfl, hv, by simp, ?_⟩)))
    have e1 : (vs' ++ [u]).dropLast = vs' := by simp
    rw [e1]
    have sm1 : Same H (upd H' D (.lst vs')) := smut sm hD
    have eo : off (plus S D) (upd H' D (.lst vs')) = off (plus S D) H' := off_mut (.inr rfl)
    rw [← eo] at d1 d2
    generalize hH : upd H' D (.lst vs') = H1 at *
    have hv1 : H1 D = some (.lst vs') := by rw [← hH]; exact upd_same
    refine s_if (b_val (t_call1 (t_var rfl (spP_bl off_sub t' (.cons d2 .nil) wf' rfl fun H2 s2 => ⟨_, rfl, ?_⟩))))
    have hv2 := s2 _ _ hv1
    have d2' := dp_same (off_same s2) _ _ d2
    have d1' := dpa_same (off_same s2) _ _ d1
    cases t' with
    | leaf n =>
      rw [tD_leaf] at d2'
      have hn : n < 24 := by rw [Wf] at wf'; exact wf'
      refine ifF rfl (s_if (b_not (b_val (t_call2 (t_var rfl (t_c (spP_bl off_sub (PyData.int (n : Nat), (24 : Int)) (.cons d2' (.cons (.int 24) .nil)) trivial rfl fun H3 s3 => ⟨_, rfl, ?_⟩)))))))
      have eb : belowD 24 (.int ((n : Nat) : Int)) = true := by simp [belowD]; omega
      refine ifF (by rw [eb]; rfl) (s_next ⟨vs', ts', _, rfl, s3 _ _ hv2, dpa_same (off_same s3) _ _ d1', fun p hp => wfs p (by simp [hp]), by rw [ep]; have := siz_pos (.leaf n); omega, (sm1.trans s2).trans s3⟩)
    | gate b k ps =>
      rw [tD_gate] at d2'
      refine ifT rfl (s_drop (t_bm (t_var rfl ⟨.inl ⟨rfl, _, sqL hv2⟩, a_cons (t_op (t_var rfl (t_c (ix_d (i := 2) off_sub d2' rfl rfl fun z dz => ?_))))⟩)))
      obtain ⟨zb, zs, rfl, hz, da⟩ := items_at dz (items_sq b _)
      have lz := dpa_len da
      rw [List.length_map] at lz
      have lv' : vs'.length = ts'.length := by rw [dpa_len d1', List.length_map]
      have h1 := len_sizs ts'
      have h2 := len_sizs ps
      have h3 : siz (.gate b k ps) = 1 + sizs ps := by rw [siz]
      refine ⟨D, zb, vs', zs, rfl, rfl, hv2, hz.imp (fun y => off_sub.seq y) (fun y => same_t off_sub y), Nat.le_trans (show vs'.length + zs.length ≤ 100000 by omega) (by decide), vs' ++ zs, ts' ++ ps, _, rfl, upd_same, ?_, ?_, ?_, ?_⟩
      · rw [off_mut (show plus S D D from .inr rfl), List.map_append]
        exact dpa_app d1' da
      · intro p hp
        rcases List.mem_append.mp hp with hp | hp
        · exact wfs p (by simp [hp])
        · exact ((wf_gate b k ps).mp wf').2.2 p hp
      · rw [sizs_app, ep]; omega
      · exact smut (sm1.trans s2) hD
/-- houses, and a list or a tuple of different ones of them -/
def hS (x : List Nat × Bool × List Nat) : List PyData := [.tuple (x.1.map nD), sq x.2.1 (x.2.2.map nD)]
def preH (x : List Nat × Bool × List Nat) : Prop := (∀ n ∈ x.2.2, n < 24 ∧ n ∈ x.1) ∧ x.2.2.Nodup ∧ x.2.2.length ≤ 1000
theorem nD_map (ns : List Nat) : ns.map nD = (ns.map fun m : Nat => ((m : Nat) : Int)).map PyData.int := by rw [List.map_map]; rfl
theorem isListD_sq (b : Bool) (ds : List PyData) : isListD (sq b ds) = true := by cases b <;> rfl
/-- all are so -/
theorem all_map {n : Nat} {f : Nat → Bool} (h : ∀ i, i < n → f i = true) : ((List.range n).map f).all id = true := by
  rw [List.all_map, List.all_eq_true]
  intro x hx
  exact h x (List.mem_range.mp hx)
end
end K31

set_option maxRecDepth 100000
set_option maxHeartbeats 1000000
/-! [e for x in range(n) if t]; fields; makes -/
namespace Kh
open PySem PySem.Spec PyProof.Rows L2
theorem lc_rngF {K : PySem.W.Frag} {S : Addr → Prop} {H : Hp} {σ : L2.St} {te : TE} {tt : TT} {sl : Nat} {vs : List Nat} {Q : VK} {n : Nat} {ta : TA} (pt : Nat → Bool) (f : Nat → PyData) (kn : Kn S H) (hn : n ≤ 100000)
    (hev : ∀ q : List V → Hp → Prop, (∀ H1, Same H H1 → q [.int (n : Nat)] H1) → ta σ H q) (hw : ∀ x, wipe ((wipe σ vs).set sl (some x)) vs = wipe σ vs)
    (test : ∀ j H1 S', j < n → Same H H1 → Kn S' H1 → (∀ a, S a → S' a) → Same (off S H) (off S' H1) → ∀ Q : Bool → Hp → Prop, (∀ H', Same H1 H' → Q (pt j) H') → tt ((wipe σ vs).set sl (some (.int (j : Nat)))) H1 Q)
    (body : ∀ j H1 S', j < n → pt j = true → Same H H1 → Kn S' H1 → (∀ a, S a → S' a) → Same (off S H) (off S' H1) → ∀ Q : VK, (∀ y H', Same H1 H' → Dp K (off S' H') y (f j) → Q y H') → te ((wipe σ vs).set sl (some (.int (j : Nat)))) H1 Q)
    (done : ∀ D H1 ys, H D = none → Same H H1 → H1 D = some (.lst ys) → Dp K (off S H1) (.ref D) (.list (((List.range n).filter pt).map f)) → Q (.ref D) H1) :
    tLc (iRng1 ta) (gName sl) tt te vs σ H Q := by
  refine hev _ fun H0 s0 => ⟨(n : Nat), rfl, by omega, by omega, ?_⟩
  have kn0 := kn.same s0
  intro D hD
  have w : Walk (Itr 0 n) n (fun _ => True) (YFn fun i => .int (0 + i)) := walk_range
  refine lc_filt (Qd := Q (.ref D)) w (fun j x => x = .int (j : Nat)) (fun i H x H' _ y => ⟨y.1, by rw [y.2]; show V.int (0 + _) = _; rw [Int.zero_add]⟩) pt (fun j y H => Dp K (off (plus S D) H) y (f j)) (fun H s => trivial) hD hn hw (fun j y H H' e h => dp_same (off_but e) _ _ h) (fun j x H1 hj xj s hd Q q => ?_) (fun j x H1 hj xj pj s hd Q q => ?_) (fun ys H1 py s hd => ?_)
  · subst xj
    exact test j H1 (plus S D) hj (s0.trans s) ((kn0.same s).plus hd) (fun _ h => .inl h) ((off_same s0).trans (off_plus hD s)) Q q
  · subst xj
    exact body j H1 (plus S D) hj pj (s0.trans s) ((kn0.same s).plus hd) (fun _ h => .inl h) ((off_same s0).trans (off_plus hD s)) Q q
  · refine done D H1 ys (s0.free hD) (s0.trans s) hd (dp_lst (kn0.new hD) hd ?_)
    refine dpa_same (off_fin (D := D)) _ _ ?_
    have go : ∀ {l : List Nat} {ys : List V}, Paired (fun j y => Dp K (off (plus S D) H1) y (f j)) l ys → DpAll K (off (plus S D) H1) ys (l.map f) := by
      intro l ys p
      induction p with
      | nil => exact .nil
      | cons r t ih => exact .cons r ih
    exact go py
section
variable {σ : L2.St} {H : Hp} {Q : VK} {D : Ends} {te ta tb tc : TE} {K : PySem.W.Frag} {sp : Sp} {E : XK} {C : Addr}
theorem s_fld {f : Str} (h : tb σ H fun y H1 => ta σ H1 fun x H2 => ∃ a C dx fs, x = .ref a ∧ H2 a = some (.ins C dx fs) ∧ Cls K C ∧ NoAttr K C f ∧ fs.length < 1000 ∧ D.nx σ (upd H2 a (.ins C dx (putF f y fs)))) : sFld K ta tb f D σ H := h
theorem t_fld {f : Str} (h : ta σ H fun x H1 => ∃ a C dx fs v, x = .ref a ∧ H1 a = some (.ins C dx fs) ∧ Cls K C ∧ NoAttr K C f ∧ fs.lookup f = some v ∧ Q v H1) : tFld K ta f σ H Q := h
theorem t_prop (h : ta σ H fun x H1 => ∃ a dx fs, x = .ref a ∧ H1 a = some (.ins C dx fs) ∧ sp [.ref a] H1 Q E) : tProp C sp [] E ta σ H Q := h
theorem t_meth0 {m : Str} (h : ta σ H fun x H1 => ∃ a dx fs, x = .ref a ∧ H1 a = some (.ins C dx fs) ∧ fs.lookup m = none ∧ sp [x] H1 Q E) : tMeth C m sp [] E ta tNil σ H Q := h
theorem t_meth1 {m : Str} (h : ta σ H fun x H1 => ∃ a dx fs, x = .ref a ∧ H1 a = some (.ins C dx fs) ∧ fs.lookup m = none ∧ tb σ H1 fun y H2 => sp [x, y] H2 Q E) : tMeth C m sp [] E ta (tCons tb tNil) σ H Q := h
theorem t_make1 (h : ta σ H fun y H1 => ∀ x dx, H1 x = none → H1 dx = none → dx ≠ x → sp [.ref x, y] (upd (upd H1 dx (.own x)) x (.ins C dx [])) (fun v H2 => v = .non ∧ Q (.ref x) H2) E) : tMake C sp [] E (tCons ta tNil) σ H Q := h
end
end Kh

set_option maxRecDepth 100000
set_option maxHeartbeats 4000000
namespace K31
open PySem PySem.Spec PyProof.Rows L2 Kh
/-- what of the class Tree is told -/
structure TxC (K : PySem.W.Frag) (mg : Str → Option Value) (a : Nat → Addr) (C : Addr) : Prop where
  cls : Cls K C
  n_shape : NoAttr K C "_shape"
  n_leaves : NoAttr K C "_leaves"
  n_members : NoAttr K C "_members"
  M_Tree : Mk K C (a 11)
  m_Tree : mg "Tree" = some (.ref C)
  me_members : Meth K C "members" (a 14)
  p_shape : ∃ p, PropOf K C "shape" p (a 12)
  p_is_plain : ∃ p, PropOf K C "is_plain" p (a 13)
  me_eq : Meth K C "__eq__" (a 15)
/-- the houses of a tree, in their order -/
def mem (t : Kh.T) : List Nat := (List.range 24).filter fun n => decide (n ∈ lv t)
def flds (v1 v2 v3 : V) : List (Str × V) := [("_shape", v1), ("_leaves", v2), ("_members", v3)]
/-- at x stands the object of a tree -/
def TreeAt (K : PySem.W.Frag) (C : Addr) (H : Hp) (t : Kh.T) (x : Addr) : Prop := ∃ dx v1 v2 v3, H x = some (.ins C dx (flds v1 v2 v3)) ∧
  Dp K H v1 (tD (flg true t)) ∧ Dp K H v2 (.tuple ((lv t).map nD)) ∧ Dp K H v3 (.tuple ((mem t).map nD))
theorem TreeAt.same {K : PySem.W.Frag} {C : Addr} {H H' : Hp} {t : Kh.T} {x : Addr} (h : TreeAt K C H t x) (e : Same H H') : TreeAt K C H' t x := by
  obtain ⟨dx, v1, v2, v3, h0, h1, h2, h3⟩ := h
  exact ⟨dx, v1, v2, v3, e _ _ h0, dp_same e _ _ h1, dp_same e _ _ h2, dp_same e _ _ h3⟩
/-- a tree that can be made -/
def Okt (t : Kh.T) : Prop := Wf t ∧ (lv t).length ≤ 24 ∧ dep t ≤ 5 ∧ ((lv t).length ≤ (mem t).length ∨ (mem t).length ≤ 8)
theorem Okt.sm {t : Kh.T} (h : Okt t) : Sm t := ⟨h.1, Nat.le_trans h.2.1 (by decide)⟩
theorem siz_le : ∀ t d, Wf t → dep t ≤ d → siz t ≤ (d + 1) * (lv t).length := by
  intro t
  refine Kh.T.ind (P := fun t => ∀ d, Wf t → dep t ≤ d → siz t ≤ (d + 1) * (lv t).length) (fun n d _ _ => by rw [lv_leaf]; simp [siz]) (fun b k ps ih d wf dp => ?_) t
  cases d with
  | zero => exact absurd dp (dep_gate0 b k ps)
  | succ d =>
    obtain ⟨k1, k2, wfs⟩ := (wf_gate b k ps).mp wf
    have dps := (dep_gate b k ps).mp dp
    have pos := lv_pos _ wf
    rw [lv_gate] at pos ⊢
    have go : ∀ qs : List Kh.T, (∀ p ∈ qs, p ∈ ps) → sizs qs ≤ (d + 1) * (qs.flatMap lv).length := by
      intro qs
      induction qs with
      | nil => intro _; simp [sizs]
      | cons p r ih2 =>
        intro hq
        have h1 := ih p (hq p List.mem_cons_self) d (wfs p (hq p List.mem_cons_self)) (dps p (hq p List.mem_cons_self))
        have h2 := ih2 fun q h => hq q (List.mem_cons_of_mem _ h)
        rw [sizs, List.flatMap_cons, List.length_append, Nat.mul_add]
        omega
    have h := go ps fun p h => h
    have e : siz (.gate b k ps) = 1 + sizs ps := by rw [siz]
    rw [e]
    have e2 : (d + 1 + 1) * (ps.flatMap lv).length = (d + 1) * (ps.flatMap lv).length + (ps.flatMap lv).length := by rw [Nat.add_mul (d + 1) 1, Nat.one_mul]
    rw [e2]; omega
theorem Okt.siz {t : Kh.T} (h : Okt t) : siz t ≤ 100000 := by
  have h1 := siz_le t 5 h.1 h.2.2.1
  have h2 := h.2.1
  omega
theorem mem_le (t : Kh.T) : (mem t).length ≤ 24 := by
  have := List.length_filter_le (fun n => decide (n ∈ lv t)) (List.range 24)
  rwa [List.length_range] at this
section
variable {P : Program} {w : World} {K : PySem.W.Frag} {mg : Str → Option Value} {base : Heap} {a : Nat → Addr} {fd : Nat → FuncData} {C : Addr} {tk : Nat → Tok}
def spInit (K : PySem.W.Frag) (C : Addr) : Sp := fun vs H Q _ => ∃ (S : Addr → Prop) (x : Addr) (dx : Addr) (v : V) (t : Kh.T), vs = [.ref x, v] ∧ Kn S H ∧ S x ∧ H x = some (.ins C dx []) ∧ Dp K (off S H) v (tD t) ∧ Okt t ∧
  ∀ H' v1 v2 v3, SameBut x H H' → H' x = some (.ins C dx (flds v1 v2 v3)) → Dp K (off S H') v1 (tD (flg true t)) → Dp K (off S H') v2 (.tuple ((lv t).map nD)) → Dp K (off S H') v3 (.tuple ((mem t).map nD)) → Q .non H'
theorem off_bt {S : Addr → Prop} {x : Addr} {H H' : Hp} (hx : S x) (e : SameBut x H H') : Same (off S H) (off S H') := fun b o h => by
  obtain ⟨n, h⟩ := off_some h
  rw [off_out n]
  exact e b o (fun z => n (z ▸ hx)) h
theorem kn_bt {S : Addr → Prop} {x : Addr} {H H' : Hp} (kn : Kn S H) (e : SameBut x H H') (hx : H' x ≠ none) : Kn S H' := fun b z => by
  by_cases q : b = x
  · subst q; exact hx
  · cases h : H b with
    | none => exact (kn b z h).elim
    | some o => rw [e b o q h]; exact fun z => nomatch z
theorem ok_Tree_init (T : Txt K mg a fd C tk) (U : TxC K mg a C) : FnOk P w K mg base CX0 8 (a 11) (fd 11) ["self", "shape"] (spInit K C) := by
  have G_is_tree : FnOk P w K mg base CX0 5 (a 5) (fd 5) ["value"] (spIsTree K) := ok_is_tree T
  have G_firm := ok_firm (P := P) (w := w) (base := base) T 6
  have G_leaves := ok_leaves (P := P) (w := w) (base := base) T 6
  have G_depth := ok_depth (P := P) (w := w) (base := base) T 6
  refine T.F_Tree_init.ok sc_Tree_init (fun vs H Q E h => by obtain ⟨_, _, _, _, _, rfl, _⟩ := h; rfl) (fun cdv A outer s H vs Q E hr h => ?_)
  obtain ⟨S, x, dx, v, t, rfl, kn, hS, hx, hd, ok, q⟩ := h
  have pre : preT 6 t := ⟨ok.sm, Nat.lt_succ_of_le ok.2.2.1⟩
  refine ⟨_, (pss_cons (ps_if (pt_not (pt_val (pe_call G_is_tree (hr.mono (by omega)) (by rfl) T.m_is_tree T.F_is_tree.kp T.b_is_tree .nil pass0 (pa_cons (pv 1) pa_nil))))
        (pss_one ps_never) pss_nil)
      (pss_cons (ps_fld (pv 0) (pe_call G_firm (hr.mono (by omega)) (by rfl) T.m_firm T.F_firm.kp T.b_firm .nil pass0 (pa_cons (pv 1) pa_nil)) rfl)
      (pss_cons (ps_fld (pv 0) (pe_callTy (k_tup (K := K)) (by rfl) T.z_tuple (by decide +kernel) (pa_cons (pe_call G_leaves (hr.mono (by omega)) (by rfl) T.m_leaves T.F_leaves.kp T.b_leaves .nil pass0 (pa_cons (pv 1) pa_nil)) pa_nil)) rfl)
      (pss_cons (ps_fld (pv 0) (pe_callTy (k_tup (K := K)) (by rfl) T.z_tuple (by decide +kernel) (pa_cons (pe_lc (own := [("house", 2)]) (g := gName 2) (tt := _) rfl sc_Tree_init.nd (pi_range1 (by rfl) T.z_range (pa_cons (pe_glob (v := .int 24) (by rfl) T.m_HOUSES ⟨_, rfl⟩) pa_nil)) (blkOk_by (own := [("house", 2)]) (N := Tree_init_N) (sc := defScope Tree_init_s) (by decide +kernel)) (fun _ _ _ _ _ => (pg_name (i := 2) sc_Tree_init.nd rfl (Or.inl rfl))) (fun _ _ _ _ _ => (pts_one (pt_cmpR (k_in (K := K)) (pv 2) (k_fld (K := K) (pv 0) rfl) (by rfl)))) (fun _ _ _ _ _ => (pv 2))) pa_nil)) rfl)
      (pss_cons (ps_if (pt_cmpR op_gt (pe_callB (k_len (K := K)) (by rfl) T.z_len (by decide +kernel) (pa_cons (k_fld (K := K) (pv 0) rfl) pa_nil)) (pe_glob (v := .int 24) (by rfl) T.m_MOST_LEAVES ⟨_, rfl⟩) (nomark _))
        (pss_one ps_never) pss_nil)
      (pss_cons (ps_if (pt_cmpR op_gt (pe_call G_depth (hr.mono (by omega)) (by rfl) T.m_depth T.F_depth.kp T.b_depth .nil pass0 (pa_cons (pv 1) pa_nil)) (pe_glob (v := .int 5) (by rfl) T.m_MOST_DEPTH ⟨_, rfl⟩) (nomark _))
        (pss_one ps_never) pss_nil)
      (pss_one (ps_if (PW.pt (pw_and (pt_cmpR op_lt (pe_callB (k_len (K := K)) (by rfl) T.z_len (by decide +kernel) (pa_cons (k_fld (K := K) (pv 0) rfl) pa_nil)) (pe_callB (k_len (K := K)) (by rfl) T.z_len (by decide +kernel) (pa_cons (k_fld (K := K) (pv 0) rfl) pa_nil)) (nomark _)) (pw_and1 (pt_cmpR op_gt (pe_callB (k_len (K := K)) (by rfl) T.z_len (by decide +kernel) (pa_cons (k_fld (K := K) (pv 0) rfl) pa_nil)) (pe_glob (v := .int 8) (by rfl) T.m_MOST_MIXED ⟨_, rfl⟩) (nomark _)))))
        (pss_one ps_never) pss_nil)))))))), ?_⟩
  refine s_seq (s_if (b_not (b_val (t_call1 (t_var rfl (spP_bl off_sub t (.cons hd .nil) ⟨ok.1, ok.siz⟩ rfl fun H1 s1 => ⟨_, rfl, ifF rfl (s_next ?_)⟩))))))
  have kn1 := kn.same s1
  have hd1 := dp_same (off_same s1) _ _ hd
  have hx1 := s1 _ _ hx
  refine s_seq (s_fld (t_call1 (t_var rfl ⟨S, t, kn1, .cons hd1 .nil, pre, fun v1 H2 s2 d1 => ?_⟩)))
  have hx2 := s2 _ _ hx1
  refine t_var rfl ⟨x, C, dx, [], rfl, hx2, U.cls, U.n_shape, by decide, ?_⟩
  have b2 : SameBut x H (upd H2 x (.ins C dx [("_shape", v1)])) := bmut (sbut (s1.trans s2))
  have d1 := dp_same (off_bt (H' := upd H2 x (.ins C dx [("_shape", v1)])) hS (bmut (sbut (Same.refl H2)))) _ _ d1
  have hx2 : (upd H2 x (.ins C dx [("_shape", v1)])) x = some (.ins C dx [("_shape", v1)]) := upd_same
  generalize hH : upd H2 x (.ins C dx [("_shape", v1)]) = H2' at d1 b2 hx2
  rw [show upd H2 x (HO.ins C dx (putF "_shape" v1 [])) = H2' from hH]
  have kn2 := kn_bt kn b2 (some_ne hx2)
  have hd2 := dp_same (off_bt hS b2) _ _ hd
  refine s_seq (s_fld (t_cb1 (t_call1 (t_var rfl ⟨S, t, kn2, .cons hd2 .nil, pre, fun u H3 s3 du => ?_⟩))))
  refine tup_d (kn2.same s3) du rfl fun v2 H4 s4 d2 => ?_
  have hx4 := s4 _ _ (s3 _ _ hx2)
  refine t_var rfl ⟨x, C, dx, [("_shape", v1)], rfl, hx4, U.cls, U.n_leaves, (by show (1 : Nat) < 1000; decide), ?_⟩
  have e4 : SameBut x H2' (upd H4 x (.ins C dx [("_shape", v1), ("_leaves", v2)])) := bmut (sbut (s3.trans s4))
  have d2 := dp_same (off_bt (H' := upd H4 x (.ins C dx [("_shape", v1), ("_leaves", v2)])) hS (bmut (sbut (Same.refl H4)))) _ _ d2
  have hx4 : (upd H4 x (.ins C dx [("_shape", v1), ("_leaves", v2)])) x = some (.ins C dx [("_shape", v1), ("_leaves", v2)]) := upd_same
  generalize hH : upd H4 x (.ins C dx [("_shape", v1), ("_leaves", v2)]) = H4' at d2 e4 hx4
  rw [show upd H4 x (HO.ins C dx (putF "_leaves" v2 [("_shape", v1)])) = H4' from hH]
  have kn4 := kn_bt kn2 e4 (some_ne hx4)
  have hd4 := dp_same (off_bt hS e4) _ _ hd2
  have d1 := dp_same (off_bt hS e4) _ _ d1
  refine s_seq (s_fld (t_cb1 (lc_rngF (K := K) (n := 24) (fun j => decide (j ∈ lv t)) nD kn4 (by decide) (fun q h => a_cons (t_c (a_nil (h _ (Same.refl _))))) (fun _ => rfl) (fun j H5 S' hj s5 kn5 hS' off5 Q q => ?_) (fun j H5 S' hj pj s5 kn5 hS' off5 Q q => ?_) fun D H5 ys hD s5 hd5 d5 => ?_)))
  · refine b_test (t_op (t_var rfl (t_fld (t_var rfl ⟨x, C, dx, _, v2, rfl, s5 _ _ hx4, U.cls, U.n_leaves, rfl, ?_⟩))))
    refine in_d (ns := (lv t).map fun m : Nat => ((m : Nat) : Int)) off_sub (dp_same off5 _ _ d2) (by rw [← nD_map]; rfl) ⟨_, rfl, ?_⟩
    have e : decide (((j : Nat) : Int) ∈ (lv t).map fun m : Nat => ((m : Nat) : Int)) = decide (j ∈ lv t) := decide_eq_decide.mpr mem_ints
    show Q (decide (((j : Nat) : Int) ∈ (lv t).map fun m : Nat => ((m : Nat) : Int))) H5
    rw [e]; exact q _ (Same.refl _)
  · exact t_var rfl (q _ _ (Same.refl _) (Dp.int _))
  · refine tup_d (kn4.same s5) d5 rfl fun v3 H6 s6 d3 => ?_
    have hx6 := s6 _ _ (s5 _ _ hx4)
    refine t_var rfl ⟨x, C, dx, _, rfl, hx6, U.cls, U.n_members, (by show (2 : Nat) < 1000; decide), ?_⟩
    have e6 : SameBut x H4' (upd H6 x (.ins C dx (flds v1 v2 v3))) := bmut (sbut (s5.trans s6))
    have d3 := dp_same (off_bt (H' := upd H6 x (.ins C dx (flds v1 v2 v3))) hS (bmut (sbut (Same.refl H6)))) _ _ d3
    have hx6 : (upd H6 x (.ins C dx (flds v1 v2 v3))) x = some (.ins C dx (flds v1 v2 v3)) := upd_same
    generalize hH : upd H6 x (.ins C dx (flds v1 v2 v3)) = H6' at d3 e6 hx6
    rw [show upd H6 x (HO.ins C dx (putF "_members" v3 [("_shape", v1), ("_leaves", v2)])) = H6' from hH]
    have b6 : SameBut x H H6' := fun b o n h => e6 b o n (e4 b o n (b2 b o n h))
    have kn6 := kn_bt kn b6 (some_ne hx6)
    have hd6 := dp_same (off_bt hS b6) _ _ hd
    have d1 := dp_same (off_bt hS e6) _ _ d1
    have d2 := dp_same (off_bt hS e6) _ _ d2
    refine nx_of (s_seq (s_if (b_test (t_op (t_cb1 (t_fld (t_var rfl ⟨x, C, dx, _, v2, rfl, hx6, U.cls, U.n_leaves, rfl, len_d off_sub d2 rfl (t_c ⟨_, _, rfl, rfl, ?_⟩)⟩)))))))
    refine ⟨_, rfl, ifF (decide_eq_false ?_) (s_next ?_)⟩
    · rw [List.length_map]; have := ok.2.1; omega
    refine s_seq (s_if (b_test (t_op (t_call1 (t_var rfl (spP_int off_sub t (.cons hd6 .nil) pre rfl fun H7 s7 => t_c ⟨_, _, rfl, rfl, ?_⟩))))))
    refine ⟨_, rfl, ifF (decide_eq_false ?_) (s_next ?_)⟩
    · have := ok.2.2.1; omega
    have hx7 := s7 _ _ hx6
    have d1 := dp_same (off_same s7) _ _ d1
    have d2 := dp_same (off_same s7) _ _ d2
    have d3 := dp_same (off_same s7) _ _ d3
    refine s_if (b_and (b_test (t_op (t_cb1 (t_fld (t_var rfl ⟨x, C, dx, _, v3, rfl, hx7, U.cls, U.n_members, rfl, len_d off_sub d3 rfl ?_⟩))))))
    refine t_cb1 (t_fld (t_var rfl ⟨x, C, dx, _, v2, rfl, hx7, U.cls, U.n_leaves, rfl, len_d off_sub d2 rfl ⟨_, _, rfl, rfl, ?_⟩⟩))
    have fin : Q .non H7 := q H7 v1 v2 v3 (fun b o n h => s7 b o (b6 b o n h)) hx7 d1 d2 d3
    refine ⟨_, rfl, if_b (fun c => ?_) (fun c => ?_)⟩
    · refine b_test (t_op (t_cb1 (t_fld (t_var rfl ⟨x, C, dx, _, v3, rfl, hx7, U.cls, U.n_members, rfl, len_d off_sub d3 rfl (t_c ⟨_, _, rfl, rfl, ?_⟩)⟩))))
      refine ⟨_, rfl, ifF (decide_eq_false ?_) (s_next fin)⟩
      have := of_decide_eq_true c
      rw [List.length_map] at this ⊢
      rw [List.length_map] at this
      have em : ((List.range 24).filter fun j => decide (j ∈ lv t)).length = (mem t).length := rfl
      rcases ok.2.2.2 with h | h <;> omega
    · exact ifF rfl (s_next fin)
end
end K31

set_option maxRecDepth 100000
set_option maxHeartbeats 4000000
namespace K31
open PySem PySem.Spec PyProof.Rows L2 Kh
section
variable {P : Program} {w : World} {K : PySem.W.Frag} {mg : Str → Option Value} {base : Heap} {a : Nat → Addr} {fd : Nat → FuncData} {C : Addr} {tk : Nat → Tok}
theorem same_ins {H : Hp} {x dx : Addr} {o o' : HO} (h1 : H x = none) (h2 : H dx = none) : Same H (upd (upd H dx o) x o') := fun b u e => by
  rw [upd_ne (ne_of_none e h1), upd_ne (ne_of_none e h2)]; exact e
/-- Tree(v), v of t -/
theorem mk_tree {S : Addr → Prop} {σ : L2.St} {H : Hp} {ta : TE} {Q : VK} (t : Kh.T) (ok : Okt t) (kn : Kn S H)
    (hev : ∀ Q : VK, (∀ u H1, Same H H1 → Dp K (off S H1) u (tD t) → Q u H1) → ta σ H Q)
    (q : ∀ x H', Same H H' → TreeAt K C (off S H') t x → Q (.ref x) H') : tMake C (spInit K C) [] E0 (tCons ta tNil) σ H Q := by
  refine t_make1 (hev _ fun u H1 s1 du x dx hx hdx ne => ?_)
  have kn1 := kn.same s1
  have sm := same_ins (o := HO.own x) (o' := HO.ins C dx []) hx hdx
  have hup : (upd (upd H1 dx (.own x)) x (.ins C dx [])) x = some (.ins C dx []) := upd_same
  refine ⟨plus S x, x, dx, u, t, rfl, (kn1.same sm).plus (some_ne hup), .inr rfl, hup, dp_same ?_ _ _ du, ok, fun H' v1 v2 v3 sb hx' d1 d2 d3 => ⟨rfl, q x H' ?_ ⟨dx, v1, v2, v3, ?_, dp_same off_fin _ _ d1, dp_same off_fin _ _ d2, dp_same off_fin _ _ d3⟩⟩⟩
  · exact off_plus hx sm
  · intro b o h
    exact sb b o (ne_of_none (s1 b o h) hx) (sm b o (s1 b o h))
  · rw [off_out (kn1.new hx)]; exact hx'
/-- a method of a tree whose answer is data -/
def spM {α : Type} (K : PySem.W.Frag) (C : Addr) (enc : α → List PyData) (pre : Kh.T → α → Prop) (f : Kh.T → α → PyData) : Sp := fun vs H Q _ => ∃ (S : Addr → Prop) (t : Kh.T) (x : Addr) (y : α) (us : List V), vs = .ref x :: us ∧ Kn S H ∧ TreeAt K C (off S H) t x ∧ Okt t ∧ DpAll K (off S H) us (enc y) ∧ pre t y ∧
  ∀ v H', Same H H' → Dp K (off S H') v (f t y) → Q v H'
/-- without further parameters -/
abbrev spM0 (K : PySem.W.Frag) (C : Addr) (f : Kh.T → PyData) : Sp := spM K C (fun _ : Unit => []) (fun _ _ => True) (fun t _ => f t)
theorem spM_len {α : Type} {enc : α → List PyData} {pre : Kh.T → α → Prop} {f : Kh.T → α → PyData} {n : Nat} (hn : ∀ x, (enc x).length = n) {vs : List V} {H : Hp} {Q : VK} {E : XK} (h : spM K C enc pre f vs H Q E) : vs.length = n + 1 := by
  obtain ⟨S, t, x, y, us, rfl, _, _, _, hd, _⟩ := h
  rw [List.length_cons, dpa_len hd, hn]
theorem preOf {t : Kh.T} (ok : Okt t) : preT 6 t := ⟨ok.sm, Nat.lt_succ_of_le ok.2.2.1⟩
/-! flags make no difference -/
theorem lv_flg (c : Bool) : ∀ t, lv (flg c t) = lv t := Kh.T.ind (fun n => by rw [flg_leaf]) fun b k ps ih => by
  rw [flg_gate, lv_gate, lv_gate, List.flatMap_map]
  induction ps with
  | nil => rfl
  | cons p r ih2 =>
    rw [List.flatMap_cons, List.flatMap_cons, ih p List.mem_cons_self, ih2 fun q h => ih q (List.mem_cons_of_mem _ h)]
theorem wf_flg (c : Bool) : ∀ t, Wf (flg c t) ↔ Wf t := Kh.T.ind (fun n => by rw [flg_leaf]) fun b k ps ih => by
  rw [flg_gate, wf_gate, wf_gate, List.length_map]
  refine and_congr_right fun _ => and_congr_right fun _ => ⟨fun h p hp => (ih p hp).mp (h _ (List.mem_map_of_mem hp)), fun h p hp => ?_⟩
  obtain ⟨q, hq, rfl⟩ := List.mem_map.mp hp
  exact (ih q hq).mpr (h q hq)
theorem dep_flg (c : Bool) : ∀ t d, dep (flg c t) ≤ d ↔ dep t ≤ d := Kh.T.ind (fun n d => by rw [flg_leaf]) fun b k ps ih d => by
  rw [flg_gate]
  cases d with
  | zero => exact ⟨fun h => absurd h (dep_gate0 _ _ _), fun h => absurd h (dep_gate0 _ _ _)⟩
  | succ d =>
    rw [dep_gate, dep_gate]
    refine ⟨fun h p hp => (ih p hp d).mp (h _ (List.mem_map_of_mem hp)), fun h p hp => ?_⟩
    obtain ⟨q, hq, rfl⟩ := List.mem_map.mp hp
    exact (ih q hq d).mpr (h q hq)
theorem flg_flg (c e : Bool) : ∀ t, flg c (flg e t) = flg c t := Kh.T.ind (fun n => by rw [flg_leaf, flg_leaf]) fun b k ps ih => by
  rw [flg_gate, flg_gate, flg_gate, List.map_map]
  congr 1
  exact List.map_congr_left fun p hp => ih p hp
theorem con_flg (c : Bool) : ∀ t, con (flg c t) = con t := Kh.T.ind (fun n => by rw [flg_leaf]) fun b k ps ih => by
  rw [flg_gate, con_gate, con_gate, List.map_map, List.length_map]
  congr 1
  exact List.map_congr_left fun p hp => ih p hp
theorem filt_congr {α : Type} {p q : α → Bool} : ∀ {l : List α}, (∀ x ∈ l, p x = q x) → (l.filter p).length = (l.filter q).length
  | [], _ => rfl
  | x :: l, h => by
    have h1 := filt_congr (l := l) fun y hy => h y (List.mem_cons_of_mem _ hy)
    rw [List.filter_cons, List.filter_cons, h x List.mem_cons_self]
    cases q x <;> simp [h1]
theorem st_flg (c : Bool) (s : List Nat) : ∀ t, st s (flg c t) = st s t := Kh.T.ind (fun n => by rw [flg_leaf]) fun b k ps ih => by
  rw [flg_gate, st_gate, st_gate, List.filter_map, List.length_map]
  congr 1
  rw [filt_congr (p := st s ∘ flg c) (q := st s) fun p hp => ih p hp]
theorem mem_flg (c : Bool) (t : Kh.T) : mem (flg c t) = mem t := by unfold mem; rw [lv_flg]
theorem okt_flg {c : Bool} {t : Kh.T} (h : Okt t) : Okt (flg c t) := ⟨(wf_flg c t).mpr h.1, by rw [lv_flg]; exact h.2.1, (dep_flg c t 5).mpr h.2.2.1, by rw [lv_flg, mem_flg]; exact h.2.2.2⟩
theorem ok_Tree_shape (T : Txt K mg a fd C tk) (U : TxC K mg a C) : FnOk P w K mg base CX0 8 (a 12) (fd 12) ["self"] (spM0 K C fun t => tD (flg false t)) := by
  have G_listed := ok_listed (P := P) (w := w) (base := base) T 6
  refine T.F_Tree_shape.ok sc_Tree_shape (fun vs H Q E h => spM_len (fun _ => rfl) h) (fun cdv A outer s H vs Q E hr h => ?_)
  obtain ⟨S, t, x, y, us, rfl, kn, ⟨dx, v1, v2, v3, hx, d1, d2, d3⟩, ok, ⟨⟩, -, q⟩ := h
  refine ⟨_, (pss_one (ps_ret (pe_call G_listed (hr.mono (by omega)) (by rfl) T.m_listed T.F_listed.kp T.b_listed .nil pass0 (pa_cons (k_fld (K := K) (pv 0) rfl) pa_nil)))), ?_⟩
  refine s_ret (t_call1 (t_fld (t_var rfl ⟨x, C, dx, _, v1, rfl, (off_some hx).2, U.cls, U.n_shape, rfl, S, flg true t, kn, .cons d1 .nil, preOf (okt_flg ok), fun v H' s h => q v H' s ?_⟩)))
  replace h : Dp K (off S H') v (tD (flg false (flg true t))) := h
  rw [flg_flg] at h; exact h
theorem ok_Tree_is_plain (T : Txt K mg a fd C tk) (U : TxC K mg a C) : FnOk P w K mg base CX0 1 (a 13) (fd 13) ["self"] (spM0 K C fun t => .bool (decide ((lv t).length = (mem t).length))) := by
  refine T.F_Tree_is_plain.ok sc_Tree_is_plain (fun vs H Q E h => spM_len (fun _ => rfl) h) (fun cdv A outer s H vs Q E hr h => ?_)
  obtain ⟨S, t, x, y, us, rfl, kn, ⟨dx, v1, v2, v3, hx, d1, d2, d3⟩, ok, ⟨⟩, -, q⟩ := h
  refine ⟨_, (pss_one (ps_ret (pe_cmpR op_eq (pe_callB (k_len (K := K)) (by rfl) T.z_len (by decide +kernel) (pa_cons (k_fld (K := K) (pv 0) rfl) pa_nil)) (pe_callB (k_len (K := K)) (by rfl) T.z_len (by decide +kernel) (pa_cons (k_fld (K := K) (pv 0) rfl) pa_nil)) (nomark _)))), ?_⟩
  refine s_ret (t_op (t_cb1 (t_fld (t_var rfl ⟨x, C, dx, _, v2, rfl, (off_some hx).2, U.cls, U.n_leaves, rfl, len_d off_sub d2 rfl ?_⟩))))
  refine t_cb1 (t_fld (t_var rfl ⟨x, C, dx, _, v3, rfl, (off_some hx).2, U.cls, U.n_members, rfl, len_d off_sub d3 rfl ?_⟩))
  refine ⟨rfl, q _ _ (Same.refl _) (dp_bl ?_)⟩
  rw [List.length_map, List.length_map]
  exact decide_eq_decide.mpr ⟨fun h => by have := V.int.inj h; omega, fun h => by rw [h]⟩
theorem ok_Tree_members (T : Txt K mg a fd C tk) (U : TxC K mg a C) : FnOk P w K mg base CX0 1 (a 14) (fd 14) ["self"] (spM0 K C fun t => nL (mem t)) := by
  refine T.F_Tree_members.ok sc_Tree_members (fun vs H Q E h => spM_len (fun _ => rfl) h) (fun cdv A outer s H vs Q E hr h => ?_)
  obtain ⟨S, t, x, y, us, rfl, kn, ⟨dx, v1, v2, v3, hx, d1, d2, d3⟩, ok, ⟨⟩, -, q⟩ := h
  refine ⟨_, (pss_one (ps_ret (pe_callTy (k_list (K := K)) (by rfl) T.z_list (by decide +kernel) (pa_cons (k_fld (K := K) (pv 0) rfl) pa_nil)))), ?_⟩
  refine s_ret (t_cb1 (t_fld (t_var rfl ⟨x, C, dx, _, v3, rfl, (off_some hx).2, U.cls, U.n_members, rfl, list_d kn d3 rfl fun l xs hl ha h => q _ _ (same_new hl) h⟩)))
def encS (x : Bool × List Nat) : List PyData := [sq x.1 (x.2.map nD)]
end
end K31

set_option maxRecDepth 100000
set_option maxHeartbeats 1000000
/-! x != y where the class has its own == and no own != -/
namespace PySem.W
open PySem PySem.Calls PyProof.Rows Builtin
section
variable {prog : Program} {w : World} {A : Around} {E : Value → Shared → Prop} {s : Shared} {K : Frag} {x C L f : Addr} {h₀ : Heap} {m : Str → Option Value} {ox : Obj} {od : Option Obj} {b tb : Value}
theorem kh_ifBoundB {M : Model} {name : Str} {id : String} {args : List Value} {Q : Option Value → Shared → Prop} (X : K.In s.heap) (I : InstAt s.heap x ox C od) (hs : findIn K (.ref C) name = some (some (.builtin id))) (hb : ∀ self, bindSpecial (.builtin id) self = pure (.builtin id, [self]))
    (h : wpAny M A (call (.builtin id) (.ref x :: args)) (fun v => Q (some v)) E s) : wpAny M A (callSpecialIfBound? (.ref x) name args) Q E s := by
  simp only [callSpecialIfBound?, bindSpecialIfBound?]
  refine wpAny_holding (wpAny_bind (wpAny_bind (wpAny_bind (I.type.here ((looks_findIn X hs).here ?_)))))
  simp only [hb]
  refine wpAny_bind (wpAny_askSetting (wpAny_ite ?_))
  have fin : wpAny M A (call (.builtin id) ([.ref x] ++ args) >>= fun v => pure (some v)) Q E s := wpAny_bind (wpAny_mono h (fun v s' h' => wpAny_pure h') fun _ _ h' => h')
  split
  · exact wpAny_bind (wpAny_pure (wpAny_pure fin))
  · exact wpAny_tryCatch (wpAny_bind (wpAny_pure (wpAny_pure fin)))
theorem kh_check {M : Model} {id owner n : String} {rest : List Value} {Q : Unit → Shared → Prop} (X : K.In s.heap) (I : InstAt s.heap x ox C od) (ho : subIn K (.ref C) (.type owner) = some true) (hk : builtinKind id = some .slot) (hs : splitId id = some (owner, n))
    (ha : argsOk id ⟨.ref x :: rest, []⟩) (hq : Q () s) : wpAny M A (checkBuiltinCall id ⟨.ref x :: rest, []⟩) Q E s := by
  simp only [checkBuiltinCall, hk, hs]
  have S : Looks M s.heap (isInstance (.ref x) (.type owner)) true := (I.type).andThen (looks_subIn X ho)
  refine wpAny_bind (S.here ?_)
  simp only [Bool.not_true, Bool.false_eq_true, if_false]
  cases hsig : Manifest.signature? id with
  | none => first | exact wpAny_pure hq | exact wpAny_bind (wpAny_pure hq)
  | some sig =>
    simp only [argsOk, hsig] at ha
    have h2 : Bind.checkArgs id sig ⟨.ref x :: rest, []⟩ = pure () := ha
    show wpAny M A (Bind.checkArgs id sig ⟨.ref x :: rest, []⟩) Q E _
    rw [h2]; exact wpAny_pure hq
theorem kh_ne {Q : Value → Shared → Prop} (hu : A.units < cLine) (hu1 : A.in1.units < cLine) (F0 : Fr h₀ L s.heap m) (X₀ : K.In h₀) (I : InstAt s.heap x ox C od) (hb : Looks (model prog w) s.heap (typeOf b) tb) (hn : notFirst K C tb = true)
    (hne : findIn K (.ref C) "__ne__" = some (some (.builtin "object.__ne__"))) (ho : subIn K (.ref C) (.type "object") = some true)
    (hs : findIn K (.ref C) "__eq__" = some (some (.ref f))) (hf : isFn K (.ref f) = true)
    (h : wpAny (model prog w) A.in1 (call (.ref f) [.ref x, b]) (fun v s' => ∃ r, v = .bool r ∧ Q (.bool (!r)) s') E s) : wpAny (model prog w) A (richCompare .NotEq (.ref x) b) Q E s := by
  have X := X₀.keeps F0.keep
  have one : wpAny (model prog w) A (tryCompare (.ref x) "__ne__" b) (fun r s' => ∃ v, r = some v ∧ Q v s') E s := by
    unfold tryCompare
    refine wpAny_bind (kh_ifBoundB X I hne F.cmp_object.ne.bind (wpAny_call (codeAny_call_builtin F.cmp_object.ne.plain F.cmpEntry_ne (kh_check X I ho F.cmpKind_ne F.cmpSplit_ne (F.cmpArgs_ne _ _) ?_))))
    unfold Builtin.«object.__ne__»
    repeat (first
      | with_reducible refine wpAny_cRoomFor hu1 ?_
      | (refine wpAny_bind (m := callSpecialIfBound? (.ref x) (Str.ofString "__eq__") [b]) (ifBound_K X I hs hf (wpAny_mono h (fun r s' hr => ?_) fun _ _ e => e)))
      | wp_step)
    obtain ⟨r, rfl, hq⟩ := hr
    repeat (first | exact hq | exact wpAny_pure hq | exact wpAny_truthy_bool hq | (refine wpAny_bind (m := truthy (.bool _)) (wpAny_truthy_bool ?_)) | wp_step)
    all_goals first | exact ⟨_, rfl, hq⟩ | exact wpAny_pure ⟨_, rfl, hq⟩ | skip
  unfold richCompare
  simp only [oneThing_ref]
  refine wpAny_holding (wpAny_bind (wpAny_cRoomFor hu ?_))
  refine wpAny_bind (I.type.here (wpAny_bind (hb.here ?_)))
  rw [cmpInfo_NotEq]
  dsimp only
  split
  · rename_i q
    have e : subIn K tb (.ref C) = some false := by
      rcases Bool.or_eq_true_iff.mp hn with e | e
      · rw [beq_iff_eq.mp e] at q; simp at q
      · exact beq_iff_eq.mp e
    refine wpAny_bind ((looks_subIn X e).here ?_)
    simp only [Bool.false_eq_true, if_false]
    refine wpAny_bind (wpAny_mono one (fun r s' z => ?_) fun _ _ e => e)
    obtain ⟨v, rfl, hq⟩ := z
    exact wpAny_pure hq
  · refine wpAny_bind (wpAny_pure ?_)
    simp only [Bool.false_eq_true, if_false]
    refine wpAny_bind (wpAny_mono one (fun r s' z => ?_) fun _ _ e => e)
    obtain ⟨v, rfl, hq⟩ := z
    exact wpAny_pure hq
end
end PySem.W

set_option maxRecDepth 100000
set_option maxHeartbeats 2000000
/-! own operators of a class; defs whose promise wants that no repr is under way -/
namespace Kh
open PySem PySem.Spec PyProof.Rows L2
/-- a def's promise, where no repr is under way -/
structure FnG (P : Program) (w : World) (K : PySem.W.Frag) (mg : Str → Option Value) (base : Heap) (k : Nat) (f : Addr) (fd : FuncData) (ps : List Str) (sp : Sp) : Prop where
  len : ∀ vs H Q E, sp vs H Q E → vs.length = ps.length
  run : ∀ (A : Around) (outer : List Env) (s : Shared) (H : Hp) (args : Args) (us : List Value) (vs : List V) (Q : VK) (E : XK), A.guards = some [] → Room k A → Env0 P w K mg base A outer s H → BindsTo s fd args (ps.zip us) → Vals vs us → sp vs H Q E →
    codeAny (model P w) A (.call (.ref f) args) (CR CX0 outer P w H s Q E) s
section
variable {P : Program} {w : World} {K : PySem.W.Frag} {mg : Str → Option Value} {base : Heap}
theorem FnG.of {k : Nat} {f : Addr} {fd : FuncData} {ps : List Str} {sp : Sp} (F : FnOk P w K mg base CX0 k f fd ps sp) : FnG P w K mg base k f fd ps sp := ⟨F.len, fun A outer s H args us vs Q E _ => F.run A outer s H args us vs Q E⟩
theorem FnG.mono {j k : Nat} {f : Addr} {fd : FuncData} {ps : List Str} {sp : Sp} (F : FnG P w K mg base j f fd ps sp) (h : j ≤ k) : FnG P w K mg base k f fd ps sp := ⟨F.len, fun A outer s H args us vs Q E hg hr => F.run A outer s H args us vs Q E hg (hr.mono h)⟩
/-- the rule for a def, as Fun.ok -/
theorem fun_okG {x qual : Str} {st : Stmt} {f : Addr} {fd : FuncData} {N ps : List Str} {k : Nat} {sp : Sp} (F : Fun K x qual st f fd) (S : FnScope N ps (defScope st)) (len : ∀ vs H Q E, sp vs H Q E → vs.length = ps.length)
    (hbody : ∀ (cdv : Value) (A : Around) (outer : List Env) (s : Shared) (H : Hp) (vs : List V) (Q : VK) (E : XK), (A.deeper (envOfC qual (defScope st) s.heap.objs.size f cdv)).guards = some [] → Room k (A.deeper (envOfC qual (defScope st) s.heap.objs.size f cdv)) → sp vs H Q E →
      ∃ t, PSs (cxOf CX0 P w K mg base N qual (defScope st) f cdv A outer s H E).nox (defBody st) t ∧ t { nx := fun _ H' => Q .non H', rt := Q } (start N vs) H) : FnG P w K mg base (k + 1) f fd ps sp := by
  obtain ⟨oc, od, kV, doc, pm, an, cdv, ct, osl, rfl, lk, hcd⟩ := F.ex
  refine ⟨len, fun A outer s H args us vs Q E hg hr z0 hb r hsp => ?_⟩
  have hlen := len _ _ _ _ hsp
  have KI : K.In s.heap := z0.mod.kin.keeps fun b o e => (z0.bs b o e).1
  have noL : s.heap.NoLimit := z0.mod.nolimit.keeps fun b o e => (z0.bs b o e).1
  have kinds : ∀ y ∈ ps.zip us, (defScope st).names.lookup y.1 = some .local ∨ ((defScope st).names.lookup y.1 = some .cell ∧ ((cellsFrom (s.heap.objs.size + 1) (defScope st).names []).lookup y.1).isSome = true) := by
    rintro ⟨n, v⟩ hy
    rcases S.par n (List.of_mem_zip hy).1 with c | c
    · exact Or.inl c
    · exact Or.inr ⟨c, PySem.W.cellsFrom_some _ _ _ (Or.inl c)⟩
  refine codeAny_call_function hr.depth (KI _ _ lk) rfl S.co S.gen rfl (PySem.W.codeRec_of KI hcd) (hb _ _ _ _ ?_)
  refine wpAny_newFunctionEnv_cells S.kind kinds fun env ev s1 xc => ?_
  subst ev
  refine ⟨noL.keeps xc.toInCall.keep, codeAny_func ?_⟩
  obtain ⟨t, ht, hq⟩ := hbody cdv A outer s H vs Q E hg (hr.deeper _) hsp
  have start0 : Inv (cxOf CX0 P w K mg base N qual (defScope st) f cdv A outer s H E) [] (start N vs) H s1 := inv_start S hr.hd z0 hlen r xc
  refine wpAny_mono (ht.nox.run [] s1 (start N vs) H _ start0 hq) (fun fl s' hs => ?_) fun e s' hs => hs
  have ended : ∀ {ρ : L2.St} {H2 : Hp} {v : V} {u : Value}, Inv (cxOf CX0 P w K mg base N qual (defScope st) f cdv A outer s H E) [] ρ H2 s' → RelV v u → Q v H2 → CE outer P w H s Q u s' :=
    fun {ρ H2 v u} J rv q => ⟨v, H2, J.os, J.bare, J.base, J.hok, rv, q⟩
  cases fl with
  | ret u =>
    obtain ⟨v, ρ, H2, J, rv, q⟩ := hs
    exact ended J rv q
  | next =>
    obtain ⟨ρ, H2, J, q⟩ := hs
    exact ended (v := V.non) (u := Value.none) J rfl q
  | brk => obtain ⟨_, _, _, q⟩ := hs; exact q.elim
  | cont => obtain ⟨_, _, _, q⟩ := hs; exact q.elim
end
/-- the callee can be run from this body, at every state below it -/
def Runs (X : Cx) (k : Nat) (f : Addr) (sp : Sp) : Prop := ∀ (A : Around) (pins : List (Addr × Obj)) (σ : L2.St) (H : Hp) (s : Shared) (us : List Value) (vs : List V) (Q : VK) (E' : Value → Shared → Prop), A.frames = X.A.frames → A.guards = X.A.guards → Room k A →
  Inv X pins σ H s → Vals vs us → sp vs H Q E0 → wpAny (model X.prog X.w) A (call (.ref f) us) (EP X pins σ Q) E' s
section
variable {X : Cx} {k : Nat} {f : Addr} {fd : FuncData} {ps : List Str} {sp : Sp}
theorem runsG (F : FnG X.prog X.w X.K X.mg X.base k f fd ps sp) (hg : X.A.guards = some []) (hb : Binds X.K fd ps []) : Runs X k f sp := by
  intro A pins σ H s us vs Q E' fr gd hr I r h
  have hl : us.length = ps.length := by rw [← r.length]; exact F.len _ _ _ _ h
  have e0 : Env0 X.prog X.w X.K X.mg X.base A X.stack s H := by
    have e := I.env0
    exact ⟨by rw [fr]; exact e.frames, e.mod, e.bs, e.bsz, e.funs, e.frf, e.hok, e.bare⟩
  refine wpAny_call (codeAny_mono (F.run A X.stack s H ⟨us, []⟩ us vs Q E0 (gd.trans hg) hr e0 (by simpa using hb s us I.kIn (by simpa using hl)) r h) fun r s' hq => ?_)
  cases r with
  | error e => exact (show False from hq).elim
  | ok fl =>
    cases fl with
    | ret w => exact I.after hq
    | next => exact (show False from hq).elim
    | brk => exact (show False from hq).elim
    | cont => exact (show False from hq).elim
theorem runsOk (F : FnOk X.prog X.w X.K X.mg X.base CX0 k f fd ps sp) (hb : Binds X.K fd ps []) : Runs X k f sp := by
  intro A pins σ H s us vs Q E' fr gd hr I r h
  have hl : us.length = ps.length := by rw [← r.length]; exact F.len _ _ _ _ h
  have e0 : Env0 X.prog X.w X.K X.mg X.base A X.stack s H := by
    have e := I.env0
    exact ⟨by rw [fr]; exact e.frames, e.mod, e.bs, e.bsz, e.funs, e.frf, e.hok, e.bare⟩
  refine wpAny_call (codeAny_mono (F.run A X.stack s H ⟨us, []⟩ us vs Q E0 hr e0 (by simpa using hb s us I.kIn (by simpa using hl)) r h) fun r s' hq => ?_)
  cases r with
  | error e => exact (show False from hq).elim
  | ok fl =>
    cases fl with
    | ret w => exact I.after hq
    | next => exact (show False from hq).elim
    | brk => exact (show False from hq).elim
    | cont => exact (show False from hq).elim
theorem Runs.imp {sp' : Sp} (R : Runs X k f sp) (h : ∀ vs H Q, sp' vs H Q E0 → sp vs H Q E0) : Runs X k f sp' := fun A pins σ H s us vs Q E' fr gd hr I r q => R A pins σ H s us vs Q E' fr gd hr I r (h _ _ _ q)
/-- f(..) of such a def -/
theorem pe_callG {p pos : Pos} {x : Str} {e : Expr} {es : List Expr} {t : TA} (R : Runs X k f sp) (hr : Room k X.A) (hg : Gl X x) (hm : X.mg x = some (.ref f)) (hk : PySem.W.keepIn X.K (.ref f) = true) (ha : PA X (e :: es) t)
    (hdb : (x == ("__debug__" : Str)) = false := by decide) (he : starEach (e :: es) X.env = (false, eval e X.env) :: starEach es X.env := by rfl) (hpl : (backTo pos (starEach es X.env)).any (·.1) = false := by rfl) :
    PE X (.Call (.Name x p) (e :: es) [] pos) (tCall sp [] E0 t) := by
  refine ⟨fun pins s σ H Q I h => ?_⟩
  have h' : t σ H fun vs H1 => sp vs H1 Q E0 := by
    have e : (fun (vs : List V) (H1 : Hp) => sp (vs ++ []) H1 Q E0) = fun vs H1 => sp vs H1 Q E0 := by funext vs H1; rw [List.append_nil]
    rw [← e]; exact h
  refine wpAny_Call_Name_kw (ld_glob I hg hm ?_ hdb)
  refine PySem.W.callWith_K (h₀ := X.base) I.ok.mod.kin hk (thn (ha.run pos pins s σ H _ I h') fun us s1 ⟨vs, H1, I1, r, q⟩ => ⟨I1.kIn, ?_⟩) he hpl
  exact R X.A pins σ H1 s1 us vs Q X.xe rfl rfl hr I1 r q
/-! own operators -/
def isI (H : Hp) (C : Addr) (x : V) : Prop := ∃ a dx fs, x = .ref a ∧ H a = some (.ins C dx fs)
def rLenI (C : Addr) (sp : Sp) : List V → Hp → VK → Prop := fun xs H Q => ∃ x, xs = [x] ∧ isI H C x ∧ sp [x] H (fun v H' => ∃ n : Nat, v = .int n ∧ n < 2 ^ 62 ∧ Q (.int n) H') E0
theorem call_lenI {C : Addr} (R : Runs X k f sp) (hr : Room (k + 1) X.A) (M : Meth X.K C "__len__" f) : CallR X (.builtin "len") (rLenI C sp) := by
  intro pins s σ H xs us Q I r h
  obtain ⟨_, rfl, ⟨a, dx, fs, rfl, ha⟩, hs⟩ := h
  obtain ⟨u, rfl, ru⟩ := r.one
  cases ru
  obtain ⟨mA, J, _⟩ := ins_get I.hok ha
  obtain ⟨od, J, _⟩ := J.look
  obtain ⟨m, hF⟩ := I.fr
  refine PySem.W.len_K hF I.ok.mod.kin J M.at_ M.fn (wpAny_mono (R X.A.in1 pins σ H s [.ref a] [.ref a] _ X.xe rfl rfl hr.in1 I (.cons rfl .nil) hs) (fun r s' q => ?_) fun _ _ z => z)
  obtain ⟨v, H', I', rv, n, rfl, hn, q⟩ := q
  obtain ⟨tk, rfl⟩ := rv
  exact ⟨⟨by omega, by omega⟩, .int n, H', I'.tok _, ⟨_, rfl⟩, q⟩
def rInI (C : Addr) (sp : Sp) : R2 := fun x y H Q => isI H C y ∧ sp [y, x] H (fun v H' => ∃ b, v = .bl b ∧ Q (.bl b) H') E0
theorem op_inI {C : Addr} (R : Runs X k f sp) (hr : Room k X.A) (M : Meth X.K C "__contains__" f) : OpR X (compareOp .In) (rInI C sp) := by
  intro pins s σ H x y v u Q I rx ry h
  obtain ⟨⟨a, dx, fs, rfl, ha⟩, hs⟩ := h
  cases ry
  obtain ⟨mA, J, _⟩ := ins_get I.hok ha
  obtain ⟨od, J, _⟩ := J.look
  obtain ⟨m, hF⟩ := I.fr
  refine PySem.W.in_K hF I.ok.mod.kin J M.at_ M.fn (wpAny_mono (R X.A pins σ H s [.ref a, v] [.ref a, x] _ X.xe rfl rfl hr I (.cons rfl (.cons rx .nil)) hs) (fun r s' q => ?_) fun _ _ z => z)
  obtain ⟨z, H', I', rv, b, rfl, q⟩ := q
  cases rv
  exact wpAny_truthy_bool ⟨.bl b, H', I', rfl, q⟩
def rUnI (C : Addr) (sp : Sp) : V → Hp → VK → Prop := fun x H Q => isI H C x ∧ sp [x] H Q E0
theorem un_invI {C : Addr} (R : Runs X k f sp) (hr : Room k X.A) (M : Meth X.K C "__invert__" f) : UnR X (unaryOp .Invert) (rUnI C sp) := by
  intro pins s σ H x v Q I rx h
  obtain ⟨⟨a, dx, fs, rfl, ha⟩, hs⟩ := h
  cases rx
  obtain ⟨mA, J, _⟩ := ins_get I.hok ha
  obtain ⟨od, J, _⟩ := J.look
  obtain ⟨m, hF⟩ := I.fr
  exact PySem.W.ksp_inv hF I.ok.mod.kin J M.at_ M.fn (R X.A pins σ H s [.ref a] [.ref a] _ X.xe rfl rfl hr I (.cons rfl .nil) hs)
def notNI : V → Prop := fun _ => True
/-- an operator of two objects of the class -/
def rBinI (C : Addr) (sp : Sp) : R2 := fun x y H Q => isI H C x ∧ isI H C y ∧ sp [x, y] H Q E0
theorem back_of {Q : VK} {pins : List (Addr × Obj)} {σ : L2.St} {v : Value} {s' : Shared} (h : EP X pins σ Q v s') : PySem.W.CmpBack (EP X pins σ Q) v s' := by
  cases v <;> first | exact h | skip
  obtain ⟨v, H', I', rv, q⟩ := h
  cases v <;> first | (cases rv; done) | (obtain ⟨_, rv⟩ := rv; cases rv; done) | (exact (nomatch rv))
theorem op_binI {C : Addr} {op : Operator} (R : Runs X k f sp) (hr : Room k X.A) (hc : PySem.W.selfFirst X.K C = true) (M : Meth X.K C (PySem.dunder op.info.2) f) : OpR X (binaryOp op) (rBinI C sp) := by
  intro pins s σ H x y v u Q I rx ry h
  obtain ⟨⟨a, dx, fs, rfl, ha⟩, ⟨b, dy, gs, rfl, hb⟩, hs⟩ := h
  cases rx
  cases ry
  obtain ⟨mA, J, _⟩ := ins_get I.hok ha
  obtain ⟨od, J, _⟩ := J.look
  obtain ⟨mB, J2, _⟩ := ins_get I.hok hb
  obtain ⟨od2, J2, _⟩ := J2.look
  obtain ⟨m, hF⟩ := I.fr
  exact PySem.W.binop_K hF I.ok.mod.kin J J2.type hc M.at_ M.fn (wpAny_mono (R X.A pins σ H s [.ref a, .ref b] [.ref a, .ref b] _ X.xe rfl rfl hr I (.cons rfl (.cons rfl .nil)) hs) (fun r s' q => back_of q) fun _ _ z => z)
/-- an own ==: the other one of any type that is told -/
def tyOk (K : PySem.W.Frag) (H : Hp) (C : Addr) (y : V) : Prop := isI H C y ∨ (∃ n, TyX K H y (.type n) ∧ PySem.W.notFirst K C (.type n) = true)
theorem looks_ty {C : Addr} {pins : List (Addr × Obj)} {σ : L2.St} {H : Hp} {s : Shared} {y : V} {u : Value} (I : Inv X pins σ H s) (ry : RelV y u) (h : tyOk X.K H C y) : ∃ tb, PySem.W.Looks (model X.prog X.w) s.heap (typeOf u) tb ∧ PySem.W.notFirst X.K C tb = true := by
  rcases h with ⟨b, dy, gs, rfl, hb⟩ | ⟨n, ty, hn⟩
  · cases ry
    obtain ⟨mB, J2, _⟩ := ins_get I.hok hb
    obtain ⟨od2, J2, _⟩ := J2.look
    exact ⟨.ref C, J2.type, by simp [PySem.W.notFirst]⟩
  · obtain ⟨P, Z, p, _⟩ := kit_of I ry ty
    exact ⟨.type n, Z.ty _ _ I.kIn p, hn⟩
def rEqI (C : Addr) (K : PySem.W.Frag) (sp : Sp) : R2 := fun x y H Q => isI H C x ∧ tyOk K H C y ∧ sp [x, y] H Q E0
theorem op_eqI {C : Addr} (R : Runs X k f sp) (hr : Room k X.A) (M : Meth X.K C "__eq__" f) : OpR X (compareOp .Eq) (rEqI C X.K sp) := by
  intro pins s σ H x y v u Q I rx ry h
  obtain ⟨⟨a, dx, fs, rfl, ha⟩, ty, hs⟩ := h
  cases rx
  obtain ⟨mA, J, _⟩ := ins_get I.hok ha
  obtain ⟨od, J, _⟩ := J.look
  obtain ⟨m, hF⟩ := I.fr
  obtain ⟨tb, hb, hn⟩ := looks_ty I ry ty
  exact PySem.W.cmp_K (op := .Eq) hr.units0 hF I.ok.mod.kin J hb hn M.at_ M.fn (wpAny_mono (R X.A pins σ H s [.ref a, u] [.ref a, y] _ X.xe rfl rfl hr I (.cons rfl (.cons ry .nil)) hs) (fun r s' q => back_of q) fun _ _ z => z)
def rNeI (C : Addr) (K : PySem.W.Frag) (sp : Sp) : R2 := fun x y H Q => isI H C x ∧ tyOk K H C y ∧ sp [x, y] H (fun v H' => ∃ b, v = .bl b ∧ Q (.bl (!b)) H') E0
theorem op_neI {C : Addr} (R : Runs X k f sp) (hr : Room (k + 1) X.A) (M : Meth X.K C "__eq__" f) (hne : PySem.W.findIn X.K (.ref C) "__ne__" = some (some (.builtin "object.__ne__"))) (ho : PySem.W.subIn X.K (.ref C) (.type "object") = some true) :
    OpR X (compareOp .NotEq) (rNeI C X.K sp) := by
  intro pins s σ H x y v u Q I rx ry h
  obtain ⟨⟨a, dx, fs, rfl, ha⟩, ty, hs⟩ := h
  cases rx
  obtain ⟨mA, J, _⟩ := ins_get I.hok ha
  obtain ⟨od, J, _⟩ := J.look
  obtain ⟨m, hF⟩ := I.fr
  obtain ⟨tb, hb, hn⟩ := looks_ty I ry ty
  refine PySem.W.kh_ne hr.units0 hr.in1.units0 hF I.ok.mod.kin J hb hn hne ho M.at_ M.fn (wpAny_mono (R X.A.in1 pins σ H s [.ref a, u] [.ref a, y] _ X.xe rfl rfl hr.in1 I (.cons rfl (.cons ry .nil)) hs) (fun r s' q => ?_) fun _ _ z => z)
  obtain ⟨z, H', I', rv, b, rfl, q⟩ := q
  cases rv
  exact ⟨b, rfl, .bl (!b), H', I', rfl, q⟩
def rReprI (C : Addr) (sp : Sp) : List V → Hp → VK → Prop := fun xs H Q => ∃ x, xs = [x] ∧ isI H C x ∧ sp [x] H (fun v H' => ∃ y, v = .str y ∧ Q (.str y) H') E0
theorem call_reprI {C : Addr} (R : Runs X k f sp) (hr : Room (k + 1) X.A) (M : Meth X.K C "__repr__" f) : CallR X (.builtin "repr") (rReprI C sp) := by
  intro pins s σ H xs us Q I r h
  obtain ⟨_, rfl, ⟨a, dx, fs, rfl, ha⟩, hs⟩ := h
  obtain ⟨u, rfl, ru⟩ := r.one
  cases ru
  obtain ⟨mA, J, _⟩ := ins_get I.hok ha
  obtain ⟨od, J, _⟩ := J.look
  obtain ⟨m, hF⟩ := I.fr
  refine PySem.W.repr_K hr.in1.units0 hF I.ok.mod.kin J M.at_ M.fn (wpAny_mono (R X.A.in1 pins σ H s [.ref a] [.ref a] _ X.xe rfl rfl hr.in1 I (.cons rfl .nil) hs) (fun r s' q => ?_) fun _ _ z => z)
  obtain ⟨v, H', I', rv, n, rfl, q⟩ := q
  obtain ⟨tk, rfl⟩ := rv
  exact ⟨.str n, H', I', ⟨_, rfl⟩, q⟩
end
end Kh

set_option maxRecDepth 100000
set_option maxHeartbeats 2000000
/-! data that can be told and compared -/
namespace Kh
open PySem PySem.Spec PyProof.Rows L2
/-- short, not deep, no dict -/
structure Nice (n m : Nat) (d : PyData) : Prop where
  sh : d.leavesShort 8 = true
  wt : d.weight ≤ n
  dp : d.depth ≤ m
  sw : d.showable = true
  nd : d.hasDict = false
  cl : d.canLay0 = true
structure NiceA (n m : Nat) (ds : List PyData) : Prop where
  sh : PyData.leavesShortAll 8 ds = true
  wt : PyData.weightAll ds ≤ n
  dp : PyData.depthAll ds ≤ m
  sw : PyData.showableAll ds = true
  nd : PyData.hasDictAll ds = false
  cl : PyData.canLayAll0 ds = true
theorem Nice.mono {n m n' m' : Nat} {d : PyData} (h : Nice n m d) (hn : n ≤ n') (hm : m ≤ m') : Nice n' m' d := ⟨h.sh, Nat.le_trans h.wt hn, Nat.le_trans h.dp hm, h.sw, h.nd, h.cl⟩
theorem NiceA.mono {n m n' m' : Nat} {d : List PyData} (h : NiceA n m d) (hn : n ≤ n') (hm : m ≤ m') : NiceA n' m' d := ⟨h.sh, Nat.le_trans h.wt hn, Nat.le_trans h.dp hm, h.sw, h.nd, h.cl⟩
theorem nice_none : Nice 0 0 .none := ⟨by simp [PyData.leavesShort], by simp [PyData.weight], by simp [PyData.depth], by simp [PyData.showable], by simp [PyData.hasDict], by simp [PyData.canLay0]⟩
theorem nice_bool (b : Bool) : Nice 0 0 (.bool b) := ⟨by simp [PyData.leavesShort], by simp [PyData.weight], by simp [PyData.depth], by simp [PyData.showable], by simp [PyData.hasDict], by simp [PyData.canLay0]⟩
def smallI (n : Nat) : Bool := decide ((PyData.shown (.int (n : Nat))).length ≤ 8) && (PyData.shown (.int (n : Nat))).cps.toList.all (fun c => decide (c < 1114112)) && decide (((n : Nat) : Int).natAbs.log2 < 100)
theorem small_all : ((List.range 256).all smallI) = true := by decide +kernel
theorem small_one {n : Nat} (h : n < 256) : smallI n = true := (List.all_eq_true.mp small_all) n (List.mem_range.mpr h)
theorem nice_int {n : Nat} (h : n < 256) : Nice 100 0 (.int (n : Nat)) := by
  have q := small_one h
  unfold smallI at q
  obtain ⟨q1, q3⟩ := Bool.and_eq_true_iff.mp q
  obtain ⟨q1, q2⟩ := Bool.and_eq_true_iff.mp q1
  have q3 := of_decide_eq_true q3
  refine ⟨by rw [PyData.leavesShort]; exact q1, ?_, by simp [PyData.depth], ?_, by simp [PyData.hasDict], by simp [PyData.canLay0]⟩
  · rw [PyData.weight]; split <;> omega
  · rw [PyData.showable]; exact decide_eq_true (Nat.lt_of_lt_of_le q3 (by decide))
theorem nice_str {x : Str} {n : Nat} (h1 : ∀ c ∈ x.cps.toList, c < 1114112) (h2 : x.cps.size ≤ n) (h3 : PyData.strOk x = true) : Nice n 0 (.str x) :=
  ⟨by rw [PyData.leavesShort, List.all_eq_true]; exact fun c hc => decide_eq_true (Nat.lt_of_lt_of_le (h1 c hc) (by decide)), by rw [PyData.weight]; exact h2, by simp [PyData.depth], by simp [PyData.showable], by simp [PyData.hasDict], by rw [PyData.canLay0]; exact h3⟩
theorem niceA_nil : NiceA 0 0 [] := ⟨by simp [PyData.leavesShortAll], by simp [PyData.weightAll], by simp [PyData.depthAll], by simp [PyData.showableAll], by simp [PyData.hasDictAll], by simp [PyData.canLayAll0]⟩
theorem niceA_cons {n n' m : Nat} {d : PyData} {ds : List PyData} (h : Nice n m d) (t : NiceA n' m ds) : NiceA (n + 1 + n') m (d :: ds) := by
  refine ⟨?_, ?_, ?_, ?_, ?_, ?_⟩
  · rw [PyData.leavesShortAll, h.sh, t.sh]; rfl
  · rw [PyData.weightAll]; have := h.wt; have := t.wt; omega
  · rw [PyData.depthAll]; exact Nat.max_le.mpr ⟨h.dp, t.dp⟩
  · rw [PyData.showableAll, h.sw, t.sw]; rfl
  · rw [PyData.hasDictAll, h.nd, t.nd]; rfl
  · rw [PyData.canLayAll0, h.cl, t.cl]; rfl
theorem nice_list {n m : Nat} {ds : List PyData} (h : NiceA n m ds) : Nice n (m + 1) (.list ds) :=
  ⟨by rw [PyData.leavesShort]; exact h.sh, by rw [PyData.weight]; exact h.wt, by rw [PyData.depth]; exact Nat.succ_le_succ h.dp, by rw [PyData.showable]; exact h.sw, by rw [PyData.hasDict]; exact h.nd, by rw [PyData.canLay0]; exact h.cl⟩
theorem nice_tup {n m : Nat} {ds : List PyData} (h : NiceA n m ds) : Nice n (m + 1) (.tuple ds) :=
  ⟨by rw [PyData.leavesShort]; exact h.sh, by rw [PyData.weight]; exact h.wt, by rw [PyData.depth]; exact Nat.succ_le_succ h.dp, by rw [PyData.showable]; exact h.sw, by rw [PyData.hasDict]; exact h.nd, by rw [PyData.canLay0]; exact h.cl⟩
theorem nice_sq {n m : Nat} {b : Bool} {ds : List PyData} (h : NiceA n m ds) : Nice n (m + 1) (sq b ds) := by
  cases b with
  | true => exact nice_tup h
  | false => exact nice_list h
theorem niceA_map {α : Type} {f : α → PyData} {g : α → Nat} {m : Nat} : ∀ l : List α, (∀ x ∈ l, Nice (g x) m (f x)) → NiceA ((l.map fun x => g x + 1).sum) m (l.map f)
  | [], _ => niceA_nil.mono (Nat.le_refl _) (Nat.zero_le _)
  | x :: l, h => by
    have h1 := niceA_cons (h x List.mem_cons_self) (niceA_map l fun y hy => h y (List.mem_cons_of_mem _ hy))
    rw [List.map_cons, List.map_cons, List.sum_cons]; exact h1
theorem Nice.fits {n m : Nat} {d : PyData} (h : Nice n m d) (hn : n ≤ 1000000) : d.shown.length ≤ sizeLine := PyData.shown_fits (B := 8) (by decide) (by decide) h.sh (Nat.le_trans h.wt (Nat.le_trans hn (by decide)))
theorem Nice.shaped {n m : Nat} {d : PyData} (h : Nice n m d) (hm : m ≤ 64) : SeqAt.shaped d = true := by
  unfold SeqAt.shaped
  rw [h.cl, decide_eq_true (Nat.le_trans h.dp hm)]; rfl
/-- trees -/
theorem nice_tree : ∀ (t : T) (d : Nat), Wf t → (∀ n ∈ lv t, n < 24) → dep t ≤ d → (lv t).length ≤ 100 → Nice (siz t * 300) (2 * d) (tD t) := by
  intro t
  refine T.ind (P := fun t => ∀ d, Wf t → (∀ n ∈ lv t, n < 24) → dep t ≤ d → (lv t).length ≤ 100 → Nice (siz t * 300) (2 * d) (tD t)) (fun n d wf _ _ _ => ?_) (fun b k ps ih d wf hl dp hlen => ?_) t
  · rw [tD_leaf]
    have : n < 24 := by rw [Wf] at wf; exact wf
    exact (nice_int (by omega)).mono (by rw [siz]; omega) (Nat.zero_le _)
  · cases d with
    | zero => exact absurd dp (dep_gate0 b k ps)
    | succ d =>
      obtain ⟨k1, k2, wfs⟩ := (wf_gate b k ps).mp wf
      have dps := (dep_gate b k ps).mp dp
      rw [lv_gate] at hl hlen
      have lp : ∀ p ∈ ps, ∀ n ∈ lv p, n ∈ ps.flatMap lv := fun p hp n hn => List.mem_flatMap.mpr ⟨p, hp, hn⟩
      have ll : ∀ p ∈ ps, (lv p).length ≤ (ps.flatMap lv).length := fun p hp => by
        obtain ⟨s, t, rfl⟩ := List.append_of_mem hp
        rw [List.flatMap_append, List.flatMap_cons, List.length_append, List.length_append]; omega
      have pos : ∀ t, Wf t → 1 ≤ (lv t).length := T.ind (fun n _ => by rw [lv_leaf]; exact Nat.le_refl _) fun b k ps ih h => by
        obtain ⟨h1, h2, h3⟩ := (wf_gate b k ps).mp h
        cases ps with
        | nil => simp at h2; omega
        | cons p r =>
          rw [lv_gate, List.flatMap_cons, List.length_append]
          have := ih p List.mem_cons_self (h3 p List.mem_cons_self)
          omega
      have len : ∀ qs : List T, (∀ p ∈ qs, p ∈ ps) → qs.length ≤ (qs.flatMap lv).length := by
        intro qs
        induction qs with
        | nil => intro _; exact Nat.zero_le _
        | cons p r ih2 =>
          intro hq
          rw [List.flatMap_cons, List.length_append, List.length_cons]
          have h1 := pos p (wfs p (hq p List.mem_cons_self))
          have h2 := ih2 fun q h => hq q (List.mem_cons_of_mem _ h)
          omega
      have hlen2 := len ps fun p h => h
      have sumE : ∀ qs : List T, (qs.map fun x => siz x * 300 + 1).sum = sizs qs * 300 + qs.length := by
        intro qs
        induction qs with
        | nil => simp [sizs]
        | cons p r ih2 => rw [List.map_cons, List.sum_cons, ih2, sizs, List.length_cons, Nat.add_mul]; omega
      have parts := niceA_map (f := tD) (g := fun p => siz p * 300) (m := 2 * d) ps fun p hp => ih p hp d (wfs p hp) (fun n hn => hl n (lp p hp n hn)) (dps p hp) (Nat.le_trans (ll p hp) hlen)
      rw [sumE] at parts
      rw [tD_gate]
      have h1 := (nice_str (x := "of") (n := 2) (by decide) (by decide) (by decide +kernel)).mono (Nat.le_refl 2) (Nat.zero_le (2 * d + 1))
      have h2 := (nice_int (n := k) (by omega)).mono (Nat.le_refl 100) (Nat.zero_le (2 * d + 1))
      have all := niceA_cons h1 (niceA_cons h2 (niceA_cons (nice_sq (b := b) parts) (niceA_nil.mono (Nat.le_refl 0) (Nat.zero_le (2 * d + 1)))))
      have e : siz (.gate b k ps) = 1 + sizs ps := by rw [siz]
      refine (nice_tup all).mono ?_ (by omega)
      rw [e]; omega
/-! what is told has ordinary signs -/
def okS (x : Str) : Prop := ∀ c ∈ x.cps.toList, c < 1114112
theorem okS_ok {x : Str} (h : okS x) : PyData.strOk x = true := by
  unfold PyData.strOk
  rw [Array.all_eq_true]
  intro i hi
  exact decide_eq_true (h _ (by rw [← Array.getElem_toList hi]; exact List.getElem_mem _))
theorem nice_okS {x : Str} {n : Nat} (h : okS x) (h2 : x.cps.size ≤ n) : Nice n 0 (.str x) := nice_str h h2 (okS_ok h)
theorem okS_app {x y : Str} (h : okS x) (g : okS y) : okS (x ++ y) := fun c hc => by
  rw [show (x ++ y).cps = x.cps ++ y.cps from rfl, Array.toList_append] at hc
  rcases List.mem_append.mp hc with hc | hc
  · exact h c hc
  · exact g c hc
theorem okS_from : ∀ (ts : List Str) (k : Nat) (acc : Str), okS acc → (∀ t ∈ ts, okS t) → okS (textFrom k acc ts)
  | [], _, _, h, _ => h
  | t :: ts, k, acc, h, g => by
    refine okS_from ts (k + 1) _ (okS_app (okS_app h ?_) (g t List.mem_cons_self)) fun u hu => g u (List.mem_cons_of_mem _ hu)
    split
    · show okS ", "; exact (by unfold okS; decide)
    · show okS ""; exact (by unfold okS; decide)
theorem okS_join : ∀ (ts : List Str), (∀ t ∈ ts, okS t) → okS (Str.join ", " ts)
  | [], _ => by unfold okS; decide
  | [x], h => h x List.mem_cons_self
  | x :: y :: r, h => by
    show okS (x ++ (", " : Str) ++ Str.join ", " (y :: r))
    exact okS_app (okS_app (h x List.mem_cons_self) (by unfold okS; decide)) (okS_join (y :: r) fun u hu => h u (List.mem_cons_of_mem _ hu))
theorem okS_list {ts : List Str} (h : ∀ t ∈ ts, okS t) : okS (listText ts) := okS_app (okS_from ts 0 _ (by unfold okS; decide) h) (by unfold okS; decide)
theorem okS_tup {ts : List Str} (h : ∀ t ∈ ts, okS t) : okS (tupleText ts) := by
  unfold tupleText
  refine okS_app (okS_app (by unfold okS; decide) (okS_join ts h)) ?_
  split
  · show okS ",)"; unfold okS; decide
  · show okS ")"; unfold okS; decide
theorem shownAll_mem : ∀ {ds : List PyData} {x : Str}, x ∈ PyData.shownAll ds → ∃ d ∈ ds, x = PyData.shown d
  | [], _, h => by rw [PyData.shownAll] at h; cases h
  | d :: ds, x, h => by
    rw [PyData.shownAll] at h
    rcases List.mem_cons.mp h with rfl | h
    · exact ⟨d, List.mem_cons_self, rfl⟩
    · obtain ⟨e, he, rfl⟩ := shownAll_mem h
      exact ⟨e, List.mem_cons_of_mem _ he, rfl⟩
theorem okS_int {n : Nat} (h : n < 256) : okS (PyData.shown (.int (n : Nat))) := by
  have q := small_one h
  unfold smallI at q
  obtain ⟨q1, q3⟩ := Bool.and_eq_true_iff.mp q
  obtain ⟨q1, q2⟩ := Bool.and_eq_true_iff.mp q1
  exact fun c hc => of_decide_eq_true (List.all_eq_true.mp q2 c hc)
theorem tpos : ∀ t, Wf t → 1 ≤ (lv t).length := T.ind (fun n _ => by rw [lv_leaf]; exact Nat.le_refl _) fun b k ps ih h => by
  obtain ⟨h1, h2, h3⟩ := (wf_gate b k ps).mp h
  cases ps with
  | nil => simp at h2; omega
  | cons p r =>
    rw [lv_gate, List.flatMap_cons, List.length_append]
    have := ih p List.mem_cons_self (h3 p List.mem_cons_self)
    omega
theorem tlen : ∀ ps : List T, (∀ p ∈ ps, Wf p) → ps.length ≤ (ps.flatMap lv).length
  | [], _ => Nat.zero_le _
  | p :: r, h => by
    rw [List.flatMap_cons, List.length_append, List.length_cons]
    have h1 := tpos p (h p List.mem_cons_self)
    have h2 := tlen r fun q hq => h q (List.mem_cons_of_mem _ hq)
    omega
theorem tpart {ps : List T} {p : T} (hp : p ∈ ps) : (lv p).length ≤ (ps.flatMap lv).length := by
  obtain ⟨s, t, rfl⟩ := List.append_of_mem hp
  rw [List.flatMap_append, List.flatMap_cons, List.length_append, List.length_append]; omega
theorem okS_tree : ∀ t : T, Wf t → (lv t).length ≤ 100 → okS (PyData.shown (tD t)) := by
  intro t
  refine T.ind (P := fun t => Wf t → (lv t).length ≤ 100 → okS (PyData.shown (tD t))) (fun n wf _ => ?_) (fun b k ps ih wf hlen => ?_) t
  · rw [tD_leaf]
    have : n < 24 := by rw [Wf] at wf; exact wf
    exact okS_int (by omega)
  · obtain ⟨k1, k2, wfs⟩ := (wf_gate b k ps).mp wf
    rw [lv_gate] at hlen
    have hl := tlen ps wfs
    have parts : ∀ x ∈ PyData.shownAll (ps.map tD), okS x := fun x hx => by
      obtain ⟨d, hd, rfl⟩ := shownAll_mem hx
      obtain ⟨p, hp, rfl⟩ := List.mem_map.mp hd
      exact ih p hp (wfs p hp) (Nat.le_trans (tpart hp) hlen)
    rw [tD_gate, PyData.shown]
    refine okS_tup fun x hx => ?_
    obtain ⟨d, hd, rfl⟩ := shownAll_mem hx
    rcases List.mem_cons.mp hd with rfl | hd
    · rw [PyData.shown]; unfold okS; decide +kernel
    rcases List.mem_cons.mp hd with rfl | hd
    · exact okS_int (by omega)
    rcases List.mem_cons.mp hd with rfl | hd
    · cases b with
      | true => show okS (PyData.shown (.tuple _)); rw [PyData.shown]; exact okS_tup parts
      | false => show okS (PyData.shown (.list _)); rw [PyData.shown]; exact okS_list parts
    · cases hd
/-! equal data of trees -/
theorem eqvAll_refl : ∀ {ds : List PyData}, (∀ d ∈ ds, PyData.eqv d d = true) → PyData.eqvAll ds ds = true
  | [], _ => by rw [PyData.eqvAll]
  | d :: ds, h => by rw [PyData.eqvAll, h d List.mem_cons_self, eqvAll_refl fun e he => h e (List.mem_cons_of_mem _ he)]; rfl
theorem eqv_int (i : Int) : PyData.eqv (.int i) (.int i) = true := by rw [PyData.eqv]; exact beq_self_eq_true i
theorem eqv_str (x : Str) : PyData.eqv (.str x) (.str x) = true := by rw [PyData.eqv]; exact beq_self_eq_true x
theorem eqv_bool (b : Bool) : PyData.eqv (.bool b) (.bool b) = true := by rw [PyData.eqv]; exact beq_self_eq_true b
theorem eqv_list {ds : List PyData} (h : ∀ d ∈ ds, PyData.eqv d d = true) : PyData.eqv (.list ds) (.list ds) = true := by rw [PyData.eqv]; exact eqvAll_refl h
theorem eqv_tup {ds : List PyData} (h : ∀ d ∈ ds, PyData.eqv d d = true) : PyData.eqv (.tuple ds) (.tuple ds) = true := by rw [PyData.eqv]; exact eqvAll_refl h
theorem eqv_tree : ∀ t : T, PyData.eqv (tD t) (tD t) = true := T.ind (fun n => by rw [tD_leaf]; exact eqv_int _) fun b k ps ih => by
  have parts : ∀ d ∈ ps.map tD, PyData.eqv d d = true := fun d hd => by
    obtain ⟨p, hp, rfl⟩ := List.mem_map.mp hd
    exact ih p hp
  rw [tD_gate]
  refine eqv_tup fun d hd => ?_
  rcases List.mem_cons.mp hd with rfl | hd
  · exact eqv_str _
  rcases List.mem_cons.mp hd with rfl | hd
  · exact eqv_int _
  rcases List.mem_cons.mp hd with rfl | hd
  · cases b with
    | true => exact eqv_tup parts
    | false => exact eqv_list parts
  · cases hd
/-- trees that are equal are the same -/
theorem eqv_same : ∀ t u : T, PyData.eqv (tD t) (tD u) = true → t = u := by
  intro t
  refine T.ind (P := fun t => ∀ u, PyData.eqv (tD t) (tD u) = true → t = u) (fun n u h => ?_) (fun b k ps ih u h => ?_) t
  · cases u with
    | leaf m =>
      rw [tD_leaf, tD_leaf, PyData.eqv] at h
      have := beq_iff_eq.mp h
      rw [show n = m by omega]
    | gate b k ps => rw [tD_leaf, tD_gate, PyData.eqv] at h; cases h
  · cases u with
    | leaf m => rw [tD_leaf, tD_gate, PyData.eqv] at h; cases h
    | gate c l qs =>
      rw [tD_gate, tD_gate, PyData.eqv, PyData.eqvAll, PyData.eqvAll, PyData.eqvAll] at h
      obtain ⟨_, h⟩ := Bool.and_eq_true_iff.mp h
      obtain ⟨h1, h⟩ := Bool.and_eq_true_iff.mp h
      obtain ⟨h2, _⟩ := Bool.and_eq_true_iff.mp h
      rw [PyData.eqv] at h1
      have e1 : k = l := by have := beq_iff_eq.mp h1; omega
      have go : ∀ xs ys : List T, (∀ p ∈ xs, ∀ u, PyData.eqv (tD p) (tD u) = true → p = u) → PyData.eqvAll (xs.map tD) (ys.map tD) = true → xs = ys := by
        intro xs
        induction xs with
        | nil =>
          intro ys _ h
          cases ys with
          | nil => rfl
          | cons y ys => rw [List.map_nil, List.map_cons, PyData.eqvAll] at h; cases h
        | cons x xs ih2 =>
          intro ys hx h
          cases ys with
          | nil => rw [List.map_nil, List.map_cons, PyData.eqvAll] at h; cases h
          | cons y ys =>
            rw [List.map_cons, List.map_cons, PyData.eqvAll] at h
            obtain ⟨g1, g2⟩ := Bool.and_eq_true_iff.mp h
            rw [hx x List.mem_cons_self y g1, ih2 ys (fun p hp => hx p (List.mem_cons_of_mem _ hp)) g2]
      cases b with
      | true =>
        cases c with
        | true =>
          have h2' : PyData.eqv (.tuple (ps.map tD)) (.tuple (qs.map tD)) = true := h2
          rw [PyData.eqv] at h2'
          rw [e1, go ps qs ih h2']
        | false =>
          have h2' : PyData.eqv (.tuple (ps.map tD)) (.list (qs.map tD)) = true := h2
          rw [PyData.eqv] at h2'; cases h2'
      | false =>
        cases c with
        | true =>
          have h2' : PyData.eqv (.list (ps.map tD)) (.tuple (qs.map tD)) = true := h2
          rw [PyData.eqv] at h2'; cases h2'
        | false =>
          have h2' : PyData.eqv (.list (ps.map tD)) (.list (qs.map tD)) = true := h2
          rw [PyData.eqv] at h2'
          rw [e1, go ps qs ih h2']
open Classical in
noncomputable def sameT (t u : T) : Bool := decide (t = u)
open Classical in
theorem eqv_sameT (t u : T) : PyData.eqv (tD t) (tD u) = sameT t u := by
  unfold sameT
  by_cases q : t = u
  · subst q; rw [eqv_tree, decide_eq_true rfl]
  · rw [decide_eq_false q]
    cases h : PyData.eqv (tD t) (tD u) with
    | false => rfl
    | true => exact (q (eqv_same t u h)).elim
end Kh

set_option maxRecDepth 100000
set_option maxHeartbeats 4000000
namespace K31
open PySem PySem.Spec PyProof.Rows L2 Kh
/-- what isinstance, == and the operators ask of the class -/
structure TxD (K : PySem.W.Frag) (C : Addr) : Prop where
  ha : PySem.W.findIn K (.ref C) "__class__" = some (some (.builtin "object.__class__"))
  hn : PySem.W.specialIn K (.builtin "object.__class__") "__get__" = some (some (.builtin "getset_descriptor.__get__"))
  htk : PySem.W.takesIn K (.builtin "object.__class__") = some true
  hm : PySem.W.mroIn K C (.type "object") = some true
  own : PySem.W.kitOne K (.ref C) (.ref C) = some true
  oth : ∀ n ∈ ["NoneType", "bool", "int", "str", "list", "tuple"], PySem.W.kitOne K (.type n) (.ref C) = some false
  nf : ∀ n ∈ ["NoneType", "bool", "int", "str", "list", "tuple"], PySem.W.notFirst K C (.type n) = true
  sf : PySem.W.selfFirst K C = true
  ne : PySem.W.findIn K (.ref C) "__ne__" = some (some (.builtin "object.__ne__"))
  ob : PySem.W.subIn K (.ref C) (.type "object") = some true
theorem lv_con : ∀ t, lv (con t) = lv t := Kh.T.ind (fun n => by rw [con_leaf]) fun b k ps ih => by
  rw [con_gate, lv_gate, lv_gate, List.flatMap_map]
  induction ps with
  | nil => rfl
  | cons p r ih2 => rw [List.flatMap_cons, List.flatMap_cons, ih p List.mem_cons_self, ih2 fun q h => ih q (List.mem_cons_of_mem _ h)]
theorem wf_con : ∀ t, Wf t → Wf (con t) := Kh.T.ind (fun n h => by rw [con_leaf]; exact h) fun b k ps ih h => by
  obtain ⟨h1, h2, h3⟩ := (wf_gate b k ps).mp h
  rw [con_gate, wf_gate, List.length_map]
  refine ⟨by omega, by omega, fun p hp => ?_⟩
  obtain ⟨q, hq, rfl⟩ := List.mem_map.mp hp
  exact ih q hq (h3 q hq)
theorem dep_con : ∀ t d, dep t ≤ d → dep (con t) ≤ d := Kh.T.ind (fun n d h => by rw [con_leaf]; exact h) fun b k ps ih d h => by
  rw [con_gate]
  cases d with
  | zero => exact absurd h (dep_gate0 _ _ _)
  | succ d =>
    rw [dep_gate] at h ⊢
    intro p hp
    obtain ⟨q, hq, rfl⟩ := List.mem_map.mp hp
    exact ih q hq d (h q hq)
theorem mem_con (t : Kh.T) : mem (con t) = mem t := by unfold mem; rw [lv_con]
theorem okt_con {t : Kh.T} (h : Okt t) : Okt (con t) := ⟨wf_con t h.1, by rw [lv_con]; exact h.2.1, dep_con t 5 h.2.2.1, by rw [lv_con, mem_con]; exact h.2.2.2⟩
theorem TreeAt.eqv {K : PySem.W.Frag} {C : Addr} {H : Hp} {t u : Kh.T} {x : Addr} (h : TreeAt K C H t x) (e : flg true t = flg true u) : TreeAt K C H u x := by
  obtain ⟨dx, v1, v2, v3, h0, h1, h2, h3⟩ := h
  have e2 : lv t = lv u := by rw [← lv_flg true t, ← lv_flg true u, e]
  refine ⟨dx, v1, v2, v3, h0, ?_, ?_, ?_⟩
  · rw [← e]; exact h1
  · rw [← e2]; exact h2
  · rw [show mem u = mem t by unfold mem; rw [e2]]; exact h3
theorem nice_of {t : Kh.T} (h : Okt t) : Nice 50000 10 (tD t) := by
  have h0 := h.2.1
  have hl : ∀ t, Wf t → ∀ n ∈ lv t, n < 24 := Kh.T.ind (fun n wf m hm => by rw [lv_leaf] at hm; rw [List.mem_singleton.mp hm]; rw [Wf] at wf; exact wf) fun b k ps ih wf m hm => by
    rw [lv_gate] at hm
    obtain ⟨p, hp, hm⟩ := List.mem_flatMap.mp hm
    exact ih p hp (((wf_gate b k ps).mp wf).2.2 p hp) m hm
  have h1 := siz_le t 5 h.1 h.2.2.1
  exact (nice_tree t 5 h.1 (hl t h.1) h.2.2.1 (by omega)).mono (by omega) (Nat.le_refl _)
section
variable {P : Program} {w : World} {K : PySem.W.Frag} {mg : Str → Option Value} {base : Heap} {a : Nat → Addr} {fd : Nat → FuncData} {C : Addr} {tk : Nat → Tok}
theorem isI_at {H : Hp} {S : Addr → Prop} {t : Kh.T} {x : Addr} (h : TreeAt K C (off S H) t x) : isI H C (.ref x) := by
  obtain ⟨dx, v1, v2, v3, h0, _⟩ := h
  exact ⟨x, dx, _, rfl, (off_some h0).2⟩
/-- a method of a tree whose answer is a tree -/
def spMT {α : Type} (K : PySem.W.Frag) (C : Addr) (enc : α → List PyData) (pre : Kh.T → α → Prop) (g : Kh.T → α → Kh.T) : Sp := fun vs H Q _ => ∃ (S : Addr → Prop) (t : Kh.T) (x : Addr) (y : α) (us : List V), vs = .ref x :: us ∧ Kn S H ∧ TreeAt K C (off S H) t x ∧ Okt t ∧ DpAll K (off S H) us (enc y) ∧ pre t y ∧
  ∀ z H', Same H H' → TreeAt K C (off S H') (g t y) z → Q (.ref z) H'
/-- of two trees -/
def spTT (K : PySem.W.Frag) (C : Addr) (k : Nat) : Sp := fun vs H Q _ => ∃ (S : Addr → Prop) (t u : Kh.T) (x y : Addr), vs = [.ref x, .ref y] ∧ Kn S H ∧ TreeAt K C (off S H) t x ∧ TreeAt K C (off S H) u y ∧ Okt t ∧ Okt u ∧ Okt (.gate false k [t, u]) ∧
  ∀ z H', Same H H' → TreeAt K C (off S H') (.gate false k [t, u]) z → Q (.ref z) H'
/-- a tree and anything -/
def spEqT (K : PySem.W.Frag) (C : Addr) : Sp := fun vs H Q _ => ∃ (S : Addr → Prop) (t : Kh.T) (x : Addr) (y : V), vs = [.ref x, y] ∧ Kn S H ∧ TreeAt K C (off S H) t x ∧ Okt t ∧
  ((∃ u z, y = .ref z ∧ TreeAt K C (off S H) u z ∧ Okt u ∧ ∀ H', Same H H' → Q (.bl (sameT (flg true t) (flg true u))) H') ∨ (∃ d, Dp K (off S H) y d ∧ ∀ H', Same H H' → Q (.bl false) H'))
theorem okt_of_flg {t : Kh.T} (c : Bool) (h : Okt (flg c t)) : Okt t := ⟨(wf_flg c t).mp h.1, by have := h.2.1; rwa [lv_flg] at this, (dep_flg c t 5).mp h.2.2.1, by have := h.2.2.2; rwa [lv_flg, mem_flg] at this⟩
theorem isi_own {S : Addr → Prop} {H : Hp} {t : Kh.T} {x : Addr} {Q : VK} (U : TxC K mg a C) (D : TxD K C) (h : TreeAt K C (off S H) t x) (q : Q (.bl true) H) : rIsi K [.ref x, .ref C] H Q := by
  obtain ⟨dx, v1, v2, v3, hx, _⟩ := h
  exact ⟨_, _, .ref C, .ref C, true, rfl, .own C, .base (.ins (off_some hx).2 U.cls D.ha D.hn D.htk D.hm), D.own, q⟩
theorem ty_in : ∀ {d : PyData} {K : PySem.W.Frag} {H : Hp} {v : V}, Dp K H v d → tyN d ∈ ["NoneType", "bool", "int", "str", "list", "tuple"]
  | .none, _, _, _, _ => by simp [tyN]
  | .bool _, _, _, _, _ => by simp [tyN]
  | .int _, _, _, _, _ => by simp [tyN]
  | .str _, _, _, _, _ => by simp [tyN]
  | .list _, _, _, _, _ => by simp [tyN]
  | .tuple _, _, _, _, _ => by simp [tyN]
  | .dict _, _, _, _, h => by cases h
theorem isi_oth {S : Addr → Prop} {H : Hp} {d : PyData} {v : V} {Q : VK} (D : TxD K C) (h : Dp K (off S H) v d) (q : Q (.bl false) H) : rIsi K [v, .ref C] H Q :=
  ⟨_, _, _, .ref C, false, rfl, .own C, tyx_d (dp_same off_sub _ _ h), D.oth _ (ty_in h), q⟩
/-- the object's shape -/
theorem fld_shape {S : Addr → Prop} {σ : L2.St} {H : Hp} {t : Kh.T} {x : Addr} {i : Nat} {Q : VK} (U : TxC K mg a C) (h : TreeAt K C (off S H) t x) (hi : σ[i]? = some (some (.ref x))) (q : ∀ v, Dp K (off S H) v (tD (flg true t)) → Q v H) : tFld K (tVar i) "_shape" σ H Q := by
  obtain ⟨dx, v1, v2, v3, hx, d1, _⟩ := h
  exact t_fld (t_var hi ⟨x, C, dx, _, v1, rfl, (off_some hx).2, U.cls, U.n_shape, rfl, q v1 d1⟩)
theorem shape_two {S : Addr → Prop} {σ : L2.St} {H : Hp} {t u : Kh.T} {x y : Addr} {k : Nat} {Q : VK} (U : TxC K mg a C) (kn : Kn S H) (h1 : TreeAt K C (off S H) t x) (h2 : TreeAt K C (off S H) u y) (i1 : σ[0]? = some (some (.ref x))) (i2 : σ[1]? = some (some (.ref y)))
    (q : ∀ v H', Same H H' → Dp K (off S H') v (tD (.gate false k [flg true t, flg true u])) → Q v H') :
    tTup (tCons (tC (.str "of")) (tCons (tC (.int (k : Nat))) (tCons (tLst (tCons (tFld K (tVar 0) "_shape") (tCons (tFld K (tVar 1) "_shape") tNil))) tNil))) σ H Q := by
  refine t_tup (a_cons (t_c (a_cons (t_c (a_cons (t_lst (a_cons (fld_shape U h1 i1 fun v1 d1 => a_cons (fld_shape U h2 i2 fun v2 d2 => ⟨le2, fun p hp => ?_⟩)))))))))
  have sp := same_new (o := HO.lst [v1, v2]) hp
  have dl := dp_newL kn hp (.cons d1 (.cons d2 .nil))
  refine ⟨le3, fun r hr => q _ _ (sp.trans (same_new hr)) ?_⟩
  rw [tD_gate]
  exact dp_newT (kn.same sp) hr (.cons (.str _) (.cons (.int _) (.cons dl .nil)))
theorem flg2 (t u : Kh.T) (k : Nat) : flg true (.gate false k [flg true t, flg true u]) = flg true (.gate false k [t, u]) := by
  rw [flg_gate, flg_gate]; simp [flg_flg]
theorem ok_Tree_eq (T : Txt K mg a fd C tk) (U : TxC K mg a C) (D : TxD K C) : FnOk P w K mg base CX0 2 (a 15) (fd 15) ["self", "other"] (spEqT K C) := by
  refine T.F_Tree_eq.ok sc_Tree_eq (fun vs H Q E h => by obtain ⟨_, _, _, _, rfl, _⟩ := h; rfl) (fun cdv A outer s H vs Q E hr h => ?_)
  obtain ⟨S, t, x, y, rfl, kn, ht, ot, h⟩ := h
  refine ⟨_, (pss_one (ps_ret (pe_and (pe_callB (k_isi (K := K)) (by rfl) T.z_isinstance (by decide +kernel) (pa_cons (pv 1) (pa_cons (pe_glob (v := .ref _) (by rfl) U.m_Tree rfl) pa_nil))) (pe_one (pe_cmpR (k_eqD (K := K) hr.units) (k_fld (K := K) (pv 0) rfl) (k_fld (K := K) (pv 1) rfl) (nomark _)))))), ?_⟩
  rcases h with ⟨u, z, rfl, hu, ou, q⟩ | ⟨d, hd, q⟩
  · refine s_ret (t_andV (t_cb2 (t_var rfl (t_c (isi_own U D hu (bl_ifT ?_))))))
    refine t_op (fld_shape U ht rfl fun v1 d1 => fld_shape U hu rfl fun v2 d2 => ⟨_, _, dp_same off_sub _ _ d1, dp_same off_sub _ _ d2, (nice_of (okt_flg ot)).shaped (by decide), (nice_of (okt_flg ou)).shaped (by decide), ?_⟩)
    rw [eqv_sameT]
    exact q H (Same.refl _)
  · exact s_ret (t_andV (t_cb2 (t_var rfl (t_c (isi_oth D hd (bl_ifF (q H (Same.refl _))))))))
end
end K31

set_option maxRecDepth 100000
set_option maxHeartbeats 4000000
/-! set(list of whole numbers), sorted(set(..)), len(set(..)) -/
namespace Kh
open PySem PySem.Spec PyProof.Rows L2
section
variable {P : Program} {w : World} {B : Around} {X0 : Value → Shared → Prop} {z : Shared}
/-- set(l), l a list of whole numbers -/
theorem set_of_list {l : Addr} {js : Array Value} (ks : List Int) {R0 : Value → Shared → Prop} (nh : B.handled = none) (isl : z.heap.IsList l js) (insA : IntsAre js.toList ks) (few : ks.length + 1 < scanBound)
    (fin : ∀ (g1 : Heap) (tk c : Nat), SetR w g1 z.heap.objs.size (fun j => decide (j ∈ ks)) c → c ≤ ks.length → (∀ b o, z.heap.get? b = some o → g1.get? b = some o) → R0 (.ref z.heap.objs.size) { z with heap := g1, toks := tk }) :
    wpAny (model P w) B (call (.type "set") [.ref l]) R0 X0 z := by
  have jl : js.size = ks.length := by
    have q := IntsAre.length insA
    rwa [Array.length_toList] at q
  obtain ⟨_, _, hmro⟩ := F.called_set.mro
  have m1 := F.called_set.made
  have m2 := F.called_set.sub
  refine wpAny_call (codeAny_of_tree ?_)
  show wpAny _ _ (callAny (Value.type "set") _) _ _ _
  refine wpAny_pure ⟨(Code.quiet_builtin _ (by decide +kernel)), (codeAny_builtin F.entry_type_call ?_)⟩
  rw [(Around.under_plain (weight_type_call_type "set" [.ref l] []) rfl)]
  have m3 := F.called_set.notType
  have m4 := F.called_set.canCreate
  have m5 := F.typeCall_set_1 (.ref l)
  repeat any_goals first | assumption | wp_step
  refine codeAny_mono (code_set_led1 (.ref l) (E := X0) (Q₁ := fun ob z1 => ob = .ref z.heap.objs.size ∧ z1 = { z with heap := z.heap.push { cls := .type "set", dict := none, data := .set #[] 0 (.fresh 0 0 (!w.params.followText "set-order")) } }) ⟨rfl, rfl⟩) fun r z1 hr => ?_
  cases r with
  | error e => exact hr
  | ok fl =>
    cases fl with
    | ret ob =>
      obtain ⟨rfl, rfl⟩ := hr
      have n1 : (z.heap.push { cls := .type "set", dict := none, data := .set #[] 0 (.fresh 0 0 (!w.params.followText "set-order")) }).get? z.heap.objs.size = some { cls := .type "set", dict := none, data := .set #[] 0 (.fresh 0 0 (!w.params.followText "set-order")) } := Heap.get?_push_size _ rfl
      have n2 : Shared.TypeIs { z with heap := z.heap.push { cls := .type "set", dict := none, data := .set #[] 0 (.fresh 0 0 (!w.params.followText "set-order")) } } (.ref z.heap.objs.size) "set" := ⟨_, n1, rfl⟩
      have n3 := F.called_set.init.lookup
      have n4 := F.called_set.init.bind (.ref z.heap.objs.size)
      repeat any_goals first | assumption | wp_step
      refine codeAny_mono (codeAny_call_builtin (R := wants (fun r z2 => r = .none ∧ ∃ g1 tk c, z2 = { z with heap := g1, toks := tk } ∧ SetR w g1 z.heap.objs.size (fun j => decide (j ∈ ks)) c ∧ c ≤ ks.length ∧ (∀ b o, z.heap.get? b = some o → g1.get? b = some o)) X0)
          F.called_set.init.plain F.entry_set_init (check_set_init_1 n2 ?_)) fun r₂ z2 hr₂ => ?_
      · obtain ⟨ol, hol, hcl, nl, hdl⟩ := isl
        obtain ⟨oc, od, odt, os⟩ := ol
        simp only at hcl hdl
        subst hcl; subst hdl
        have hol' : (z.heap.push { cls := .type "set", dict := none, data := .set #[] 0 (.fresh 0 0 (!w.params.followText "set-order")) }).get? l = some { cls := .type "list", dict := od, data := .seq js nl, slots := os } := Heap.get?_push_of_some _ hol
        have p1 := F.sub_list_set
        have p2 := F.sub_list_frozenset
        have p3 : (Value.type "list" == Value.type "dict") = false := by decide
        have p4 : (z.heap.push { cls := .type "set", dict := none, data := .set #[] 0 (.fresh 0 0 (!w.params.followText "set-order")) }).IsList l js := ⟨_, hol', rfl, nl, rfl⟩
        unfold Builtin.«set.__init__»
        unfold noKeywords
        unfold Builtin.Frozenset.updateFrom
        generalize hPI : pyIter = PI
        wp_walk
        subst hPI
        refine wpAny_pyIter_list p4 ?_
        refine wpAny_bind (wpAny_runValue ?_)
        have ls : l < z.heap.objs.size := Heap.lt_size hol
        have p5 : B.in1.in1.in1.handled = none := by simp [nh]
        have p6 : l ≠ (z.heap.push { cls := .type "set", dict := none, data := .set #[] 0 (.fresh 0 0 (!w.params.followText "set-order")) }).objs.size := by
          rw [Heap.size_push]
          exact Nat.ne_of_lt (Nat.lt_succ_of_lt ls)
        have p7 : z.heap.objs.size ∉ [(z.heap.push { cls := .type "set", dict := none, data := .set #[] 0 (.fresh 0 0 (!w.params.followText "set-order")) }).objs.size, l] := by
          rw [Heap.size_push]
          simp only [List.mem_cons, List.not_mem_nil, or_false, not_or]
          exact ⟨Nat.ne_of_lt (Nat.lt_succ_self _), Nat.ne_of_gt ls⟩
        have p8 : ∀ (i : Nat) (v : Value), js[i]? = some v → ∃ k t, ks[i]? = some k ∧ v = .int k t := fun i v hv => by
          have hi : i < ks.length := by rw [← jl]; exact (Array.getElem?_eq_some_iff.mp hv).1
          obtain ⟨t, e⟩ := PyProof.Rows.IntsAre.int_at insA i v (by rw [Array.getElem?_toList]; exact hv)
          refine ⟨ks[i], t, List.getElem?_eq_getElem hi, ?_⟩
          rw [e, List.getD_eq_getElem?_getD, List.getElem?_eq_getElem hi] <;> rfl
        refine set_update_ints ((Walks.list p5 _ l p6 js).toS) z.heap.objs.size p7 ks jl few p8 (js.size - 0) 0 _ (by omega) (Nat.zero_le _) ⟨⟨_, Heap.get?_push_size _ rfl, rfl, rfl⟩, (p4.push _)⟩ ?empty ?whole
        case empty =>
          have hget : ((z.heap.push { cls := .type "set", dict := none, data := .set #[] 0 (.fresh 0 0 (!w.params.followText "set-order")) }).push { cls := .type "list_iterator", data := .fields #[.ref l, .int 0 0] }).get? z.heap.objs.size = some { cls := .type "set", dict := none, data := .set #[] 0 (.fresh 0 0 (!w.params.followText "set-order")) } := Heap.get?_push_of_some _ n1
          exact ⟨0, Nat.le_refl 0, setR_new_at hget⟩
        case whole =>
          intro z3 c3 hm hc3 hS3
          obtain ⟨g1, g2, d3, tk3, os3⟩ := z3
          have eg : g2 = z.gens := hm.gens
          have ed : d3 = z.drawn := hm.drawn
          have eo : os3 = z.os := hm.os
          subst eg; subst ed; subst eo
          show wpAny _ _ _ _ _ _
          refine wpAny_pure ?_
          show wpAny _ _ (ret (Value.none)) _ _ _
          rw [jl] at hc3
          refine wpAny_pure ⟨rfl, g1, tk3, c3, rfl, hS3, hc3, fun b o e => ?_⟩
          have b0 : b < z.heap.objs.size := Heap.lt_size e
          have b2 : b ≠ (z.heap.push { cls := .type "set", dict := none, data := .set #[] 0 (.fresh 0 0 (!w.params.followText "set-order")) }).objs.size := by rw [Heap.size_push]; exact Nat.ne_of_lt (Nat.lt_succ_of_lt b0)
          exact hm.heap b o (by simp only [List.mem_cons, List.mem_singleton, List.not_mem_nil, or_false, not_or]; exact ⟨Nat.ne_of_lt b0, b2⟩) (Heap.get?_push_of_some _ (Heap.get?_push_of_some _ e))
      · cases r₂ with
        | error e => exact hr₂
        | ok fl₂ =>
          cases fl₂ with
          | ret r =>
            obtain ⟨rfl, g1, tk, c', rfl, hS', hc', hk'⟩ := hr₂
            repeat any_goals first | assumption | wp_step
            exact fin _ _ _ hS' hc' hk'
          | _ => exact hr₂.elim
    | _ => exact hr.elim
end
section
variable {X : Cx}
/-- set(xs), xs a list of ints -/
def rSetOf (K : PySem.W.Frag) (w : World) : List V → Hp → VK → Prop := fun vs H Q => ∃ (l : Addr) (ks : List Int), vs = [V.ref l] ∧ SqL K H l (ks.map V.int) ∧ ks.length ≤ 1000 ∧
  ∀ (p : Addr) (n : Nat), H p = none → n ≤ ks.length → Q (.ref p) (upd H p (SetO w p (fun j => decide (j ∈ ks)) n))
theorem cr_setOf (hc : X.calm = true) : CallR X (.type "set") (rSetOf X.K X.w) := by
  intro pins s σ H xs us Q I r h
  obtain ⟨l, ks, rfl, hs, hz, q⟩ := h
  obtain ⟨u, rfl, ru⟩ := r.one
  cases ru
  obtain ⟨its, rv, ⟨⟨cls, dd, data, sl⟩, n, ho, hcl, hdn, hd⟩, hlen⟩ := I.list hs
  refine set_of_list (js := its.toArray) ks (I.ok.hd hc) ⟨_, ho, hcl, n, hd⟩ (by simpa using ints_of_vals rv) (Nat.lt_of_le_of_lt (show ks.length + 1 ≤ 1001 by omega) (by decide)) fun g1 tk c hS hc kp => ?_
  exact ⟨.ref _, upd H s.heap.objs.size (SetO X.w s.heap.objs.size (fun j => decide (j ∈ ks)) c), I.laid (t' := tk) kp (Nat.le_refl _) (setO_new hS), rfl, q _ c (I.hok.fresh (Nat.le_refl _)) hc⟩
end
end Kh

set_option maxRecDepth 100000
set_option maxHeartbeats 1000000
/-! for over data -/
namespace Kh
open PySem PySem.Spec PyProof.Rows L2
theorem s_for {K : PySem.W.Frag} {S : Addr → Prop} {H : Hp} {σ : L2.St} {t : TE} {g : TG} {tb : TS} {D : Ends} {b : Bool} {ds : List PyData} (kn : Kn S H)
    (hev : ∀ Q : VK, (∀ u H1, Same H H1 → Dp K (off S H1) u (sq b ds) → Q u H1) → t σ H Q)
    (step : ∀ xs H1, Same H H1 → Kn S H1 → DpAll K (off S H1) xs ds → xs.length = ds.length → ∃ Pv : Nat → L2.St → Hp → Prop, Pv 0 σ H1 ∧ (∀ i σ' H', i ≤ ds.length → Pv i σ' H' → Same (off S H1) H') ∧
      (∀ i x d σ' H', ds[i]? = some d → Dp K (off S H1) x d → Pv i σ' H' → g x σ' H' fun σ2 H2 => tb { D with nx := Pv (i + 1), ct := Pv (i + 1), bk := D.nx } σ2 H2) ∧ (∀ σ' H', Pv ds.length σ' H' → D.nx σ' H')) :
    tFor (fun σ H R => iList K t σ H R ∨ iTup K t σ H R) g tb D σ H := by
  refine it_any hev fun J xs H1 s1 ha w => ?_
  have ln := dpa_len ha
  obtain ⟨Pv, h0, hG, hs, hd⟩ := step xs H1 s1 (kn.same s1) ha ln
  refine for_it w Pv h0 (fun i σ' H' hi p => hG i σ' H' (by omega) p) (fun i x σ' H2 H3 hi p y => ?_) (fun σ' H' p => hd σ' H' (by rw [← ln]; exact p))
  obtain ⟨rfl, xi⟩ := y
  obtain ⟨d, di, dx⟩ := dpa_at ha xi
  exact hs i x d σ' H3 di dx p
section
variable {σ : L2.St} {H : Hp} {Q : VK} {D : Ends} {te : TE} {i : Nat} {v : V}
theorem g_name {k : L2.St → Hp → Prop} (h : k (σ.set i (some v)) H) : gName i v σ H k := h
end
/-- an int list by its strictly rising order -/
theorem rise_eq : ∀ {xs ys : List Int}, xs.Pairwise (· < ·) → ys.Pairwise (· < ·) → (∀ k, k ∈ xs ↔ k ∈ ys) → xs = ys
  | [], [], _, _, _ => rfl
  | [], y :: ys, _, _, h => by have := (h y).mpr List.mem_cons_self; cases this
  | x :: xs, [], _, _, h => by have := (h x).mp List.mem_cons_self; cases this
  | x :: xs, y :: ys, hx, hy, h => by
    have hx' := List.pairwise_cons.mp hx
    have hy' := List.pairwise_cons.mp hy
    have e : x = y := by
      have h1 := (h x).mp List.mem_cons_self
      have h2 := (h y).mpr List.mem_cons_self
      rcases List.mem_cons.mp h1 with h1 | h1
      · exact h1
      · rcases List.mem_cons.mp h2 with h2 | h2
        · exact h2.symm
        · have a1 := hy'.1 x h1
          have a2 := hx'.1 y h2
          omega
    subst e
    have t : xs = ys := rise_eq hx'.2 hy'.2 fun k => by
      constructor
      · intro hk
        rcases List.mem_cons.mp ((h k).mp (List.mem_cons_of_mem _ hk)) with e | e
        · subst e; exact absurd (hx'.1 k hk) (by omega)
        · exact e
      · intro hk
        rcases List.mem_cons.mp ((h k).mpr (List.mem_cons_of_mem _ hk)) with e | e
        · subst e; exact absurd (hy'.1 k hk) (by omega)
        · exact e
    rw [t]
/-- len(s), s a set of ints -/
def rLenSet (w : World) : List V → Hp → VK → Prop := fun vs H Q => ∃ (a : Addr) (S : Int → Bool) (n : Nat), vs = [V.ref a] ∧ H a = some (SetO w a S n) ∧ n ≤ 1000 ∧
  ∀ ns : List Int, ns.Nodup → (∀ k, k ∈ ns ↔ S k = true) → ns.length = n → Q (.int (n : Nat)) H
theorem cr_lenSet {X : Cx} : CallR X (.builtin "len") (rLenSet X.w) := by
  intro pins s σ H xs us Q I r h
  obtain ⟨a, S, n, rfl, ha, hz, q⟩ := h
  obtain ⟨u, rfl, ru⟩ := r.one
  cases ru
  obtain ⟨o, es, ep, t, ho, hex, hd, hg, hnd, hk, hb, hf, hn, _⟩ := setO_get I ha
  exact call_len_set ho hex hd hf (by omega) ⟨.int n, H, I.tok _, ⟨_, by rw [hn]⟩, q _ hnd (fun k => (hk k).symm) (by rw [List.length_map, Array.length_toList]; exact hn)⟩
end Kh

set_option maxRecDepth 100000
set_option maxHeartbeats 1000000
/-! sorted of a list of data -/
namespace Kh
open PySem PySem.Spec PyProof.Rows L2
def rSortD (K : PySem.W.Frag) : List V → Hp → VK → Prop := fun vs H Q => ∃ (a : Addr) (xs : List V) (ds : List PyData), vs = [V.ref a] ∧ SqL K H a xs ∧ DpAll K H xs ds ∧ PySem.W.AllAlike ds ∧ PySem.W.Sortable ds ∧ (∀ d ∈ ds, d.depth ≤ 60) ∧
  ∀ (p : Addr) (bs : List (V × PyData)), H p = none → bs.Perm (xs.zip ds) → Q (.ref p) (upd H p (.lst (bs.map Prod.fst)))
theorem zip_mem_dp {K : PySem.W.Frag} {H : Hp} : ∀ {xs : List V} {ds : List PyData}, DpAll K H xs ds → ∀ b ∈ xs.zip ds, Dp K H b.1 b.2
  | _, _, .nil, b, hb => by simp at hb
  | _, _, .cons h t, b, hb => by
    rw [List.zip_cons_cons] at hb
    rcases List.mem_cons.mp hb with rfl | hb
    · exact h
    · exact zip_mem_dp t b hb
theorem zip_snd {K : PySem.W.Frag} {H : Hp} {xs : List V} {ds : List PyData} (h : DpAll K H xs ds) : (xs.zip ds).map Prod.snd = ds := List.map_snd_zip (by rw [dpa_len h]; exact Nat.le_refl _)
theorem zip_fst {K : PySem.W.Frag} {H : Hp} {xs : List V} {ds : List PyData} (h : DpAll K H xs ds) : (xs.zip ds).map Prod.fst = xs := List.map_fst_zip (by rw [dpa_len h]; exact Nat.le_refl _)
theorem each_rel : ∀ {xs : List V} {us : List Value} {ds : List PyData}, Vals xs us → xs.length = ds.length → PySem.W.EachIs (fun (v : Value) (b : V × PyData) => RelV b.1 v) us (xs.zip ds)
  | [], _, [], .nil, _ => .nil
  | x :: xs, _, d :: ds, .cons r t, h => .cons r (each_rel t (by simpa using h))
  | [], _, _ :: _, _, h => by simp at h
  | _ :: _, _, [], _, h => by simp at h
theorem each_vals : ∀ {us : List Value} {bs : List (V × PyData)}, PySem.W.EachIs (fun (v : Value) (b : V × PyData) => RelV b.1 v) us bs → Vals (bs.map Prod.fst) us
  | _, _, .nil => .nil
  | _, _, .cons r t => .cons r (each_vals t)
theorem each_and {α β : Type} {R S : α → β → Prop} : ∀ {us : List α} {bs : List β}, PySem.W.EachIs R us bs → (∀ u b, b ∈ bs → R u b → S u b) → PySem.W.EachIs S us bs
  | _, _, .nil, _ => .nil
  | _, _, .cons r t, h => .cons (h _ _ List.mem_cons_self r) (each_and t fun u b hb => h u b (List.mem_cons_of_mem _ hb))
theorem cr_sortD {X : Cx} (hu : X.A.units + 64 < cLine) : CallR X (.builtin "sorted") (rSortD X.K) := by
  intro pins s σ H vs us Q I r h
  obtain ⟨a, xs, ds, rfl, hs, hd, hal, hk, hdp, q⟩ := h
  obtain ⟨u, rfl, ru⟩ := r.one
  cases ru
  obtain ⟨its, rv, hl, hz⟩ := I.list hs
  have e := each_rel rv (dpa_len hd)
  have er : PySem.W.EachIs (fun (v : Value) (b : V × PyData) => ∃ as, Reads s.heap v b.2 as) its (xs.zip ds) := each_and e fun u b hb ru => Dp.reads I b.2 b.1 u (zip_mem_dp hd b hb) ru
  have hlen : (xs.zip ds).length = xs.length := by rw [List.length_zip, dpa_len hd]; omega
  refine PySem.W.sorted_data (enc := Prod.snd) hl.isList e er (by rw [zip_snd hd]; exact hal) (by rw [zip_snd hd]; exact hk) (by rw [hlen]; exact hz) (fun b hb => ?_) fun out ho eo => ?_
  · have hm : b.2 ∈ ds := by
      have h1 : b.2 ∈ (xs.zip ds).map Prod.snd := List.mem_map_of_mem hb
      rwa [zip_snd hd] at h1
    have := hdp _ hm
    omega
  · have hp := List.mergeSort_perm (xs.zip ds) (PySem.W.dataLe false Prod.snd)
    have hv := each_vals eo
    obtain ⟨n, hn⟩ := sortedAll_at s.heap its (List.toArray out)
    refine ⟨.ref (s.heap.objs.size + 1), upd H (s.heap.objs.size + 1) (.lst (((xs.zip ds).mergeSort (PySem.W.dataLe false Prod.snd)).map Prod.fst)), I.laid (t' := s.toks) (fun b o z => sortedAll_old z) (Nat.le_succ _) ⟨?_, out, n, hv, hn⟩, rfl, q _ _ (I.hok.fresh (Nat.le_succ _)) hp⟩
    rw [List.length_map, hp.length_eq, hlen]; exact hz
/-- xs + ys, lists of any kind -/
def rCatS (K : PySem.W.Frag) : R2 := fun x y H Q => ∃ l b xs zs, x = .ref l ∧ y = .ref b ∧ SqL K H l xs ∧ SqL K H b zs ∧ xs.length + zs.length ≤ sizeLine ∧ ∀ p, H p = none → Q (.ref p) (upd H p (.lst (xs ++ zs)))
theorem op_catS {X : Cx} : OpR X (binaryOp .Add) (rCatS X.K) := by
  intro pins s σ H x y v u Q I rx ry h
  obtain ⟨l, b, xs, zs, rfl, rfl, hH, hB, hz, q⟩ := h
  cases rx
  cases ry
  obtain ⟨its, r, ⟨⟨c1, d1, t1, o1⟩, n1, g1, a1, a2, a3⟩, _⟩ := I.list hH
  obtain ⟨its2, r2, ⟨⟨c2, d2, t2, o2⟩, n2, g2, b1, b2, b3⟩, _⟩ := I.list hB
  simp only at a1 a2 a3 b1 b2 b3
  subst a1; subst a2; subst a3; subst b1; subst b2; subst b3
  refine concat_meets ⟨_, g1, rfl⟩ ⟨_, g2, rfl⟩ noFill_list_add seq_list_add PySem.F.slot_list_add PySem.F.entry_list_add (PySem.F.args_list_add_2 _ _) (list_addW l b its.toArray its2.toArray n1 n2 none none o1 o2 (by rw [List.size_toArray, List.size_toArray, ← r.length, ← r2.length]; exact hz)) ⟨g1, g2, ?_⟩
  have ea : its.toArray ++ its2.toArray = (its ++ its2).toArray := by simp
  rw [ea]
  exact ⟨.ref _, _, I.lnew (t' := s.toks) (r.append r2) (by rw [List.length_append]; exact hz), rfl, q _ I.fresh⟩
section
variable {X : Cx} {K : PySem.W.Frag}
theorem k_catS (h : X.K = K := by rfl) : OpR X (binaryOp .Add) (rCatS K) := by subst h; exact op_catS
theorem k_sortD (hu : X.A.units + 64 < cLine) (h : X.K = K := by rfl) : CallR X (.builtin "sorted") (rSortD K) := by subst h; exact cr_sortD hu
theorem k_setOf (hc : X.calm = true) (h : X.K = K := by rfl) : CallR X (.type "set") (rSetOf K X.w) := by subst h; exact cr_setOf hc
end
theorem cat_d {K : PySem.W.Frag} {S : Addr → Prop} {H : Hp} {x y : V} {ds es : List PyData} {Q : VK} (kn : Kn S H) (hx : Dp K (off S H) x (.list ds)) (hy : Dp K (off S H) y (.list es)) (hz : ds.length + es.length ≤ 100000)
    (q : ∀ u H', Same H H' → Dp K (off S H') u (.list (ds ++ es)) → Q u H') : rCatS K x y H Q := by
  obtain ⟨l, xs, rfl, h1, d1⟩ := list_at hx
  obtain ⟨b, zs, rfl, h2, d2⟩ := list_at hy
  refine ⟨l, b, xs, zs, rfl, rfl, off_sub.seq h1, off_sub.seq h2, ?_, fun p hp => q _ _ (same_new hp) (dp_newL kn hp (dpa_app d1 d2))⟩
  rw [dpa_len d1, dpa_len d2]
  exact Nat.le_trans hz (by decide)
theorem sort_d {K : PySem.W.Frag} {S : Addr → Prop} {H : Hp} {x : V} {ds : List PyData} {Q : VK} (kn : Kn S H) (hx : Dp K (off S H) x (.list ds)) (hal : PySem.W.AllAlike ds) (hk : PySem.W.Sortable ds) (hdp : ∀ d ∈ ds, d.depth ≤ 60)
    (q : ∀ u H' es, Same H H' → es.Perm ds → Dp K (off S H') u (.list es) → Q u H') : rSortD K [x] H Q := by
  obtain ⟨l, xs, rfl, h1, d1⟩ := list_at hx
  refine ⟨l, xs, ds, rfl, off_sub.seq h1, dpa_same off_sub _ _ d1, hal, hk, hdp, fun p bs hp pm => ?_⟩
  have pe := pm.map Prod.snd
  rw [zip_snd d1] at pe
  refine q _ _ (bs.map Prod.snd) (same_new hp) pe (dp_newL kn hp ?_)
  have go : ∀ cs : List (V × PyData), (∀ b ∈ cs, b ∈ xs.zip ds) → DpAll K (off S H) (cs.map Prod.fst) (cs.map Prod.snd) := by
    intro cs
    induction cs with
    | nil => intro _; exact .nil
    | cons c cs ih => intro h; exact .cons (zip_mem_dp d1 c (h c List.mem_cons_self)) (ih fun b hb => h b (List.mem_cons_of_mem _ hb))
  exact go bs fun b hb => pm.mem_iff.mp hb
end Kh

set_option maxRecDepth 100000
set_option maxHeartbeats 4000000
namespace K31
open PySem PySem.Spec PyProof.Rows L2 Kh
section
variable {P : Program} {w : World} {K : PySem.W.Frag} {mg : Str → Option Value} {base : Heap} {a : Nat → Addr} {fd : Nat → FuncData} {C : Addr} {tk : Nat → Tok}
theorem off_sb {S : Addr → Prop} {D : Addr} {H H' : Hp} (e : SameBut D H H') : Same (off (plus S D) H) H' := fun c o h => e c o (fun z => (off_some h).1 (.inr z)) (off_some h).2
theorem isTup_leaf {σ : L2.St} {K : PySem.W.Frag} {S : Addr → Prop} {H : Hp} {v : V} {n : Nat} {Q : VK} (hd : Dp K (off S H) v (tD (.leaf n))) (q : Q (.bl false) H) : rIsi K [v, .ty "tuple"] H Q := by
  rw [tD_leaf] at hd
  exact isi_d off_sub hd (kit_tup _) q
theorem isTup_gate {σ : L2.St} {K : PySem.W.Frag} {S : Addr → Prop} {H : Hp} {v : V} {b : Bool} {k : Nat} {ps : List Kh.T} {Q : VK} (hd : Dp K (off S H) v (tD (.gate b k ps))) (q : Q (.bl true) H) : rIsi K [v, .ty "tuple"] H Q := by
  rw [tD_gate] at hd
  exact isi_d off_sub hd (kit_tup _) q
end
end K31

set_option maxRecDepth 100000
set_option maxHeartbeats 4000000
namespace K31
open PySem PySem.Spec PyProof.Rows L2 Kh
theorem lv24 : ∀ t, Wf t → ∀ n ∈ lv t, n < 24 := Kh.T.ind (fun n wf m hm => by rw [lv_leaf] at hm; rw [List.mem_singleton.mp hm]; rw [Wf] at wf; exact wf) fun b k ps ih wf m hm => by
  rw [lv_gate] at hm
  obtain ⟨p, hp, hm⟩ := List.mem_flatMap.mp hm
  exact ih p hp (((wf_gate b k ps).mp wf).2.2 p hp) m hm
theorem mem_iff {t : Kh.T} (h : Wf t) (n : Nat) : n ∈ mem t ↔ n ∈ lv t := by
  unfold mem
  rw [List.mem_filter, List.mem_range]
  exact ⟨fun q => of_decide_eq_true q.2, fun q => ⟨lv24 t h n q, decide_eq_true q⟩⟩
theorem rise_nat : ∀ {l : List Nat}, l.Pairwise (· < ·) → (l.map fun n : Nat => ((n : Nat) : Int)).Pairwise (· < ·) := fun h => List.pairwise_map.mpr (h.imp fun q => by omega)
theorem mem_rise (t : Kh.T) : (mem t).Pairwise (· < ·) := List.Pairwise.filter _ List.pairwise_lt_range
theorem mem_nodup (t : Kh.T) : (mem t).Nodup := (mem_rise t).imp fun h => Nat.ne_of_lt h
section
variable {P : Program} {w : World} {K : PySem.W.Frag} {mg : Str → Option Value} {base : Heap} {a : Nat → Addr} {fd : Nat → FuncData} {C : Addr} {tk : Nat → Tok}
/-- of this law's helpers: trees of at most 60 leaves -/
abbrev preL (d : Nat) (t : Kh.T) : Prop := preT d t ∧ (lv t).length ≤ 60
theorem ok__law_stands (T : Txt K mg a fd C tk) : ∀ d, FnOk P w K mg base CX0 (d + 1) (a 42) (fd 42) ["_law_shape_here", "_law_some"] (spStandsIn K d)
  | 0 => fn_none fun _ _ _ _ h => by
    obtain ⟨_, x, _, _, ⟨_, h⟩, _⟩ := h
    exact Nat.not_lt_zero _ h
  | d + 1 => by
    have G__law_stands := ok__law_stands T d
    refine T.F__law_stands.ok sc__law_stands (fun vs H Q E h => spP_len (fun _ => rfl) h) (fun cdv A outer s H vs Q E hr h => ?_)
    obtain ⟨S, ⟨t, c, ss⟩, kn, hd, ⟨sm, dp⟩, q⟩ := h
    replace q : ∀ v H', Same H H' → Dp K (off S H') v (.bool (st ss t)) → Q v H' := q
    replace sm : Sm t := sm
    replace dp : dep t < d + 1 := dp
    obtain - | ⟨hd, - | ⟨hs, ⟨⟩⟩⟩ := hd
    rename_i v vh
    replace hd : Dp K (off S H) v (tD t) := hd
    replace hs : Dp K (off S H) vh (sq c (ss.map nD)) := hs
    refine ⟨_, (pss_cons (ps_if (pt_not (pt_val (pe_callB (k_isi (K := K)) (by rfl) T.z_isinstance (by decide +kernel) (pa_cons (pv 0) (pa_cons (pe_bltn (v := .ty "tuple") (by rfl) T.z_tuple (by decide +kernel) rfl) pa_nil)))))
        (pss_one (ps_ret (pe_cmpR (k_in (K := K)) (pv 0) (pv 1) (by rfl)))) pss_nil)
      (pss_one (ps_ret (pe_cmpR op_ge (pe_callB (k_len (K := K)) (by rfl) T.z_len (by decide +kernel) (pa_cons (pe_lc (own := [("_law_part", 2)]) (g := gName 2) (tt := _) rfl sc__law_stands.nd (k_pi (K := K) (pe_ix (k_ix (K := K)) (pv 0) pe_int (fun _ _ => rfl))) (blkOk_by (own := [("_law_part", 2)]) (N := _law_stands_N) (sc := defScope _law_stands_s) (by decide +kernel)) (fun _ _ _ _ _ => (pg_name (i := 2) sc__law_stands.nd rfl (Or.inl rfl))) (fun _ _ _ _ _ => (pts_one (pt_val (pe_call G__law_stands (hr.mono (by omega)) (by rfl) T.m__law_stands T.F__law_stands.kp T.b__law_stands .nil pass0 (pa_cons (pv 2) (pa_cons (pv 1) pa_nil)))))) (fun _ _ _ _ _ => (pv 2))) pa_nil)) (pe_ix (k_ix (K := K)) (pv 0) pe_int (fun _ _ => rfl)) (nomark _))))), ?_⟩
    cases t with
    | leaf n =>
      rw [st_leaf] at q
      refine s_seq (s_if (b_not (b_val (t_cb2 (t_var rfl (t_c (isTup_leaf (σ := []) hd ⟨_, rfl, ifT rfl ?_⟩)))))))
      rw [tD_leaf] at hd
      cases hd
      refine s_ret (t_op (t_var rfl (t_var rfl (in_d (ns := ss.map fun m : Nat => ((m : Nat) : Int)) off_sub hs (by rw [items_sq, List.map_map]; rfl) (q _ _ (Same.refl _) (dp_bl ?_))))))
      exact decide_eq_decide.mpr mem_ints
    | gate b k ps =>
      rw [st_gate] at q
      refine s_seq (s_if (b_not (b_val (t_cb2 (t_var rfl (t_c (isTup_gate (σ := []) hd ⟨_, rfl, ifF rfl (s_next ?_)⟩)))))))
      rw [tD_gate] at hd
      refine s_ret (t_op (t_cb1 (lc_seqF (b := b) (ds := ps.map tD) (fun j => (ps[j]?).any (st ss)) (nth ps tD) kn (fun Q q => t_op (t_var rfl (t_c (ix_d (i := 2) off_sub hd rfl rfl fun u du => q u _ (Same.refl _) du)))) (len_ok sm) (fun _ => rfl) (fun j x d H2 S' dj s2 kn2 dx hS hoff Q q => ?_) (fun j x d H2 S' dj pj s2 kn2 dx hS hoff Q q => ?_) fun D H2 ys hD s2 hd2 h2 => ?_)))
      · obtain ⟨p, pj, pm, rfl⟩ := at_ps dj
        refine b_val (t_call2 (t_var rfl (t_var rfl ⟨S', (p, c, ss), kn2, .cons dx (.cons (dp_same hoff _ _ hs) .nil), ⟨sm.parts p pm, dep_lt dp p pm⟩, fun v H' s' h => ?_⟩)))
        replace h : Dp K (off S' H') v (.bool (st ss p)) := h
        cases h
        refine ⟨_, rfl, ?_⟩
        have e : (ps[j]?).any (st ss) = st ss p := by rw [pj]; rfl
        rw [← e]; exact q H' s'
      · obtain ⟨p, pj', pm, rfl⟩ := at_ps dj
        refine t_var rfl (q _ _ (Same.refl _) ?_)
        rw [nth_eq pj']; exact dx
      · rw [List.length_map, range_filter (p := st ss) (g := tD) fun i x e => ⟨by rw [e]; rfl, nth_eq e⟩] at h2
        refine len_d off_sub h2 rfl (t_op (t_var rfl (t_c (ix_d (i := 1) (off_sub.trans s2) hd rfl rfl fun u du => ?_))))
        cases du
        refine ⟨_, _, rfl, rfl, q _ _ s2 (dp_bl ?_)⟩
        rw [List.length_map]
        exact decide_eq_decide.mpr (by omega)
end
end K31

set_option maxRecDepth 100000
set_option maxHeartbeats 1000000
/-! sorted of a list of data, the very list -/
namespace Kh
open PySem PySem.Spec PyProof.Rows L2
abbrev leD : PyData → PyData → Bool := PySem.W.dataLe false fun d : PyData => d
theorem leD_total : PySem.W.TotalLe leD := PySem.W.sortLe_total _ _ _
def rSortM (K : PySem.W.Frag) : List V → Hp → VK → Prop := fun vs H Q => ∃ (a : Addr) (xs : List V) (ds : List PyData), vs = [V.ref a] ∧ SqL K H a xs ∧ DpAll K H xs ds ∧ PySem.W.AllAlike ds ∧ PySem.W.Sortable ds ∧ (∀ d ∈ ds, d.depth ≤ 60) ∧
  ∀ (p : Addr) (bs : List (V × PyData)), H p = none → bs.Perm (xs.zip ds) → bs.map Prod.snd = ds.mergeSort leD → Q (.ref p) (upd H p (.lst (bs.map Prod.fst)))
theorem cr_sortM {X : Cx} (hu : X.A.units + 64 < cLine) : CallR X (.builtin "sorted") (rSortM X.K) := by
  intro pins s σ H vs us Q I r h
  obtain ⟨a, xs, ds, rfl, hs, hd, hal, hk, hdp, q⟩ := h
  obtain ⟨u, rfl, ru⟩ := r.one
  cases ru
  obtain ⟨its, rv, hl, hz⟩ := I.list hs
  have e := each_rel rv (dpa_len hd)
  have er : PySem.W.EachIs (fun (v : Value) (b : V × PyData) => ∃ as, Reads s.heap v b.2 as) its (xs.zip ds) := each_and e fun u b hb ru => Dp.reads I b.2 b.1 u (zip_mem_dp hd b hb) ru
  have hlen : (xs.zip ds).length = xs.length := by rw [List.length_zip, dpa_len hd]; omega
  refine PySem.W.sorted_data (enc := Prod.snd) hl.isList e er (by rw [zip_snd hd]; exact hal) (by rw [zip_snd hd]; exact hk) (by rw [hlen]; exact hz) (fun b hb => ?_) fun out ho eo => ?_
  · have hm : b.2 ∈ ds := by
      have h1 : b.2 ∈ (xs.zip ds).map Prod.snd := List.mem_map_of_mem hb
      rwa [zip_snd hd] at h1
    have := hdp _ hm
    omega
  · have hp := List.mergeSort_perm (xs.zip ds) (PySem.W.dataLe false Prod.snd)
    have hv := each_vals eo
    obtain ⟨n, hn⟩ := sortedAll_at s.heap its (List.toArray out)
    have hm : ((xs.zip ds).mergeSort (PySem.W.dataLe false Prod.snd)).map Prod.snd = ds.mergeSort leD := by
      exact (PySem.W.sort_maps (r := PySem.W.dataLe false Prod.snd) (s := leD) (Prod.snd : V × PyData → PyData) (fun _ _ _ _ => rfl)).trans (by rw [zip_snd hd])
    refine ⟨.ref (s.heap.objs.size + 1), upd H (s.heap.objs.size + 1) (.lst (((xs.zip ds).mergeSort (PySem.W.dataLe false Prod.snd)).map Prod.fst)), I.laid (t' := s.toks) (fun b o z => sortedAll_old z) (Nat.le_succ _) ⟨?_, out, n, hv, hn⟩, rfl, q _ _ (I.hok.fresh (Nat.le_succ _)) hp hm⟩
    rw [List.length_map, hp.length_eq, hlen]; exact hz
theorem k_sortM {X : Cx} {K : PySem.W.Frag} (hu : X.A.units + 64 < cLine) (h : X.K = K := by rfl) : CallR X (.builtin "sorted") (rSortM K) := by subst h; exact cr_sortM hu
theorem sort_m {α : Type} {K : PySem.W.Frag} {S : Addr → Prop} {H : Hp} {x : V} {ms : List α} {f : α → PyData} {le : α → α → Bool} {Q : VK} (hle : ∀ a ∈ ms, ∀ b ∈ ms, le a b = leD (f a) (f b)) (kn : Kn S H) (hx : Dp K (off S H) x (.list (ms.map f))) (hal : ∀ a ∈ ms, ∀ b ∈ ms, PySem.W.alike (f a) (f b) = true) (hk : PySem.W.Sortable (ms.map f)) (hdp : ∀ a ∈ ms, (f a).depth ≤ 60)
    (q : ∀ u H', Same H H' → Dp K (off S H') u (.list ((ms.mergeSort le).map f)) → Q u H') : rSortM K [x] H Q := by
  obtain ⟨l, xs, rfl, h1, d1⟩ := list_at hx
  refine ⟨l, xs, ms.map f, rfl, off_sub.seq h1, dpa_same off_sub _ _ d1, fun d hd d' hd' => ?_, hk, fun d hd => ?_, fun p bs hp pm em => ?_⟩
  · obtain ⟨a, ha, rfl⟩ := List.mem_map.mp hd
    obtain ⟨b, hb, rfl⟩ := List.mem_map.mp hd'
    exact hal a ha b hb
  · obtain ⟨a, ha, rfl⟩ := List.mem_map.mp hd
    exact hdp a ha
  have pe : bs.map Prod.snd = (ms.mergeSort le).map f := by
    rw [em]; exact (PySem.W.sort_maps f hle).symm
  refine q _ _ (same_new hp) (dp_newL kn hp ?_)
  rw [← pe]
  have go : ∀ cs : List (V × PyData), (∀ b ∈ cs, b ∈ xs.zip (ms.map f)) → DpAll K (off S H) (cs.map Prod.fst) (cs.map Prod.snd) := by
    intro cs
    induction cs with
    | nil => intro _; exact .nil
    | cons c cs ih => intro h; exact .cons (zip_mem_dp d1 c (h c List.mem_cons_self)) (ih fun b hb => h b (List.mem_cons_of_mem _ hb))
  exact go bs fun b hb => pm.mem_iff.mp hb
/-- lists in order with the same elements are one list -/
theorem order_one {α : Type} {le : α → α → Bool} (anti : ∀ a b, le a b = true → le b a = true → a = b) : ∀ {l m : List α}, l.Pairwise (fun a b => le a b = true) → m.Pairwise (fun a b => le a b = true) → l.Perm m → l = m
  | [], m, _, _, p => (List.nil_perm.mp p).symm
  | a :: l, [], _, _, p => (List.perm_nil.mp p)
  | a :: l, b :: m, h1, h2, p => by
    have h1' := List.pairwise_cons.mp h1
    have h2' := List.pairwise_cons.mp h2
    have e : a = b := by
      rcases List.mem_cons.mp (p.mem_iff.mp (List.mem_cons_self (a := a) (l := l))) with e | ha
      · exact e
      · rcases List.mem_cons.mp (p.mem_iff.mpr (List.mem_cons_self (a := b) (l := m))) with e | hb
        · exact e.symm
        · exact anti a b (h1'.1 b hb) (h2'.1 a ha)
    subst e
    rw [order_one anti h1'.2 h2'.2 (List.Perm.cons_inv p)]
theorem sort_perm {α : Type} {le : α → α → Bool} (t : PySem.W.TotalLe le) (anti : ∀ a b, le a b = true → le b a = true → a = b) {l m : List α} (p : l.Perm m) : l.mergeSort le = m.mergeSort le :=
  order_one anti (PySem.W.sort_pairwise t l) (PySem.W.sort_pairwise t m) (((List.mergeSort_perm l le).trans p).trans (List.mergeSort_perm m le).symm)
end Kh

set_option maxRecDepth 100000
set_option maxHeartbeats 1000000
/-! comprehensions and loops over what stands for a list of anything -/
namespace Kh
open PySem PySem.Spec PyProof.Rows L2
def pick {α β : Type} (ms : List α) (d : β) (g : α → β) (j : Nat) : β := match ms[j]? with | some m => g m | none => d
theorem pick_eq {α β : Type} {ms : List α} {d : β} {g : α → β} {j : Nat} {m : α} (h : ms[j]? = some m) : pick ms d g j = g m := by unfold pick; rw [h]
theorem at_map {α β : Type} {ms : List α} {f : α → β} {j : Nat} {d : β} (h : (ms.map f)[j]? = some d) : ∃ m, ms[j]? = some m ∧ m ∈ ms ∧ d = f m := by
  rw [List.getElem?_map] at h
  cases e : ms[j]? with
  | none => rw [e] at h; cases h
  | some m => rw [e] at h; exact ⟨m, rfl, List.mem_of_getElem? e, (Option.some.inj h).symm⟩
theorem lcM {α : Type} {K : PySem.W.Frag} {S : Addr → Prop} {H : Hp} {σ : L2.St} {t te : TE} {sl : Nat} {vs : List Nat} {Q : VK} (b : Bool) (ms : List α) (f g : α → PyData) (kn : Kn S H)
    (hev : ∀ Q : VK, (∀ u H1, Same H H1 → Dp K (off S H1) u (sq b (ms.map f)) → Q u H1) → t σ H Q) (hn : ms.length ≤ 100000) (hw : ∀ x, wipe ((wipe σ vs).set sl (some x)) vs = wipe σ vs)
    (body : ∀ m ∈ ms, ∀ x H1 S', Same H H1 → Kn S' H1 → Dp K (off S' H1) x (f m) → (∀ a, S a → S' a) → Same (off S H) (off S' H1) → ∀ Q : VK, (∀ y H', Same H1 H' → Dp K (off S' H') y (g m) → Q y H') → te ((wipe σ vs).set sl (some x)) H1 Q)
    (done : ∀ D H1 ys, H D = none → Same H H1 → H1 D = some (.lst ys) → Dp K (off S H1) (.ref D) (.list (ms.map g)) → Q (.ref D) H1) :
    tLc (fun σ H R => iList K t σ H R ∨ iTup K t σ H R) (gName sl) tYes te vs σ H Q := by
  refine lc_seq (b := b) (ds := ms.map f) (pick ms .none g) kn hev (by rw [List.length_map]; exact hn) hw (fun j x d H1 S' dj s1 kn1 dx hS ho Q q => ?_) fun D H1 ys hD s1 hd h => done D H1 ys hD s1 hd ?_
  · obtain ⟨m, hj, hm, rfl⟩ := at_map dj
    exact body m hm x H1 S' s1 kn1 dx hS ho Q fun y H' s' d' => q y H' s' (by rw [pick_eq hj]; exact d')
  · rw [List.length_map] at h
    rw [range_map (g := g) fun i x e => pick_eq e] at h
    exact h
theorem lcF {α : Type} {K : PySem.W.Frag} {S : Addr → Prop} {H : Hp} {σ : L2.St} {t te : TE} {tt : TT} {sl : Nat} {vs : List Nat} {Q : VK} (b : Bool) (ms : List α) (p : α → Bool) (f g : α → PyData) (kn : Kn S H)
    (hev : ∀ Q : VK, (∀ u H1, Same H H1 → Dp K (off S H1) u (sq b (ms.map f)) → Q u H1) → t σ H Q) (hn : ms.length ≤ 100000) (hw : ∀ x, wipe ((wipe σ vs).set sl (some x)) vs = wipe σ vs)
    (test : ∀ m ∈ ms, ∀ x H1 S', Same H H1 → Kn S' H1 → Dp K (off S' H1) x (f m) → (∀ a, S a → S' a) → Same (off S H) (off S' H1) → ∀ Q : Bool → Hp → Prop, (∀ H', Same H1 H' → Q (p m) H') → tt ((wipe σ vs).set sl (some x)) H1 Q)
    (body : ∀ m ∈ ms, p m = true → ∀ x H1 S', Same H H1 → Kn S' H1 → Dp K (off S' H1) x (f m) → (∀ a, S a → S' a) → Same (off S H) (off S' H1) → ∀ Q : VK, (∀ y H', Same H1 H' → Dp K (off S' H') y (g m) → Q y H') → te ((wipe σ vs).set sl (some x)) H1 Q)
    (done : ∀ D H1 ys, H D = none → Same H H1 → H1 D = some (.lst ys) → Dp K (off S H1) (.ref D) (.list ((ms.filter p).map g)) → Q (.ref D) H1) :
    tLc (fun σ H R => iList K t σ H R ∨ iTup K t σ H R) (gName sl) tt te vs σ H Q := by
  refine lc_seqF (b := b) (ds := ms.map f) (pick ms false p) (pick ms .none g) kn hev (by rw [List.length_map]; exact hn) hw (fun j x d H1 S' dj s1 kn1 dx hS ho Q q => ?_) (fun j x d H1 S' dj pj s1 kn1 dx hS ho Q q => ?_) fun D H1 ys hD s1 hd h => done D H1 ys hD s1 hd ?_
  · obtain ⟨m, hj, hm, rfl⟩ := at_map dj
    exact test m hm x H1 S' s1 kn1 dx hS ho Q fun H' s' => by have := q H' s'; rwa [pick_eq hj] at this
  · obtain ⟨m, hj, hm, rfl⟩ := at_map dj
    rw [pick_eq hj] at pj
    exact body m hm pj x H1 S' s1 kn1 dx hS ho Q fun y H' s' d' => q y H' s' (by rw [pick_eq hj]; exact d')
  · rw [List.length_map] at h
    rw [range_filter (p := p) (g := g) fun i x e => ⟨pick_eq e, pick_eq e⟩] at h
    exact h
theorem forM {α : Type} {K : PySem.W.Frag} {S : Addr → Prop} {H : Hp} {σ : L2.St} {t : TE} {g : TG} {tb : TS} {D : Ends} (b : Bool) (ms : List α) (f : α → PyData) (kn : Kn S H)
    (hev : ∀ Q : VK, (∀ u H1, Same H H1 → Dp K (off S H1) u (sq b (ms.map f)) → Q u H1) → t σ H Q)
    (step : ∀ H1, Same H H1 → Kn S H1 → ∃ Pv : Nat → L2.St → Hp → Prop, Pv 0 σ H1 ∧ (∀ i σ' H', Pv i σ' H' → Same (off S H1) H') ∧
      (∀ i m x σ' H', ms[i]? = some m → i < ms.length → m ∈ ms → Dp K (off S H1) x (f m) → Pv i σ' H' → g x σ' H' fun σ2 H2 => tb { D with nx := Pv (i + 1), ct := Pv (i + 1), bk := D.nx } σ2 H2) ∧ (∀ σ' H', Pv ms.length σ' H' → D.nx σ' H')) :
    tFor (fun σ H R => iList K t σ H R ∨ iTup K t σ H R) g tb D σ H := by
  refine s_for (b := b) (ds := ms.map f) kn hev fun xs H1 s1 kn1 ha hl => ?_
  obtain ⟨Pv, h0, h1, h2, h3⟩ := step H1 s1 kn1
  refine ⟨Pv, h0, fun i σ' H' _ h => h1 i σ' H' h, fun i x d σ' H' di dx h => ?_, fun σ' H' h => h3 σ' H' (by rwa [List.length_map] at h)⟩
  obtain ⟨m, hj, hm, rfl⟩ := at_map di
  exact h2 i m x σ' H' hj (List.getElem?_eq_some_iff.mp hj).1 hm dx h
theorem lc2M {α β : Type} {K : PySem.W.Frag} {S : Addr → Prop} {H : Hp} {σ : L2.St} {t t2 te : TE} {s1 s2 : Nat} {vs vs1 : List Nat} {Q : VK} (b b2 : Bool) (ms : List α) (f : α → PyData) (ins : α → List β) (f2 : β → PyData) (g : α → β → PyData) (kn : Kn S H)
    (hev : ∀ Q : VK, (∀ u H1, Same H H1 → Dp K (off S H1) u (sq b (ms.map f)) → Q u H1) → t σ H Q) (hn : (ms.flatMap ins).length ≤ 100000) (hw : ∀ x, wipe ((wipe σ vs).set s1 (some x)) vs = wipe σ vs)
    (hw1 : ∀ x y, wipe ((wipe ((wipe σ vs).set s1 (some x)) vs1).set s2 (some y)) vs1 = wipe ((wipe σ vs).set s1 (some x)) vs1)
    (inner : ∀ m ∈ ms, ∀ x H1 S', Same H H1 → Kn S' H1 → Dp K (off S' H1) x (f m) → (∀ a, S a → S' a) → Same (off S H) (off S' H1) → ∀ Q : VK, (∀ y H', Same H1 H' → Dp K (off S' H') y (sq b2 ((ins m).map f2)) → Q y H') → t2 ((wipe σ vs).set s1 (some x)) H1 Q)
    (body : ∀ m ∈ ms, ∀ n ∈ ins m, ∀ x y H1 S', Same H H1 → Kn S' H1 → Dp K (off S' H1) x (f m) → Dp K (off S' H1) y (f2 n) → (∀ a, S a → S' a) → Same (off S H) (off S' H1) → ∀ Q : VK, (∀ z H', Same H1 H' → Dp K (off S' H') z (g m n) → Q z H') → te ((wipe ((wipe σ vs).set s1 (some x)) vs1).set s2 (some y)) H1 Q)
    (done : ∀ D H1 ys, H D = none → Same H H1 → H1 D = some (.lst ys) → Dp K (off S H1) (.ref D) (.list (ms.flatMap fun m => (ins m).map (g m))) → Q (.ref D) H1) :
    tLc2 (fun σ H R => iList K t σ H R ∨ iTup K t σ H R) (gName s1) tYes (fun σ H R => iList K t2 σ H R ∨ iTup K t2 σ H R) (gName s2) tYes te vs vs1 σ H Q := by
  refine it_any hev fun J xs H1 s ha w D hD => ?_
  have ln := dpa_len ha
  rw [List.length_map] at ln
  have kn1 := kn.same s
  have tk : ∀ n, ((ms.take n).flatMap fun m => (ins m).map (g m)).length ≤ 100000 := fun n => by
    have e : (ms.flatMap fun m => (ins m).map (g m)).length = (ms.flatMap ins).length := by
      rw [List.length_flatMap, List.length_flatMap]; simp
    have h : (ms.flatMap fun m => (ins m).map (g m)).length = ((ms.take n).flatMap fun m => (ins m).map (g m)).length + ((ms.drop n).flatMap fun m => (ins m).map (g m)).length := by
      rw [← List.length_append, ← List.flatMap_append, List.take_append_drop]
    omega
  have step : ∀ n m, ms[n]? = some m → ((ms.take (n + 1)).flatMap fun m => (ins m).map (g m)) = ((ms.take n).flatMap fun m => (ins m).map (g m)) ++ (ins m).map (g m) := fun n m e => by
    rw [List.take_add_one, e, List.flatMap_append]; simp
  refine wlk w (fun x H' Nx => gName s1 x (wipe σ vs) H' _) (fun i H' => ∃ ys, DpAll K (off (plus S D) H') ys ((ms.take i).flatMap fun m => (ins m).map (g m)) ∧ Same H1 H' ∧ H' D = some (.lst ys)) ⟨[], .nil, same_new hD, upd_same⟩ (fun i H' _ ⟨_, _, z, _⟩ => off_sub.trans z) ?_ ?_
  · rintro i x H2 H3 hi ⟨ys, py, z, hd⟩ ⟨rfl, xi⟩
    obtain ⟨d, dj, dx⟩ := dpa_at ha xi
    obtain ⟨m, hj, hm, rfl⟩ := at_map dj
    refine ⟨hw x, t_yes ?_⟩
    have dx3 := dp_same (off_plus hD z) _ _ dx
    have off3 : Same (off S H) (off (plus S D) H3) := (off_same s).trans (off_plus hD z)
    refine it_any (b := b2) (S := plus S D) (ds := (ins m).map f2) (fun Q q => inner m hm x H3 (plus S D) (s.trans z) ((kn1.same z).plus (some_ne hd)) dx3 (fun _ h => .inl h) off3 Q q) fun J1 zs H4 s4 hz w1 => ?_
    have lz := dpa_len hz
    rw [List.length_map] at lz
    have kn4 : Kn (plus S D) H4 := ((kn1.same z).plus (some_ne hd)).same s4
    refine wlk w1 (fun y H' Nx => gName s2 y (wipe ((wipe σ vs).set s1 (some x)) vs1) H' fun σ3 H5 => wipe σ3 vs1 = wipe ((wipe σ vs).set s1 (some x)) vs1 ∧ tYes σ3 H5 fun b H6 => if b = true then te σ3 H6 fun y H7 => ∃ acc, H7 D = some (.lst acc) ∧ acc.length < sizeLine ∧ Nx (upd H7 D (.lst (acc ++ [y]))) else Nx H6) (fun j H' => ∃ ys', DpAll K (off (plus S D) H') ys' (((ms.take i).flatMap fun m => (ins m).map (g m)) ++ ((ins m).map (g m)).take j) ∧ SameBut D H4 H' ∧ H' D = some (.lst ys')) ⟨ys, by simpa using dpa_same (off_same s4) _ _ py, sbut (Same.refl _), s4 _ _ hd⟩ (fun j H' _ ⟨_, _, z', _⟩ => fun c o h => z' c o (fun e => (off_some h).1 (.inr e)) (off_some h).2) ?_ fun H5 h5 => ?_
    · rintro j y H5 H6 hjz ⟨ys', py', z', hd'⟩ ⟨rfl, yj⟩
      obtain ⟨e, ej, de⟩ := dpa_at hz yj
      obtain ⟨n, nj, hn', rfl⟩ := at_map ej
      refine ⟨hw1 x y, t_yes ?_⟩
      have hl : ys'.length ≤ 100000 := by
        have h1 := dpa_len py'
        have h2 := tk (i + 1)
        rw [step i m hj, List.length_append] at h2
        rw [h1, List.length_append, List.length_take]
        omega
      have sH6 : Same H H6 := fun b o h => by
        have h1 : H1 b = some o := s b o h
        exact z' b o (ne_of_none h1 hD) (s4 b o (z b o h1))
      have k6 : Kn (plus S D) H6 := fun b hb => by
        by_cases e : b = D
        · subst e; exact some_ne hd'
        · cases hq : H4 b with
          | none => exact (kn4 b hb hq).elim
          | some o => exact some_ne (z' b o e hq)
      have ob6 : Same (off (plus S D) H4) (off (plus S D) H6) := off_but z'
      refine body m hm n hn' x y H6 (plus S D) sH6 k6 (dp_same ((off_same s4).trans ob6) _ _ dx3) (dp_same ob6 _ _ de) (fun _ h => .inl h) ((off3.trans (off_same s4)).trans ob6) _ fun u H7 s7 d7 => ?_
      refine ⟨ys', s7 _ _ hd', Nat.lt_of_le_of_lt hl (by decide), ys' ++ [u], ?_, bmut fun b o n h => s7 b o (z' b o n h), upd_same⟩
      rw [off_mut (show plus S D D from .inr rfl), List.take_add_one, List.getElem?_map, nj, ← List.append_assoc]
      exact dpa_app (dpa_same (off_same s7) _ _ py') (.cons d7 .nil)
    · obtain ⟨ys', py', z', hd'⟩ := h5
      refine ⟨ys', ?_, ?_, hd'⟩
      · rw [step i m hj]
        rwa [List.take_of_length_le (show ((ins m).map (g m)).length ≤ zs.length by rw [List.length_map]; omega)] at py'
      · intro c o h
        exact z' c o (ne_of_none h hD) (s4 c o (z c o h))
  · rintro H2 ⟨ys, py, z, hd⟩
    refine done D H2 ys (s.free hD) (s.trans z) hd (dp_lst (kn1.new hD) hd ?_)
    rw [ln, List.take_length] at py
    exact dpa_same (off_fin (D := D)) _ _ py
end Kh

namespace K31
open Kh
/-! all lists of some, those that barely stand -/
theorem snoc_ind {α : Type} {P : List α → Prop} (h0 : P []) (h1 : ∀ l a, P l → P (l ++ [a])) (l : List α) : P l := by
  have go : ∀ r : List α, P r.reverse := fun r => by
    induction r with
    | nil => exact h0
    | cons a r ih => rw [List.reverse_cons]; exact h1 _ _ ih
  have := go l.reverse
  rwa [List.reverse_reverse] at this
def lists (ns : List Nat) : List (List Nat) := ns.foldl (fun f n => f ++ f.map (· ++ [n])) [[]]
theorem lists_nil : lists [] = [[]] := rfl
theorem lists_snoc (ns : List Nat) (n : Nat) : lists (ns ++ [n]) = lists ns ++ (lists ns).map (· ++ [n]) := by
  unfold lists; rw [List.foldl_append]; rfl
theorem lists_mem (ns : List Nat) : ∀ m, m ∈ lists ns ↔ m.Sublist ns := by
  refine snoc_ind (P := fun ns => ∀ m, m ∈ lists ns ↔ m.Sublist ns) ?_ ?_ ns
  · intro m; rw [lists_nil, List.mem_singleton, List.sublist_nil]
  · intro l a ih m
    rw [lists_snoc, List.mem_append, ih, List.mem_map, List.sublist_append_iff]
    constructor
    · rintro (h | ⟨x, hx, rfl⟩)
      · exact ⟨m, [], by simp, h, List.nil_sublist _⟩
      · exact ⟨x, [a], rfl, (ih x).mp hx, List.Sublist.refl _⟩
    · rintro ⟨x, y, rfl, hx, hy⟩
      cases hy with
      | cons _ h => rw [List.sublist_nil.mp h, List.append_nil]; exact .inl hx
      | cons_cons _ h => rw [List.sublist_nil.mp h]; exact .inr ⟨x, (ih x).mpr hx, rfl⟩
theorem lists_len (ns : List Nat) : (lists ns).length = 2 ^ ns.length := by
  refine snoc_ind (P := fun ns => (lists ns).length = 2 ^ ns.length) rfl (fun l a ih => ?_) ns
  rw [lists_snoc, List.length_append, List.length_map, ih, List.length_append, List.length_singleton, Nat.pow_succ]; omega
theorem lists_nodup (ns : List Nat) : ns.Nodup → (lists ns).Nodup := by
  refine snoc_ind (P := fun ns => ns.Nodup → (lists ns).Nodup) (fun _ => by rw [lists_nil]; simp) (fun l a ih h => ?_) ns
  have h' := List.nodup_append.mp h
  rw [lists_snoc]
  refine List.nodup_append.mpr ⟨ih h'.1, List.pairwise_map.mpr ((ih h'.1).imp fun {x y} n e => n (List.append_cancel_right e)), fun x hx y hy e => ?_⟩
  obtain ⟨z, hz, rfl⟩ := List.mem_map.mp hy
  subst e
  have := ((lists_mem l _).mp hx).subset (List.mem_append_right _ (List.mem_singleton.mpr rfl))
  exact h'.2.2 a this a (List.mem_singleton.mpr rfl) rfl
theorem sub_nodup {m ns : List Nat} (h : m.Sublist ns) (n : ns.Nodup) : m.Nodup := h.nodup n
/-- standing hangs on the set alone -/
theorem cnt_mono {ps : List Kh.T} {p q : Kh.T → Bool} (h : ∀ t ∈ ps, p t = true → q t = true) : (ps.filter p).length ≤ (ps.filter q).length := by
  induction ps with
  | nil => exact Nat.le_refl _
  | cons t ps ih =>
    have := ih fun u hu => h u (List.mem_cons_of_mem _ hu)
    have ht := h t List.mem_cons_self
    rw [List.filter_cons, List.filter_cons]
    cases hp : p t with
    | true => rw [ht hp]; simp only [if_true, List.length_cons]; omega
    | false =>
      cases q t <;> simp only [if_true, Bool.false_eq_true, if_false, List.length_cons] <;> omega
theorem st_mono : ∀ (t : Kh.T) (s s' : List Nat), (∀ n ∈ lv t, n ∈ s → n ∈ s') → st s t = true → st s' t = true := Kh.T.ind
  (fun n s s' h e => by
    rw [st_leaf] at *
    exact decide_eq_true (h n (by rw [lv_leaf]; exact List.mem_singleton.mpr rfl) (of_decide_eq_true e)))
  fun b k ps ih s s' h e => by
    rw [st_gate] at *
    refine decide_eq_true (Nat.le_trans (of_decide_eq_true e) (cnt_mono fun t ht => ih t ht s s' fun n hn => h n ?_))
    rw [lv_gate]; exact List.mem_flatMap.mpr ⟨t, ht, hn⟩
theorem st_same {t : Kh.T} {s s' : List Nat} (h : ∀ n ∈ lv t, n ∈ s ↔ n ∈ s') : st s t = st s' t := by
  cases e : st s' t with
  | true => exact st_mono t s' s (fun n hn => (h n hn).mpr) e
  | false =>
    cases e' : st s t with
    | false => rfl
    | true => rw [st_mono t s s' (fun n hn => (h n hn).mp) e'] at e; cases e
/-- a set without one -/
def less (m : List Nat) (h : Nat) : List Nat := m.filter fun n => decide (n ≠ h)
theorem less_mem {m : List Nat} {h n : Nat} : n ∈ less m h ↔ n ∈ m ∧ n ≠ h := by
  unfold less; rw [List.mem_filter, decide_eq_true_iff]
def barely (t : Kh.T) (m : List Nat) : Bool := st m t && !(m.map fun h => st (less m h) t).any id
theorem barely_iff {t : Kh.T} {m : List Nat} : barely t m = true ↔ st m t = true ∧ ∀ h ∈ m, st (less m h) t = false := by
  unfold barely
  rw [Bool.and_eq_true, Bool.not_eq_true', List.any_eq_false]
  refine and_congr Iff.rfl ⟨fun h n hn => ?_, fun h b hb => ?_⟩
  · have := h _ (List.mem_map.mpr ⟨n, hn, rfl⟩)
    simpa using this
  · obtain ⟨n, hn, rfl⟩ := List.mem_map.mp hb
    simp [h n hn]
theorem barely_same {t : Kh.T} {m l : List Nat} (h : ∀ n, n ∈ m ↔ n ∈ l) : barely t m = barely t l := by
  have go : ∀ {m l : List Nat}, (∀ n, n ∈ m ↔ n ∈ l) → barely t m = true → barely t l = true := fun {m l} h e => by
    obtain ⟨e1, e2⟩ := barely_iff.mp e
    refine barely_iff.mpr ⟨by rw [← e1]; exact st_same fun n _ => (h n).symm, fun n hn => ?_⟩
    rw [← e2 n ((h n).mpr hn)]
    exact st_same fun k _ => by rw [less_mem, less_mem, h]
  cases e : barely t l with
  | true => exact go (fun n => (h n).symm) e
  | false =>
    cases e' : barely t m with
    | false => rfl
    | true => rw [go h e'] at e; cases e
/-- what stands has some that barely stands within -/
theorem barely_in {t : Kh.T} : ∀ (k : Nat) (m : List Nat), m.length ≤ k → st m t = true → ∃ l, l.Sublist m ∧ barely t l = true
  | 0, m, hk, h => ⟨m, List.Sublist.refl _, barely_iff.mpr ⟨h, fun n hn => by rw [List.eq_nil_of_length_eq_zero (Nat.le_zero.mp hk)] at hn; cases hn⟩⟩
  | k + 1, m, hk, h => by
    by_cases hb : barely t m = true
    · exact ⟨m, List.Sublist.refl _, hb⟩
    · have : ∃ n ∈ m, st (less m n) t = true := by
        refine Classical.byContradiction fun hc => hb (barely_iff.mpr ⟨h, fun n hn => ?_⟩)
        cases e : st (less m n) t with
        | false => rfl
        | true => exact (hc ⟨n, hn, e⟩).elim
      obtain ⟨n, hn, e⟩ := this
      have hs : (less m n).Sublist m := List.filter_sublist
      have hl : (less m n).length < m.length := by
        refine Nat.lt_of_le_of_ne hs.length_le fun z => ?_
        have := hs.eq_of_length z
        have hn' : n ∈ less m n := by rw [this]; exact hn
        exact (less_mem.mp hn').2 rfl
      obtain ⟨l, hl1, hl2⟩ := barely_in k (less m n) (by omega) e
      exact ⟨l, hl1.trans hs, hl2⟩
/-- the law's own meetings -/
def lawStep (t : Kh.T) (f : List (List Nat)) (m : List Nat) : List (List Nat) := if st m t = true ∧ (f.filter fun l => (l.map fun n => decide (n ∈ m)).all id) = [] then f ++ [m] else f
theorem rise_sub : ∀ (l m : List Nat), l.Pairwise (· < ·) → m.Pairwise (· < ·) → (∀ n, n ∈ l → n ∈ m) → l.Sublist m := by
  intro l m
  induction m generalizing l with
  | nil =>
    intro _ _ h
    cases l with
    | nil => exact List.Sublist.refl _
    | cons a l => cases h a List.mem_cons_self
  | cons b m ih =>
    intro p1 p2 h
    cases l with
    | nil => exact List.nil_sublist _
    | cons a l =>
      have p1' := List.pairwise_cons.mp p1
      have p2' := List.pairwise_cons.mp p2
      by_cases e : a = b
      · subst e
        refine (ih l p1'.2 p2'.2 fun n hn => ?_).cons_cons _
        rcases List.mem_cons.mp (h n (List.mem_cons_of_mem _ hn)) with e | e
        · subst e; exact (Nat.lt_irrefl _ (p1'.1 _ hn)).elim
        · exact e
      · refine (ih (a :: l) p1 p2'.2 fun n hn => ?_).cons b
        rcases List.mem_cons.mp (h n hn) with e' | e'
        · subst e'
          rcases List.mem_cons.mp hn with e2 | e2
          · exact (e e2.symm).elim
          · have q := p1'.1 _ e2
            rcases List.mem_cons.mp (h a List.mem_cons_self) with e3 | e3
            · exact (e e3).elim
            · have := p2'.1 _ e3; omega
        · exact e'
theorem sub_set {l m ns : List Nat} (nd : ns.Pairwise (· < ·)) (h1 : l.Sublist ns) (h2 : m.Sublist ns) (h : ∀ n, n ∈ l → n ∈ m) : l.Sublist m := rise_sub l m (nd.sublist h1) (nd.sublist h2) h
theorem law_meets {t : Kh.T} {ns : List Nat} (nd : ns.Pairwise (· < ·)) : ∀ (L : List (List Nat)), (∀ m ∈ L, m.Sublist ns) → (∀ m, m.Sublist ns → m ∈ L) → L.Nodup → L.Pairwise (fun a b => a.length ≤ b.length) → L.foldl (lawStep t) [] = L.filter (barely t) := by
  intro L hs hall hn hp
  have go : ∀ (R : List (List Nat)) (Q : List (List Nat)), L = Q ++ R → R.foldl (lawStep t) (Q.filter (barely t)) = L.filter (barely t) := by
    intro R
    induction R with
    | nil => intro Q e; rw [e, List.append_nil]; rfl
    | cons m R ih =>
      intro Q e
      have step : lawStep t (Q.filter (barely t)) m = (Q ++ [m]).filter (barely t) := by
        unfold lawStep
        have hm : m.Sublist ns := hs m (by rw [e]; simp)
        have pw := List.pairwise_append.mp (by rw [e] at hp; exact hp)
        have nw := List.nodup_append.mp (by rw [e] at hn; exact hn)
        rw [List.filter_append]
        cases hb : barely t m with
        | true =>
          obtain ⟨b1, b2⟩ := barely_iff.mp hb
          rw [if_pos, List.filter_cons_of_pos hb]; rfl
          refine ⟨b1, List.filter_eq_nil_iff.mpr fun l hl hc => ?_⟩
          obtain ⟨hq, hl⟩ := List.mem_filter.mp hl
          have sub : ∀ n ∈ l, n ∈ m := fun n hn => by
            have := List.all_eq_true.mp hc _ (List.mem_map.mpr ⟨n, hn, rfl⟩)
            exact of_decide_eq_true this
          by_cases same : ∀ n ∈ m, n ∈ l
          · have s1 := sub_set nd (hs l (by rw [e]; simp [hq])) hm sub
            have s2 := sub_set nd hm (hs l (by rw [e]; simp [hq])) same
            exact nw.2.2 l hq m List.mem_cons_self (s1.eq_of_length_le s2.length_le)
          · have : ∃ n, n ∈ m ∧ n ∉ l := Classical.byContradiction fun hc => same fun n hn => Classical.byContradiction fun h => hc ⟨n, hn, h⟩
            obtain ⟨n, hn, hnl⟩ := this
            have h1 := b2 n hn
            rw [st_mono t l (less m n) (fun k _ hk => less_mem.mpr ⟨sub k hk, fun z => hnl (z ▸ hk)⟩) (barely_iff.mp hl).1] at h1
            cases h1
        | false =>
          rw [if_neg, List.filter_cons_of_neg (by rw [hb]; exact Bool.false_ne_true), List.filter_nil, List.append_nil]
          rintro ⟨h1, h2⟩
          have : ∃ n ∈ m, st (less m n) t = true := by
            refine Classical.byContradiction fun hc => ?_
            rw [barely_iff.mpr ⟨h1, fun n hn => ?_⟩] at hb
            · cases hb
            · cases e : st (less m n) t with
              | false => rfl
              | true => exact (hc ⟨n, hn, e⟩).elim
          obtain ⟨n, hn, hst⟩ := this
          obtain ⟨l, hl, hlb⟩ := barely_in _ _ (Nat.le_refl _) hst
          have lm : (less m n).Sublist m := List.filter_sublist
          have lt : l.length < m.length := by
            refine Nat.lt_of_le_of_ne (hl.trans lm).length_le fun z => ?_
            have := (hl.trans lm).eq_of_length z
            have hn' : n ∈ l := by rw [this]; exact hn
            exact (less_mem.mp (hl.subset hn')).2 rfl
          have lQ : l ∈ Q := by
            have lL : l ∈ L := hall l ((hl.trans lm).trans hm)
            rw [e] at lL
            rcases List.mem_append.mp lL with h | h
            · exact h
            · rcases List.mem_cons.mp h with h | h
              · subst h; omega
              · have := (List.pairwise_cons.mp pw.2.1).1 l h; omega
          have hnil := List.filter_eq_nil_iff.mp h2 l (List.mem_filter.mpr ⟨lQ, hlb⟩)
          refine hnil (List.all_eq_true.mpr fun b hb' => ?_)
          obtain ⟨k, hk, rfl⟩ := List.mem_map.mp hb'
          exact decide_eq_true (lm.subset (hl.subset hk))
      rw [List.foldl_cons, step]
      exact ih (Q ++ [m]) (by rw [e, List.append_assoc]; rfl)
  have := go L [] rfl
  simpa using this
end K31

namespace K31
open Kh
/-! meetings of plain trees -/
def unions : List (List (List Nat)) → Nat → List (List Nat)
  | _, 0 => [[]]
  | [], _ + 1 => []
  | c :: cs, k + 1 => c.flatMap (fun x => (unions cs k).map (x ++ ·)) ++ unions cs (k + 1)
theorem unions_zero (cs : List (List (List Nat))) : unions cs 0 = [[]] := by cases cs <;> rfl
theorem unions_none : ∀ (cs : List (List (List Nat))) (k : Nat), cs.length < k → unions cs k = []
  | _, 0, h => by omega
  | [], _ + 1, _ => rfl
  | c :: cs, k + 1, h => by
    rw [List.length_cons] at h
    rw [unions, unions_none cs k (by omega), unions_none cs (k + 1) (by omega)]
    simp
mutual
def pm : Kh.T → List (List Nat)
  | .leaf n => [[n]]
  | .gate _ k ps => unions (pms ps) k
def pms : List Kh.T → List (List (List Nat))
  | [] => []
  | p :: ps => pm p :: pms ps
end
theorem pms_map : ∀ ps : List Kh.T, pms ps = ps.map pm
  | [] => by simp [pms]
  | p :: ps => by simp [pms, pms_map ps]
theorem pm_leaf (n : Nat) : pm (.leaf n) = [[n]] := by rw [pm]
theorem pm_gate (b : Bool) (k : Nat) (ps : List Kh.T) : pm (.gate b k ps) = unions (ps.map pm) k := by rw [pm, pms_map]
structure Rep (ls : List (List Nat)) (vs : List Nat) (Pr : List Nat → Prop) : Prop where
  sound : ∀ x ∈ ls, x.Nodup ∧ (∀ n ∈ x, n ∈ vs) ∧ Pr x
  whole : ∀ m, (∀ n ∈ m, n ∈ vs) → Pr m → ∃ x ∈ ls, ∀ n, n ∈ x ↔ n ∈ m
  one : ls.Pairwise (fun x y => ¬ ∀ n, n ∈ x ↔ n ∈ y)
def cnt (x : List Nat) (ps : List Kh.T) : Nat := (ps.filter (st x)).length
theorem cnt_cons (x : List Nat) (p : Kh.T) (ps : List Kh.T) : cnt x (p :: ps) = (if st x p = true then 1 else 0) + cnt x ps := by
  unfold cnt; rw [List.filter_cons]
  cases st x p <;> simp [Nat.add_comm]
theorem cnt_same {x y : List Nat} : ∀ {ps : List Kh.T}, (∀ n ∈ ps.flatMap lv, n ∈ x ↔ n ∈ y) → cnt x ps = cnt y ps
  | [], _ => rfl
  | p :: ps, h => by
    rw [List.flatMap_cons] at h
    rw [cnt_cons, cnt_cons, cnt_same (ps := ps) fun n hn => h n (List.mem_append_right _ hn), st_same (t := p) fun n hn => h n (List.mem_append_left _ hn)]
def bar (ps : List Kh.T) (k : Nat) (x : List Nat) : Prop := cnt x ps = k ∧ ∀ p ∈ ps, ∀ h ∈ x, h ∈ lv p → st x p = true ∧ st (less x h) p = false
theorem st_nil : ∀ t : Kh.T, Wf t → st [] t = false := Kh.T.ind (fun n _ => by rw [st_leaf]; rfl) fun b k ps ih h => by
  rw [wf_gate] at h
  rw [st_gate]
  have : ps.filter (st []) = [] := List.filter_eq_nil_iff.mpr fun p hp => by rw [ih p hp (h.2.2 p hp)]; exact Bool.false_ne_true
  rw [this]
  exact decide_eq_false (by simp; omega)
theorem cnt_nil {ps : List Kh.T} (h : ∀ p ∈ ps, Wf p) : cnt [] ps = 0 := by
  unfold cnt
  rw [List.filter_eq_nil_iff.mpr fun p hp => by rw [st_nil p (h p hp)]; exact Bool.false_ne_true]; rfl
theorem rep_unions : ∀ (ps : List Kh.T) (k : Nat), (ps.flatMap lv).Nodup → (∀ p ∈ ps, Wf p) → (∀ p ∈ ps, Rep (pm p) (lv p) fun m => barely p m = true) → Rep (unions (ps.map pm) k) (ps.flatMap lv) (bar ps k)
  | ps, 0, nd, wf, ih => by
    rw [unions_zero]
    have c0 := cnt_nil wf
    refine ⟨fun x hx => ?_, fun m hm hb => ?_, List.pairwise_singleton _ _⟩
    · rw [List.mem_singleton.mp hx]
      exact ⟨List.nodup_nil, fun n hn => (nomatch hn), c0, fun p _ h hh => (nomatch hh)⟩
    · refine ⟨[], List.mem_singleton.mpr rfl, fun n => ⟨fun h => (nomatch h), fun hn => ?_⟩⟩
      obtain ⟨p, hp, hnp⟩ := List.mem_flatMap.mp (hm n hn)
      have s := (hb.2 p hp n hn hnp).1
      have : p ∈ ps.filter (st m) := List.mem_filter.mpr ⟨hp, s⟩
      rw [List.eq_nil_of_length_eq_zero hb.1] at this
      cases this
  | [], k + 1, nd, wf, ih => by
    refine ⟨fun x hx => (nomatch hx), fun m _ hb => ?_, .nil⟩
    have := hb.1
    simp [cnt] at this
  | p :: ps, k + 1, nd, wf, ih => by
    rw [List.flatMap_cons] at nd
    obtain ⟨n1, n2, n3⟩ := List.nodup_append.mp nd
    have wf' : ∀ q ∈ ps, Wf q := fun q hq => wf q (List.mem_cons_of_mem _ hq)
    have ih' : ∀ q ∈ ps, Rep (pm q) (lv q) fun m => barely q m = true := fun q hq => ih q (List.mem_cons_of_mem _ hq)
    have r1 := rep_unions ps k n2 wf' ih'
    have r2 := rep_unions ps (k + 1) n2 wf' ih'
    have rp := ih p List.mem_cons_self
    have off1 : ∀ {n}, n ∈ lv p → n ∉ ps.flatMap lv := fun h1 h2 => n3 _ h1 _ h2 rfl
    rw [List.map_cons, unions, List.flatMap_cons]
    have memX : ∀ x, x ∈ (pm p).flatMap (fun x => (unions (ps.map pm) k).map (x ++ ·)) ↔ ∃ a ∈ pm p, ∃ b ∈ unions (ps.map pm) k, x = a ++ b := fun x => by
      rw [List.mem_flatMap]
      refine exists_congr fun a => and_congr Iff.rfl ?_
      rw [List.mem_map]
      exact exists_congr fun b => and_congr Iff.rfl eq_comm
    refine ⟨fun x hx => ?_, fun m hm hb => ?_, ?_⟩
    · rcases List.mem_append.mp hx with hx | hx
      · obtain ⟨a, ha, b, hb, rfl⟩ := (memX x).mp hx
        obtain ⟨a1, a2, a3⟩ := rp.sound a ha
        obtain ⟨b1, b2, b3⟩ := r1.sound b hb
        have sp : ∀ n, n ∈ lv p → (n ∈ a ++ b ↔ n ∈ a) := fun n hn => by
          rw [List.mem_append]; exact ⟨fun h => h.elim id fun h => (off1 hn (b2 n h)).elim, .inl⟩
        have sr : ∀ n, n ∈ ps.flatMap lv → (n ∈ a ++ b ↔ n ∈ b) := fun n hn => by
          rw [List.mem_append]; exact ⟨fun h => h.elim (fun h => (off1 (a2 n h) hn).elim) id, .inr⟩
        obtain ⟨c1, c2⟩ := barely_iff.mp a3
        have e1 : st (a ++ b) p = true := by rw [st_same (sp)]; exact c1
        refine ⟨List.nodup_append.mpr ⟨a1, b1, fun n hn n' hn' e => off1 (a2 n hn) (e ▸ b2 n' hn')⟩, fun n hn => ?_, ?_, ?_⟩
        · rcases List.mem_append.mp hn with h | h
          · exact List.mem_append_left _ (a2 n h)
          · exact List.mem_append_right _ (b2 n h)
        · rw [cnt_cons, if_pos e1, cnt_same sr, b3.1]; omega
        · intro q hq h hh hq'
          rcases List.mem_cons.mp hq with rfl | hq
          · refine ⟨e1, ?_⟩
            have ha' : h ∈ a := (sp h hq').mp hh
            rw [← c2 h ha']
            exact st_same fun n hn => by rw [less_mem, less_mem, sp n hn]
          · have hr : ∀ n ∈ lv q, n ∈ ps.flatMap lv := fun n hn => List.mem_flatMap.mpr ⟨q, hq, hn⟩
            have hb' : h ∈ b := (sr h (hr h hq')).mp hh
            obtain ⟨d1, d2⟩ := b3.2 q hq h hb' hq'
            refine ⟨by rw [← d1]; exact st_same fun n hn => sr n (hr n hn), ?_⟩
            rw [← d2]
            exact st_same fun n hn => by rw [less_mem, less_mem, sr n (hr n hn)]
      · obtain ⟨b1, b2, b3⟩ := r2.sound x hx
        have e1 : st x p = false := by
          rw [← st_nil p (wf p List.mem_cons_self)]
          exact st_same fun n hn => ⟨fun h => (off1 hn (b2 n h)).elim, fun h => (nomatch h)⟩
        refine ⟨b1, fun n hn => List.mem_append_right _ (b2 n hn), ?_, ?_⟩
        · rw [cnt_cons, if_neg (by rw [e1]; exact Bool.false_ne_true), b3.1]; omega
        · intro q hq h hh hq'
          rcases List.mem_cons.mp hq with rfl | hq
          · exact (off1 hq' (b2 h hh)).elim
          · exact b3.2 q hq h hh hq'
    · -- split m
      have f1 : ∀ n, n ∈ lv p → (n ∈ m ↔ n ∈ m.filter fun n => decide (n ∈ lv p)) := fun n hn => by
        rw [List.mem_filter, decide_eq_true_iff]; exact ⟨fun h => ⟨h, hn⟩, fun h => h.1⟩
      have f2 : ∀ n, n ∈ ps.flatMap lv → (n ∈ m ↔ n ∈ m.filter fun n => decide (n ∈ ps.flatMap lv)) := fun n hn => by
        rw [List.mem_filter, decide_eq_true_iff]; exact ⟨fun h => ⟨h, hn⟩, fun h => h.1⟩
      have bR : ∀ j, cnt m ps = j → bar ps j (m.filter fun n => decide (n ∈ ps.flatMap lv)) := fun j e => by
        refine ⟨by rw [← e]; exact cnt_same fun n hn => (f2 n hn).symm, fun q hq h hh hq' => ?_⟩
        have hr : ∀ n ∈ lv q, n ∈ ps.flatMap lv := fun n hn => List.mem_flatMap.mpr ⟨q, hq, hn⟩
        obtain ⟨d1, d2⟩ := hb.2 q (List.mem_cons_of_mem _ hq) h (List.mem_filter.mp hh).1 hq'
        refine ⟨by rw [← d1]; exact st_same fun n hn => (f2 n (hr n hn)).symm, ?_⟩
        rw [← d2]
        exact st_same fun n hn => by rw [less_mem, less_mem, f2 n (hr n hn)]
      have inR : ∀ n ∈ m.filter (fun n => decide (n ∈ ps.flatMap lv)), n ∈ ps.flatMap lv := fun n hn => of_decide_eq_true (List.mem_filter.mp hn).2
      have hc := hb.1
      rw [cnt_cons] at hc
      cases e : st m p with
      | true =>
        rw [e, if_pos rfl] at hc
        obtain ⟨b, hb1, hb2⟩ := r1.whole _ inR (bR k (by omega))
        have bl : barely p (m.filter fun n => decide (n ∈ lv p)) = true := barely_iff.mpr ⟨by rw [← e]; exact st_same fun n hn => (f1 n hn).symm, fun h hh => by
          obtain ⟨h1, h2⟩ := List.mem_filter.mp hh
          rw [← (hb.2 p List.mem_cons_self h h1 (of_decide_eq_true h2)).2]
          exact st_same fun n hn => by rw [less_mem, less_mem, f1 n hn]⟩
        obtain ⟨a, ha1, ha2⟩ := rp.whole _ (fun n hn => of_decide_eq_true (List.mem_filter.mp hn).2) bl
        refine ⟨a ++ b, List.mem_append_left _ ((memX _).mpr ⟨a, ha1, b, hb1, rfl⟩), fun n => ?_⟩
        rw [List.mem_append, ha2, hb2, List.mem_filter, List.mem_filter, decide_eq_true_iff, decide_eq_true_iff]
        refine ⟨fun h => h.elim (·.1) (·.1), fun h => ?_⟩
        rcases List.mem_append.mp (hm n h) with h' | h'
        · exact .inl ⟨h, h'⟩
        · exact .inr ⟨h, h'⟩
      | false =>
        rw [e, if_neg Bool.false_ne_true, Nat.zero_add] at hc
        obtain ⟨b, hb1, hb2⟩ := r2.whole _ inR (bR (k + 1) hc)
        refine ⟨b, List.mem_append_right _ hb1, fun n => ?_⟩
        rw [hb2, List.mem_filter, decide_eq_true_iff]
        refine ⟨fun h => h.1, fun h => ⟨h, ?_⟩⟩
        rcases List.mem_append.mp (hm n h) with h' | h'
        · have := (hb.2 p List.mem_cons_self n h h').1
          rw [e] at this; cases this
        · exact h'
    · refine List.pairwise_append.mpr ⟨List.pairwise_flatMap.mpr ⟨fun a ha => ?_, ?_⟩, r2.one, fun x hx y hy h => ?_⟩
      · refine List.pairwise_map.mpr (r1.one.imp_of_mem fun {b b'} hb hb' hne h => hne fun n => ?_)
        have a2 := (rp.sound a ha).2.1
        have b2 := (r1.sound b hb).2.1
        have b2' := (r1.sound b' hb').2.1
        have := h n
        rw [List.mem_append, List.mem_append] at this
        constructor
        · intro hn
          rcases this.mp (.inr hn) with h' | h'
          · exact (off1 (a2 n h') (b2 n hn)).elim
          · exact h'
        · intro hn
          rcases this.mpr (.inr hn) with h' | h'
          · exact (off1 (a2 n h') (b2' n hn)).elim
          · exact h'
      · refine rp.one.imp_of_mem fun {a a'} ha ha' hne x hx y hy h => hne fun n => ?_
        obtain ⟨b, hb, rfl⟩ := List.mem_map.mp hx
        obtain ⟨b', hb', rfl⟩ := List.mem_map.mp hy
        have a2 := (rp.sound a ha).2.1
        have a2' := (rp.sound a' ha').2.1
        have b2 := (r1.sound b hb).2.1
        have b2' := (r1.sound b' hb').2.1
        have := h n
        rw [List.mem_append, List.mem_append] at this
        constructor
        · intro hn
          rcases this.mp (.inl hn) with h' | h'
          · exact h'
          · exact (off1 (a2 n hn) (b2' n h')).elim
        · intro hn
          rcases this.mpr (.inl hn) with h' | h'
          · exact h'
          · exact (off1 (a2' n hn) (b2 n h')).elim
      · obtain ⟨a, ha, b, hb, rfl⟩ := (memX x).mp hx
        obtain ⟨_, a2, a3⟩ := rp.sound a ha
        have y2 := (r2.sound y hy).2.1
        have : a = [] := List.eq_nil_iff_forall_not_mem.mpr fun n hn => off1 (a2 n hn) (y2 n ((h n).mp (List.mem_append_left _ hn)))
        subst this
        have := (barely_iff.mp a3).1
        rw [st_nil p (wf p List.mem_cons_self)] at this
        cases this
theorem cnt_less {m : List Nat} {h : Nat} : ∀ {ps : List Kh.T} {p : Kh.T}, (ps.flatMap lv).Nodup → p ∈ ps → h ∈ lv p → cnt (less m h) ps + (if st m p = true ∧ st (less m h) p = false then 1 else 0) = cnt m ps
  | q :: ps, p, nd, hp, hh => by
    rw [List.flatMap_cons] at nd
    obtain ⟨n1, n2, n3⟩ := List.nodup_append.mp nd
    rw [cnt_cons, cnt_cons]
    rcases List.mem_cons.mp hp with rfl | hp
    · have : cnt (less m h) ps = cnt m ps := cnt_same fun n hn => by
        rw [less_mem]; exact ⟨fun z => z.1, fun z => ⟨z, fun e => n3 h hh n hn e.symm⟩⟩
      rw [this]
      have mono : st (less m h) p = true → st m p = true := st_mono p _ _ fun n _ hn => (less_mem.mp hn).1
      cases e1 : st m p <;> cases e2 : st (less m h) p <;> simp_all
      omega
    · have hq : h ∉ lv q := fun z => n3 h z h (List.mem_flatMap.mpr ⟨p, hp, hh⟩) rfl
      have : st (less m h) q = st m q := st_same fun n hn => by
        rw [less_mem]; exact ⟨fun z => z.1, fun z => ⟨z, fun e => hq (e ▸ hn)⟩⟩
      rw [this]
      have := cnt_less (m := m) n2 hp hh
      omega
theorem barely_bar {b : Bool} {k : Nat} {ps : List Kh.T} (wf : Wf (.gate b k ps)) (nd : (ps.flatMap lv).Nodup) {m : List Nat} (hm : ∀ n ∈ m, n ∈ ps.flatMap lv) : barely (.gate b k ps) m = true ↔ bar ps k m := by
  have wf' := (wf_gate b k ps).mp wf
  have sg : ∀ x, st x (.gate b k ps) = decide (k ≤ cnt x ps) := fun x => st_gate x b k ps
  rw [barely_iff]
  constructor
  · rintro ⟨h1, h2⟩
    rw [sg] at h1
    have h1' := of_decide_eq_true h1
    have h2' : ∀ h ∈ m, cnt (less m h) ps < k := fun h hh => by
      have := h2 h hh
      rw [sg] at this
      have := of_decide_eq_false this
      omega
    have at_ : ∀ p ∈ ps, ∀ h ∈ m, h ∈ lv p → st m p = true ∧ st (less m h) p = false := fun p hp h hh hl => by
      have e := cnt_less (m := m) nd hp hl
      have := h2' h hh
      by_cases c : st m p = true ∧ st (less m h) p = false
      · exact c
      · rw [if_neg c] at e; omega
    refine ⟨?_, at_⟩
    cases m with
    | nil => rw [cnt_nil wf'.2.2] at h1' ⊢; omega
    | cons h m =>
      obtain ⟨p, hp, hl⟩ := List.mem_flatMap.mp (hm h List.mem_cons_self)
      have e := cnt_less (m := h :: m) nd hp hl
      rw [if_pos (at_ p hp h List.mem_cons_self hl)] at e
      have := h2' h List.mem_cons_self
      omega
  · rintro ⟨h1, h2⟩
    refine ⟨by rw [sg, h1]; exact decide_eq_true (Nat.le_refl _), fun h hh => ?_⟩
    obtain ⟨p, hp, hl⟩ := List.mem_flatMap.mp (hm h hh)
    have e := cnt_less (m := m) nd hp hl
    rw [if_pos (h2 p hp h hh hl)] at e
    rw [sg]
    exact decide_eq_false (by omega)
theorem rep_pm : ∀ t : Kh.T, Wf t → (lv t).Nodup → Rep (pm t) (lv t) fun m => barely t m = true := Kh.T.ind
  (fun n _ _ => by
    rw [pm_leaf, lv_leaf]
    refine ⟨fun x hx => ?_, fun m hm hb => ⟨[n], List.mem_singleton.mpr rfl, fun k => ?_⟩, List.pairwise_singleton _ _⟩
    · rw [List.mem_singleton.mp hx]
      refine ⟨by simp, fun _ h => h, barely_iff.mpr ⟨by rw [st_leaf]; simp, fun h hh => ?_⟩⟩
      rw [st_leaf]
      exact decide_eq_false fun z => (less_mem.mp z).2 (List.mem_singleton.mp hh).symm
    · have := (barely_iff.mp hb).1
      rw [st_leaf] at this
      have := of_decide_eq_true this
      exact ⟨fun h => by rw [List.mem_singleton.mp h]; exact this, fun h => hm k h⟩)
  fun b k ps ih wf nd => by
    rw [lv_gate] at nd ⊢
    have wf' := (wf_gate b k ps).mp wf
    have r := rep_unions ps k nd wf'.2.2 fun p hp => ih p hp (wf'.2.2 p hp) (by
      obtain ⟨x, y, rfl⟩ := List.append_of_mem hp
      rw [List.flatMap_append, List.flatMap_cons] at nd
      exact (List.nodup_append.mp (List.nodup_append.mp nd).2.1).1)
    rw [pm_gate]
    exact ⟨fun x hx => ⟨(r.sound x hx).1, (r.sound x hx).2.1, (barely_bar wf nd (r.sound x hx).2.1).mpr (r.sound x hx).2.2⟩, fun m hm hb => r.whole m hm ((barely_bar wf nd hm).mp hb), r.one⟩
end K31

set_option maxRecDepth 100000
set_option maxHeartbeats 4000000
namespace K31
open PySem PySem.Spec PyProof.Rows L2 Kh
section
variable {P : Program} {w : World} {K : PySem.W.Frag} {mg : Str → Option Value} {base : Heap} {a : Nat → Addr} {fd : Nat → FuncData} {C : Addr} {tk : Nat → Tok}
def e1 (ns : List Nat) : List PyData := [nL ns]
def nLL (ms : List (List Nat)) : PyData := .list (ms.map nL)
theorem pow8 : ∀ i, i ≤ 8 → 2 ^ i ≤ 256
  | 0, _ => by decide
  | 1, _ => by decide
  | 2, _ => by decide
  | 3, _ => by decide
  | 4, _ => by decide
  | 5, _ => by decide
  | 6, _ => by decide
  | 7, _ => by decide
  | 8, _ => by decide
theorem lists_len8 {ns : List Nat} (h : ns.length ≤ 8) : (lists ns).length ≤ 256 := by rw [lists_len]; exact pow8 _ h
theorem take_snoc {ns : List Nat} {i n : Nat} (h : ns[i]? = some n) : ns.take (i + 1) = ns.take i ++ [n] := by rw [List.take_add_one, h]; rfl
/-- found + [some + [x] for some in found] -/
theorem lists_step {K : PySem.W.Frag} {S : Addr → Prop} {H : Hp} {σ : L2.St} {iF iX iS n : Nat} {F : V} {ns : List Nat} {Q : VK} (few : ns.length ≤ 7) (kn : Kn S H) (hF : ∀ x, σ[iF]? = some (some F) ∧ wipe ((wipe σ [iS]).set iS (some x)) [iS] = wipe σ [iS] ∧ (wipe σ [iS])[iF]? = some (some F) ∧ ((wipe σ [iS]).set iS (some x))[iX]? = some (some (.int (n : Nat))) ∧ ((wipe σ [iS]).set iS (some x))[iS]? = some (some x))
    (hF2 : σ[iF]? = some (some F)) (dF : Dp K (off S H) F (nLL (lists ns)))
    (q : ∀ u H', Same H H' → Dp K (off S H') u (nLL (lists (ns ++ [n]))) → Q u H') :
    tOp (rCatS K) (tVar iF) (tLc (fun σ H R => iList K (tVar iF) σ H R ∨ iTup K (tVar iF) σ H R) (gName iS) tYes (tOp (rCatS K) (tVar iS) (tLst (tCons (tVar iX) tNil))) [iS]) σ H Q := by
  have l256 := lists_len8 (ns := ns) (by omega)
  refine t_op (t_var hF2 (lcM false (lists ns) nL (fun m => nL (m ++ [n])) kn (fun Q q => t_var hF2 (q _ _ (Same.refl _) dF)) (by omega) (fun x => (hF x).2.1) (fun m hm x H1 S' s1 kn1 dx hS ho Q q => ?_) fun D H1 ys hD s1 hd h1 => ?_))
  · refine t_op (t_var (hF x).2.2.2.2 (t_lst (a_cons (t_var (hF x).2.2.2.1 (a_nil ⟨le1, fun p hp => ?_⟩)))))
    have ml := ((lists_mem ns m).mp hm).length_le
    have sp := same_new (o := HO.lst [V.int (n : Nat)]) hp
    refine cat_d (ds := m.map nD) (es := [.int (n : Nat)]) (kn1.same sp) (dp_same (off_same sp) _ _ dx) (dp_newL kn1 hp (.cons (.int _) .nil)) (by simp; omega) fun u H5 s5 d5 => q u H5 (sp.trans s5) ?_
    have e : PyData.list (m.map nD ++ [.int (n : Nat)]) = nL (m ++ [n]) := by unfold nL; rw [List.map_append]; rfl
    rw [← e]; exact d5
  · refine cat_d (ds := (lists ns).map nL) (es := (lists ns).map fun m => nL (m ++ [n])) (kn.same s1) (dp_same (off_same s1) _ _ dF) h1 (by rw [List.length_map, List.length_map]; omega) fun u H5 s5 d5 => q u H5 (s1.trans s5) ?_
    unfold nLL
    rw [lists_snoc, List.map_append, List.map_map]
    exact d5
abbrev spListsOf (K : PySem.W.Frag) : Sp := spP K e1 (fun ns => ns.length ≤ 8) fun ns => nLL (lists ns)
theorem ok_lists_of (T : Txt K mg a fd C tk) : FnOk P w K mg base CX0 1 (a 17) (fd 17) ["houses"] (spListsOf K) := by
  refine T.F_lists_of.ok sc_lists_of (fun vs H Q E h => spP_len (fun _ => rfl) h) (fun cdv A outer s H vs Q E hr h => ?_)
  obtain ⟨S, ns, kn, hd, few, q⟩ := h
  obtain - | ⟨hd, ⟨⟩⟩ := hd
  rename_i v
  refine ⟨_, (pss_cons (ps_set (i := 1) sc_lists_of.nd rfl (Or.inl rfl) (pe_lst (pa_cons (pe_lst pa_nil) pa_nil)))
      (pss_cons (ps_for PassesOwn.never rfl (k_pi (K := K) (pv 0)) (pg_name (i := 2) sc_lists_of.nd rfl (Or.inr rfl))
        (pss_one (ps_set (i := 1) sc_lists_of.nd rfl (Or.inl rfl) (pe_op (k_catS (K := K)) (pv 1) (pe_lc (own := [("some", 3)]) (g := gName 3) (tt := tYes) rfl sc_lists_of.nd (k_pi (K := K) (pv 1)) (blkOk_by (own := [("some", 3)]) (N := lists_of_N) (sc := defScope lists_of_s) (by decide +kernel)) (fun _ _ _ _ _ => (pg_name (i := 3) sc_lists_of.nd rfl (Or.inl rfl))) (fun _ _ _ _ _ => pts_nil) (fun _ _ _ _ _ => (pe_op (k_catS (K := K)) (pv 3) (pe_lst (pa_cons (pv 2) pa_nil)))))))))
      (pss_one (ps_ret (pv 1))))), ?_⟩
  refine s_seq (s_set (t_lst (a_cons (t_lst0 fun E0 hE => a_nil ⟨le1, fun F hF => ?_⟩))))
  have sE := same_new (o := HO.lst []) hE
  have dE := dp_newL (K := K) kn hE .nil
  have dF := dp_newL (kn.same sE) hF (.cons dE .nil)
  have sF := sE.trans (same_new (o := HO.lst [V.ref E0]) hF)
  generalize upd (upd H E0 (.lst [])) F (.lst [.ref E0]) = H1 at *
  have kn1 := kn.same sF
  have hd1 := dp_same (off_same sF) _ _ hd
  refine s_seq (forM (S := S) false ns nD kn1 (fun Q q => t_var rfl (q _ _ (Same.refl _) hd1)) fun H2 s2 kn2 => ?_)
  refine ⟨fun i σ' H' => ∃ (F : V) (x2 x3 : Option V), σ' = [some v, some F, x2, x3] ∧ Same H2 H' ∧ Dp K (off S H') F (nLL (lists (ns.take i))), ⟨_, _, _, rfl, Same.refl _, dp_same (off_same s2) _ _ dF⟩, fun i σ' H' ⟨_, _, _, _, s, _⟩ => off_sub.trans s, ?_, ?_⟩
  · rintro i n x σ' H' ni hi hm dx ⟨F, x2, x3, rfl, s3, dF'⟩
    cases dx
    refine g_name (s_set (lists_step (n := n) (ns := ns.take i) (by rw [List.length_take]; omega) (kn2.same s3) (fun x => ⟨rfl, rfl, rfl, rfl, rfl⟩) rfl dF' fun u H5 s5 d5 => ⟨u, _, _, rfl, s3.trans s5, ?_⟩))
    rw [take_snoc ni]; exact d5
  · rintro σ' H' ⟨F, x2, x3, rfl, s3, dF'⟩
    rw [List.take_length] at dF'
    exact nx_of (s_ret (t_var rfl (q _ _ ((sF.trans s2).trans s3) dF')))
abbrev spBarely (K : PySem.W.Frag) : Sp := spP K tS (fun x => preT 6 x.1 ∧ x.2.2.length ≤ 1000) fun x => .bool (barely x.1 x.2.2)
theorem ok_stands_barely (T : Txt K mg a fd C tk) : FnOk P w K mg base CX0 8 (a 18) (fd 18) ["shape", "houses"] (spBarely K) := by
  have G_stands_in := ok_stands_in (P := P) (w := w) (base := base) T 6
  refine T.F_stands_barely.ok sc_stands_barely (fun vs H Q E h => spP_len (fun _ => rfl) h) (fun cdv A outer s H vs Q E hr h => ?_)
  obtain ⟨S, ⟨t, c, ns⟩, kn, hd, ⟨pre, few⟩, q⟩ := h
  replace q : ∀ v H', Same H H' → Dp K (off S H') v (.bool (barely t ns)) → Q v H' := q
  replace few : ns.length ≤ 1000 := few
  replace pre : preT 6 t := pre
  obtain - | ⟨hd, - | ⟨hs, ⟨⟩⟩⟩ := hd
  rename_i v vh
  replace hd : Dp K (off S H) v (tD t) := hd
  replace hs : Dp K (off S H) vh (sq c (ns.map nD)) := hs
  refine ⟨_, (pss_cons (ps_if (pt_not (pt_val (pe_call G_stands_in (hr.mono (by omega)) (by rfl) T.m_stands_in T.F_stands_in.kp T.b_stands_in .nil pass0 (pa_cons (pv 0) (pa_cons (pv 1) pa_nil)))))
        (pss_one (ps_ret pe_bl)) pss_nil)
      (pss_one (ps_ret (pe_not (pe_callB (k_any (K := K) rfl) (by rfl) T.z_any (by decide +kernel) (pa_cons (pe_lc (own := [("house", 2)]) (g := gName 2) (tt := tYes) rfl sc_stands_barely.nd (k_pi (K := K) (pv 1)) (blkOk_by (own := [("house", 2)]) (N := stands_barely_N) (sc := defScope stands_barely_s) (by decide +kernel)) (fun _ _ _ _ _ => (pg_name (i := 2) sc_stands_barely.nd rfl (Or.inr rfl))) (fun _ _ _ _ _ => pts_nil) (fun _ _ _ _ _ => (pe_call G_stands_in (hr.mono (by omega)) (by rfl) T.m_stands_in T.F_stands_in.kp T.b_stands_in .nil pass0 (pa_cons (pv 0) (pa_cons (pe_lc (own := [("other", 3)]) (g := gName 3) (tt := _) rfl sc_stands_barely.nd (k_pi (K := K) (pv 1)) (show BlkOk stands_barely_N (relS _ (defScope stands_barely_s)) _ [("other", 3)] from blkOk_by (by decide +kernel)) (fun _ _ _ _ _ => (pg_name (i := 3) sc_stands_barely.nd rfl (Or.inl rfl))) (fun _ _ _ _ _ => (pts_one (pt_cmpR op_ne (pv 3) (pv 2) (nomark _)))) (fun _ _ _ _ _ => (pv 3))) pa_nil))))) pa_nil)))))), ?_⟩
  refine s_seq (s_if (b_not (b_val (t_call2 (t_var rfl (t_var rfl ⟨S, (t, c, ns), kn, .cons hd (.cons hs .nil), pre, fun u H1 s1 du => ?_⟩))))))
  replace du : Dp K (off S H1) u (.bool (st ns t)) := du
  cases du
  refine ⟨_, rfl, if_b (fun e => ?_) (fun e => s_next ?_)⟩
  · refine s_ret (t_c (q _ _ s1 (dp_bl ?_)))
    unfold barely
    cases h : st ns t with
    | false => rfl
    | true => rw [h] at e; cases e
  have est : st ns t = true := by cases h : st ns t with
    | true => rfl
    | false => rw [h] at e; cases e
  have kn1 := kn.same s1
  have hd1 := dp_same (off_same s1) _ _ hd
  have hs1 := dp_same (off_same s1) _ _ hs
  refine s_ret (t_notV (t_cb1 (lcM c ns nD (fun h => .bool (st (less ns h) t)) kn1 (fun Q q => t_var rfl (q _ _ (Same.refl _) hs1)) (by omega) (fun _ => rfl) (fun n hn x H2 S2 s2 kn2 dx hS ho Q q => ?_) fun D H2 ys hD s2 hd2 h2 => ?_)))
  · cases dx
    have hs2 := dp_same ho _ _ hs1
    have hd2 := dp_same ho _ _ hd1
    refine t_call2 (t_var rfl (lcF c ns (fun k => decide (k ≠ n)) nD nD kn2 (fun Q q => t_var rfl (q _ _ (Same.refl _) hs2)) (by omega) (fun _ => rfl) (fun k hk x H3 S3 s3 kn3 dx hS3 ho3 Q q => ?_) (fun k hk pk x H3 S3 s3 kn3 dx hS3 ho3 Q q => ?_) fun D3 H3 ys3 hD3 s3 hd3 h3 => ?_))
    · cases dx
      refine b_test (t_op (t_var rfl (t_var rfl ⟨rfl, _, rfl, ?_⟩)))
      have e : (!decide (V.int ((k : Nat) : Int) = V.int ((n : Nat) : Int))) = decide (k ≠ n) := by
        rw [decide_not]; exact congrArg _ (decide_eq_decide.mpr ⟨fun h => by have := V.int.inj h; omega, fun h => by rw [h]⟩)
      show Q (!decide (V.int ((k : Nat) : Int) = V.int ((n : Nat) : Int))) H3
      rw [e]; exact q H3 (Same.refl _)
    · exact t_var rfl (q _ _ (Same.refl _) dx)
    · refine ⟨S2, (t, false, less ns n), kn2.same s3, .cons (dp_same (off_same s3) _ _ hd2) (.cons h3 .nil), pre, fun v H' s' h => q v H' (s3.trans s') h⟩
  · refine any_d (bs := ns.map fun h => st (less ns h) t) off_sub (by rw [List.map_map]; exact h2) ⟨_, rfl, q _ _ (s1.trans s2) (dp_bl ?_)⟩
    unfold barely
    rw [est]; rfl
end
end K31

set_option maxRecDepth 100000
set_option maxHeartbeats 4000000
namespace K31
open PySem PySem.Spec PyProof.Rows L2 Kh
/-- a pot stands at p -/
def PotAt (H : Hp) (p : Addr) : Prop := ∃ x y : Int, H p = some (.lst [.int x, .int y]) ∧ y.natAbs < 2 ^ 40
theorem log_lt {j : Int} {b : Nat} (h : j.natAbs < 2 ^ b) (h0 : 0 < b) : j.natAbs.log2 < b := PySem.Flt.log2_lt_of h0 h
section
variable {P : Program} {w : World} {K : PySem.W.Frag} {mg : Str → Option Value} {base : Heap} {a : Nat → Addr} {fd : Nat → FuncData} {C : Addr} {tk : Nat → Tok}
/-- a new pot -/
def spPot (K : PySem.W.Frag) : Sp := fun vs H Q _ => ∃ (v : V) (ns : List Int) (k : Nat), vs = [v, .int (k : Nat)] ∧ Dp K H v (.list (ns.map PyData.int)) ∧ k < 100 ∧ ∀ p H', Same H H' → H p = none → PotAt H' p → Q (.ref p) H'
theorem ok__law_pot (T : Txt K mg a fd C tk) : FnOk P w K mg base CX0 1 (a 37) (fd 37) ["_law_script", "_law_k"] (spPot K) := by
  refine T.F__law_pot.ok sc__law_pot (fun vs H Q E h => by obtain ⟨_, _, _, rfl, _⟩ := h; rfl) (fun cdv A outer s H vs Q E hr h => ?_)
  obtain ⟨v, ns, k, rfl, hd, hk, q⟩ := h
  refine ⟨_, (pss_cons (ps_set (i := 2) sc__law_pot.nd rfl (Or.inl rfl) (pe_ifExp (pt_cmpR op_lt (pv 1) (pe_callB (k_len (K := K)) (by rfl) T.z_len (by decide +kernel) (pa_cons (pv 0) pa_nil)) (nomark _)) (pe_callB call_absR (by rfl) T.z_abs (by decide +kernel) (pa_cons (pe_ix (k_ix (K := K)) (pv 0) (pv 1) (fun _ _ => rfl)) pa_nil)) (pe_op op_add (pe_op op_mulW pe_int (pv 1)) pe_int)))
      (pss_one (ps_ret (pe_lst (pa_cons (pe_callB (call_max2R rfl) (by rfl) T.z_max (by decide +kernel) (pa_cons pe_int (pa_cons (pe_op op_sub (pv 2) (pe_op op_pow pe_int pe_int)) pa_nil))) (pa_cons (pe_op op_add (pe_op op_mod (pe_callTy call_int1R (by rfl) T.z_int (by decide +kernel) (pa_cons (pe_op op_add (pe_op op_add (pe_op op_mulW (pe_op op_mod (pe_callTy call_int1R (by rfl) T.z_int (by decide +kernel) (pa_cons (pv 2) pa_nil)) pe_int) pe_int) (pe_op op_mulW pe_int (pv 1))) pe_int) pa_nil)) pe_int) pe_int) pa_nil)))))), ?_⟩
  have kb : ((k : Nat) : Int).natAbs < 2 ^ 7 := by simp; omega
  -- the second half, whatever the cell is
  have fin : ∀ c : Int, (tRet (tLst (tCons (tCB rMax2 (tCons (tC (.int 0)) (tCons (tOp (rI0 fun i j => V.int (i - j)) (tVar 2) (tOp (rI CPow fun i j => V.int (i ^ j.toNat)) (tC (.int 10)) (tC (.int 18)))) tNil)))
      (tCons (tOp (rI0 fun i j => V.int (i + j)) (tOp (rI (fun _ j => 0 < j) fun i j => V.int (i % j)) (tCB rInt1 (tCons (tOp (rI0 fun i j => V.int (i + j)) (tOp (rI0 fun i j => V.int (i + j)) (tOp (rI CMulW fun i j => V.int (i * j)) (tOp (rI (fun _ j => 0 < j) fun i j => V.int (i % j)) (tCB rInt1 (tCons (tVar 2) tNil)) (tC (.int 2147483563))) (tC (.int 48679))) (tOp (rI CMulW fun i j => V.int (i * j)) (tC (.int 7109)) (tVar 1))) (tC (.int 157))) tNil)) (tC (.int 2147483549))) (tC (.int 1))) tNil)))) { nx := fun _ H' => Q .non H', rt := Q } [some v, some (.int (k : Nat)), some (.int c)] H := by
    intro c
    refine s_ret (t_lst (a_cons (t_cb2 (t_c (t_op (t_var rfl (t_op (t_c (t_c ⟨_, _, rfl, rfl, ⟨by decide, by decide, by decide⟩, ?_⟩))))))))) 
    refine ⟨_, _, rfl, rfl, ⟨_, _, rfl, ?_⟩⟩
    refine a_cons (t_op (t_op (t_cb1 (t_op (t_op (t_op (t_op (t_cb1 (t_var rfl (.inl ⟨_, rfl, t_c ⟨_, _, rfl, rfl, (by decide : (0 : Int) < 2147483563), ?_⟩⟩)))))))))) 
    have m1 : (c % 2147483563).natAbs < 2 ^ 31 := by
      have h1 := Int.emod_nonneg c (show (2147483563 : Int) ≠ 0 by decide)
      have h2 := Int.emod_lt_of_pos c (show (0 : Int) < 2147483563 by decide)
      omega
    refine t_c ⟨_, _, rfl, rfl, wide_mul (a := 31) (b := 16) m1 (by decide) (by decide) (by decide) (by decide), ?_⟩
    refine t_op (t_c (t_var rfl ⟨_, _, rfl, rfl, wide_mul (a := 13) (b := 7) (by decide) kb (by decide) (by decide) (by decide), ⟨_, _, rfl, rfl, t_c ⟨_, _, rfl, rfl, .inl ⟨_, rfl, t_c ⟨_, _, rfl, rfl, (by decide : (0 : Int) < 2147483549), t_c ⟨_, _, rfl, rfl, a_nil ⟨le2, fun p hp => ?_⟩⟩⟩⟩⟩⟩⟩))
    generalize hz : (c % 2147483563 * 48679 + 7109 * (k : Int) + 157) = z
    refine q p _ (same_new hp) hp ⟨_, _, upd_same, ?_⟩
    have h1 := Int.emod_nonneg z (show (2147483549 : Int) ≠ 0 by decide)
    have h2 := Int.emod_lt_of_pos z (show (0 : Int) < 2147483549 by decide)
    omega
  obtain ⟨l, xs, rfl, hs, ha⟩ := list_at hd
  have ex := dpa_ints ha
  subst ex
  refine s_seq (s_set (t_if (b_test (t_op (t_var rfl (t_cb1 (t_var rfl ⟨l, _, rfl, .inl hs, ⟨_, _, rfl, rfl, ?_⟩⟩)))))))
  refine ⟨_, rfl, if_b (fun c => ?_) (fun c => ?_)⟩
  · have hk2 : k < ns.length := by have := of_decide_eq_true c; rw [List.length_map] at this; omega
    exact t_cb1 (t_op (t_var rfl (t_var rfl (.inl ⟨l, _, ((k : Nat) : Int), .int ns[k], rfl, rfl, hs, atI_nat (by simp [hk2]), ⟨_, rfl, nx_of (fin _)⟩⟩))))
  · exact t_op (t_op (t_c (t_var rfl ⟨_, _, rfl, rfl, wide_mul (a := 7) (b := 7) (by decide) kb (by decide) (by decide) (by decide), t_c ⟨_, _, rfl, rfl, nx_of (fin _)⟩⟩)))
end
end K31

set_option maxRecDepth 100000
set_option maxHeartbeats 4000000
namespace K31
open PySem PySem.Spec PyProof.Rows L2 Kh
section
variable {P : Program} {w : World} {K : PySem.W.Frag} {mg : Str → Option Value} {base : Heap} {a : Nat → Addr} {fd : Nat → FuncData} {C : Addr} {tk : Nat → Tok}
/-- a draw below many -/
def spDraw (K : PySem.W.Frag) : Sp := fun vs H Q _ => ∃ (p : Addr) (m : Nat), vs = [.ref p, .int (m : Nat)] ∧ PotAt H p ∧ 0 < m ∧ m < 100000 ∧ ∀ (d : Nat) H', d < m → SameBut p H H' → PotAt H' p → Q (.int (d : Nat)) H'
theorem ok__law_draw (T : Txt K mg a fd C tk) : FnOk P w K mg base CX0 1 (a 38) (fd 38) ["_law_pot_here", "_law_size"] (spDraw K) := by
  refine T.F__law_draw.ok sc__law_draw (fun vs H Q E h => by obtain ⟨_, _, rfl, _⟩ := h; rfl) (fun cdv A outer s H vs Q E hr h => ?_)
  obtain ⟨p, m, rfl, ⟨x, y, hp, hy⟩, m0, m1, q⟩ := h
  refine ⟨_, (pss_cons (ps_if (pt_cmpR op_gt (pe_ix (k_ix (K := K)) (pv 0) pe_int (fun _ _ => rfl)) pe_int (nomark _))
        (pss_cons (ps_asg (pe_callB call_divmodW (by rfl) T.z_divmod (by decide +kernel) (pa_cons (pe_ix (k_ix (K := K)) (pv 0) pe_int (fun _ _ => rfl)) (pa_cons (pv 1) pa_nil))) (pg_tup rfl (pgs_cons (pg_sub (pv 0) pe_int set_list) (pgs_cons (pg_name (i := 2) sc__law_draw.nd rfl (Or.inl rfl)) pgs_nil))))
        (pss_one (ps_ret (pv 2)))) pss_nil)
      (pss_cons (ps_asg (pe_op op_mod (pe_callTy call_int1R (by rfl) T.z_int (by decide +kernel) (pa_cons (pe_op op_add (pe_op op_mulW (pe_ix (k_ix (K := K)) (pv 0) pe_int (fun _ _ => rfl)) pe_int) pe_int) pa_nil)) pe_int) (pg_sub (pv 0) pe_int set_list))
      (pss_one (ps_ret (pe_op op_mod (pe_callTy call_int1R (by rfl) T.z_int (by decide +kernel) (pa_cons (pe_op op_fdivW (pe_op op_mod (pe_callTy call_int1R (by rfl) T.z_int (by decide +kernel) (pa_cons (pe_op op_mulW (pe_ix (k_ix (K := K)) (pv 0) pe_int (fun _ _ => rfl)) (pe_ix (k_ix (K := K)) (pv 0) pe_int (fun _ _ => rfl))) pa_nil)) pe_int) pe_int) pa_nil)) (pv 1)))))), ?_⟩
  have at0 : ∀ {H' : Hp} {u v : V} {Q' : VK}, H' p = some (.lst [u, v]) → Q' u H' → rIx K (.ref p) (.int 0) H' Q' := fun {H' u v Q'} h q => .inl ⟨p, _, ((0 : Nat) : Int), u, rfl, rfl, sqL h, atI_nat (j := 0) rfl, q⟩
  have at1 : ∀ {H' : Hp} {u v : V} {Q' : VK}, H' p = some (.lst [u, v]) → Q' v H' → rIx K (.ref p) (.int 1) H' Q' := fun {H' u v Q'} h q => .inl ⟨p, _, ((1 : Nat) : Int), v, rfl, rfl, sqL h, atI_nat (j := 1) rfl, q⟩
  have mb : ((m : Nat) : Int).natAbs.log2 < 9000 := Nat.lt_of_lt_of_le (log_lt (b := 17) (by simp; omega) (by decide)) (by decide)
  have dig : ∀ z : Int, ∃ d : Nat, d < m ∧ z % (m : Nat) = (d : Nat) := fun z => by
    have h1 := Int.emod_nonneg z (show ((m : Nat) : Int) ≠ 0 by omega)
    have h2 := Int.emod_lt_of_pos z (show (0 : Int) < (m : Nat) by omega)
    exact ⟨(z % (m : Nat)).toNat, by omega, by omega⟩
  refine s_seq (s_if (b_test (t_op (t_op (t_var rfl (t_c (at0 hp (t_c ⟨_, _, rfl, rfl, ?_⟩))))))))
  refine ⟨_, rfl, if_b (fun c => ?_) (fun c => s_next ?_)⟩
  · refine s_seq ?_
    refine t_cb2 (t_op (t_var rfl (t_c (at0 hp (t_var rfl ⟨_, _, rfl, ⟨by omega, PyProof.noPylong_of_log2 mb⟩, fun r hr0 => ?_⟩)))))
    have hpr := same_new (o := HO.tup [V.int (x / (m : Nat)), V.int (x % (m : Nat))]) hr0 _ _ hp
    refine ⟨r, _, rfl, sqT upd_same, rfl, _, _, rfl, ?_⟩
    refine t_var rfl (t_c ⟨p, _, 0, 0, rfl, rfl, hpr, rfl, ?_⟩)
    refine ⟨_, _, rfl, g_name ⟨rfl, ?_⟩⟩
    refine s_ret (t_var rfl ?_)
    obtain ⟨d, hd, e⟩ := dig x
    rw [e]
    exact q d _ hd (bmut (sbut (same_new hr0))) ⟨_, _, upd_same, hy⟩
  · refine s_seq ?_
    refine t_op (t_cb1 (t_op (t_op (t_op (t_var rfl (t_c (at1 hp (t_c ⟨_, _, rfl, rfl, wide_mul (a := 40) (b := 16) hy (by decide) (by decide) (by decide) (by decide), t_c ⟨_, _, rfl, rfl, ?_⟩⟩)))))))) 
    refine .inl ⟨_, rfl, t_c ⟨_, _, rfl, rfl, (by decide : (0 : Int) < 2147483549), ?_⟩⟩
    have zb : ((y * 48271 + 36991) % 2147483549).natAbs < 2 ^ 31 := by
      have h1 := Int.emod_nonneg (y * 48271 + 36991) (show (2147483549 : Int) ≠ 0 by decide)
      have h2 := Int.emod_lt_of_pos (y * 48271 + 36991) (show (0 : Int) < 2147483549 by decide)
      omega
    refine t_var rfl (t_c ⟨p, _, 1, 1, rfl, rfl, hp, rfl, nx_of ?_⟩)
    have hp2 : (upd H p (.lst [V.int x, V.int ((y * 48271 + 36991) % 2147483549)])) p = some (.lst [.int x, .int ((y * 48271 + 36991) % 2147483549)]) := upd_same
    have b2 : SameBut p H (upd H p (.lst [V.int x, V.int ((y * 48271 + 36991) % 2147483549)])) := bmut (sbut (Same.refl H))
    refine s_ret (t_op (t_cb1 (t_op (t_op (t_cb1 (t_op (t_op (t_var rfl (t_c (at1 hp2 (t_op (t_var rfl (t_c (at1 hp2 ⟨_, _, rfl, rfl, wide_mul (a := 31) (b := 31) zb zb (by decide) (by decide) (by decide), ?_⟩))))))))))))))
    refine .inl ⟨_, rfl, t_c ⟨_, _, rfl, rfl, (by decide : (0 : Int) < 2147483587), t_c ⟨_, _, rfl, rfl, ⟨by decide, by decide +kernel⟩, ?_⟩⟩⟩
    refine .inl ⟨_, rfl, t_var rfl ⟨_, _, rfl, rfl, (show (0 : Int) < (m : Nat) by omega), ?_⟩⟩
    obtain ⟨d, hd, e⟩ := dig ((y * 48271 + 36991) % 2147483549 * ((y * 48271 + 36991) % 2147483549) % 2147483587 / 71)
    have fin : Q (.int ((y * 48271 + 36991) % 2147483549 * ((y * 48271 + 36991) % 2147483549) % 2147483587 / 71 % (m : Nat))) (upd H p (.lst [V.int x, V.int ((y * 48271 + 36991) % 2147483549)])) := by
      rw [e]; exact q d _ hd b2 ⟨_, _, hp2, Nat.lt_of_lt_of_le zb (by decide)⟩
    exact fin
/-- one of a list -/
def spPick (K : PySem.W.Frag) : Sp := fun vs H Q _ => ∃ (p l : Addr) (xs : List V), vs = [.ref p, .ref l] ∧ PotAt H p ∧ (∀ H', SameBut p H H' → SqL K H' l xs) ∧ 0 < xs.length ∧ xs.length < 1000 ∧ ∀ (d : Nat) x H', xs[d]? = some x → SameBut p H H' → PotAt H' p → Q x H'
theorem sql_but {K : PySem.W.Frag} {H H' : Hp} {p l : Addr} {xs : List V} (h : SqL K H l xs) (e : SameBut p H H') (n : l ≠ p) : SqL K H' l xs := by
  rcases h with (h | ⟨o, h⟩) | h
  · exact .inl (.inl (e _ _ n h))
  · exact .inl (.inr ⟨o, e _ _ n h⟩)
  · exact .inr h
theorem ok__law_pick (T : Txt K mg a fd C tk) : FnOk P w K mg base CX0 2 (a 39) (fd 39) ["_law_pot_here", "_law_some"] (spPick K) := by
  have G__law_draw := ok__law_draw (P := P) (w := w) (base := base) T
  refine T.F__law_pick.ok sc__law_pick (fun vs H Q E h => by obtain ⟨_, _, _, rfl, _⟩ := h; rfl) (fun cdv A outer s H vs Q E hr h => ?_)
  obtain ⟨p, l, xs, rfl, hp, hl, x0, x1, q⟩ := h
  refine ⟨_, (pss_one (ps_ret (pe_ix (k_ix (K := K)) (pv 1) (pe_call G__law_draw (hr.mono (by omega)) (by rfl) T.m__law_draw T.F__law_draw.kp T.b__law_draw .nil pass0 (pa_cons (pv 0) (pa_cons (pe_callB (k_len (K := K)) (by rfl) T.z_len (by decide +kernel) (pa_cons (pv 1) pa_nil)) pa_nil))) (fun _ _ => rfl)))), ?_⟩
  refine s_ret (t_op (t_var rfl (t_call2 (t_var rfl (t_cb1 (t_var rfl ⟨l, xs, rfl, .inl (hl H (sbut (Same.refl H))), ⟨p, xs.length, rfl, hp, x0, by omega, fun d H' hd sb hp' => ?_⟩⟩))))))
  exact .inl ⟨l, xs, ((d : Nat) : Int), xs[d], rfl, rfl, hl H' sb, atI_nat (by simp [hd]), q d _ H' (by simp [hd]) sb hp'⟩
end
end K31

set_option maxRecDepth 100000
set_option maxHeartbeats 4000000
namespace K31
open PySem PySem.Spec PyProof.Rows L2 Kh
theorem sub_len : ∀ {l ns : List Nat}, l.Nodup → (∀ n ∈ l, n ∈ ns) → l.length ≤ ns.length
  | [], _, _, _ => Nat.zero_le _
  | x :: l, ns, nd, h => by
    have hx := h x List.mem_cons_self
    have nd' := List.nodup_cons.mp nd
    have ih := sub_len (l := l) (ns := ns.erase x) nd'.2 fun n hn => (List.mem_erase_of_ne (fun e : n = x => nd'.1 (by rw [← e]; exact hn))).mpr (h n (List.mem_cons_of_mem _ hn))
    rw [List.length_erase_of_mem hx] at ih
    have := List.length_pos_of_mem hx
    rw [List.length_cons]; omega
section
variable {P : Program} {w : World} {K : PySem.W.Frag} {mg : Str → Option Value} {base : Heap} {a : Nat → Addr} {fd : Nat → FuncData} {C : Addr} {tk : Nat → Tok}
end
end K31

set_option maxRecDepth 100000
set_option maxHeartbeats 4000000
namespace K31
open PySem PySem.Spec PyProof.Rows L2 Kh
/-! sorted lists of houses, and of lists of them -/
abbrev leL (p q : List Nat) : Bool := leD (nL p) (nL q)
abbrev leN (p q : Nat) : Bool := leD (nD p) (nD q)
theorem leL_total : PySem.W.TotalLe leL := ⟨fun a b c => leD_total.trans _ _ _, fun a b => leD_total.total _ _⟩
theorem leN_total : PySem.W.TotalLe leN := ⟨fun a b c => leD_total.trans _ _ _, fun a b => leD_total.total _ _⟩
theorem leN_eq (p q : Nat) : leN p q = decide (p ≤ q) := by
  have := congrFun (congrFun (PySem.W.dataLe_int (β := Nat) fun n => ((n : Nat) : Int)) p) q
  refine Eq.trans this (decide_eq_decide.mpr (by omega))
def asI (m : List Nat) : List Int := m.map fun n : Nat => ((n : Nat) : Int)
theorem asI_inj {m l : List Nat} (h : asI m = asI l) : m = l := by
  refine List.map_inj_right (f := fun n : Nat => ((n : Nat) : Int)) (fun x y h => ?_) |>.mp h
  have : ((x : Nat) : Int) = ((y : Nat) : Int) := h
  omega
theorem leL_eq (p q : List Nat) : leL p q = decide (asI p ≤ asI q) := by
  have := congrFun (congrFun (PySem.W.dataLe_rows (β := List Nat) asI) p) q
  refine Eq.trans ?_ this
  show leD (nL p) (nL q) = leD (.list ((asI p).map .int)) (.list ((asI q).map .int))
  unfold nL asI
  rw [nD_map, nD_map]
theorem leN_anti (a b : Nat) (h1 : leN a b = true) (h2 : leN b a = true) : a = b := by
  rw [leN_eq] at h1 h2
  have := of_decide_eq_true h1
  have := of_decide_eq_true h2
  omega
theorem leL_anti (a b : List Nat) (h1 : leL a b = true) (h2 : leL b a = true) : a = b := by
  rw [leL_eq] at h1 h2
  exact asI_inj (List.le_antisymm (of_decide_eq_true h1) (of_decide_eq_true h2))
theorem alike_nL (a b : List Nat) : PySem.W.alike (nL a) (nL b) = true := by
  unfold nL
  simp only [PySem.W.alike]
  rw [nD_map, nD_map]; exact PySem.W.alike_ints _ _
theorem depth_nL (a : List Nat) : (nL a).depth ≤ 60 := by
  have h : PyData.depthAll (a.map nD) = 0 := by rw [nD_map]; exact PySem.W.depth_ints _
  unfold nL
  simp only [PyData.depth, h]
  decide
theorem sortable_nL (ms : List (List Nat)) : PySem.W.Sortable (ms.map nL) := PySem.W.Sortable.others fun b => ⟨fun h => (nomatch h), fun xs h => (nomatch h)⟩
theorem sortable_nD (ms : List Nat) : PySem.W.Sortable (ms.map nD) := PySem.W.Sortable.others fun b => ⟨fun h => (nomatch h), fun xs h => (nomatch h)⟩
def srt (m : List Nat) : List Nat := m.mergeSort leN
theorem srt_perm (m : List Nat) : (srt m).Perm m := List.mergeSort_perm m leN
theorem srt_mem {m : List Nat} {n : Nat} : n ∈ srt m ↔ n ∈ m := (srt_perm m).mem_iff
theorem srt_rise {m : List Nat} (h : m.Nodup) : (srt m).Pairwise (· < ·) := by
  have p := PySem.W.sort_pairwise leN_total m
  have nd : (srt m).Nodup := (srt_perm m).nodup_iff.mpr h
  refine (p.and nd).imp fun {a b} q => ?_
  have := q.1
  rw [leN_eq] at this
  have := of_decide_eq_true this
  have := q.2
  omega
theorem rise_eqN : ∀ {xs ys : List Nat}, xs.Pairwise (· < ·) → ys.Pairwise (· < ·) → (∀ k, k ∈ xs ↔ k ∈ ys) → xs = ys := fun {xs ys} h1 h2 h => by
  have a := rise_sub xs ys h1 h2 fun n => (h n).mp
  have b := rise_sub ys xs h2 h1 fun n => (h n).mpr
  exact a.eq_of_length_le b.length_le
theorem srt_rised {m : List Nat} (h : m.Pairwise (· < ·)) : srt m = m := rise_eqN (srt_rise (h.imp fun q => Nat.ne_of_lt q)) h fun k => srt_mem
def meets (t : Kh.T) : List (List Nat) := (lists (mem t)).filter (barely t)
def smeets (t : Kh.T) : List (List Nat) := (meets t).mergeSort leL
theorem smeets_perm (t : Kh.T) : (smeets t).Perm (meets t) := List.mergeSort_perm _ _
theorem meets_mem {t : Kh.T} {m : List Nat} : m ∈ meets t ↔ m.Sublist (mem t) ∧ barely t m = true := by
  unfold meets; rw [List.mem_filter, lists_mem]
theorem smeets_mem {t : Kh.T} {m : List Nat} : m ∈ smeets t ↔ m.Sublist (mem t) ∧ barely t m = true := by rw [(smeets_perm t).mem_iff, meets_mem]
theorem meets_nodup (t : Kh.T) : (meets t).Nodup := (lists_nodup _ (mem_nodup t)).filter _
theorem smeets_of {t : Kh.T} {L : List (List Nat)} (h : L.Perm (meets t)) : L.mergeSort leL = smeets t := PySem.W.sort_pairwise leL_total L |> fun _ => sort_perm leL_total leL_anti h
theorem sub_lenN : ∀ {l ns : List Nat}, l.Nodup → (∀ n ∈ l, n ∈ ns) → l.length ≤ ns.length := sub_len
theorem nodup_of : ∀ {l m : List Nat}, m.Nodup → (∀ n ∈ m, n ∈ l) → l.length ≤ m.length → l.Nodup
  | [], _, _, _, _ => List.nodup_nil
  | x :: l, m, nd, sub, len => by
    rw [List.length_cons] at len
    by_cases hx : x ∈ l
    · have := sub_len nd fun n hn => (List.mem_cons.mp (sub n hn)).elim (fun e => e ▸ hx) id
      omega
    · refine List.nodup_cons.mpr ⟨hx, nodup_of (m := m.erase x) (nd.erase x) (fun n hn => ?_) ?_⟩
      · have := nd.mem_erase_iff.mp hn
        exact (List.mem_cons.mp (sub n this.2)).elim (fun e => (this.1 e).elim) id
      · have := List.length_erase (a := x) (l := m)
        split at this <;> omega
theorem plain_nodup {t : Kh.T} (wf : Wf t) (h : (lv t).length = (mem t).length) : (lv t).Nodup := nodup_of (mem_nodup t) (fun n hn => (mem_iff wf n).mp hn) (by omega)
theorem plain_meets {t : Kh.T} (wf : Wf t) (nd : (lv t).Nodup) : ((pm t).map srt).Perm (meets t) := by
  have r := rep_pm t wf nd
  refine (List.perm_ext_iff_of_nodup ?_ (meets_nodup t)).mpr fun m => ?_
  · refine List.pairwise_map.mpr (r.one.imp fun {x y} h e => h fun n => ?_)
    rw [← srt_mem (m := x), e, srt_mem]
  · rw [meets_mem, List.mem_map]
    constructor
    · rintro ⟨x, hx, rfl⟩
      obtain ⟨h1, h2, h3⟩ := r.sound x hx
      exact ⟨rise_sub _ _ (srt_rise h1) (mem_rise t) fun n hn => (mem_iff wf n).mpr (h2 n (srt_mem.mp hn)), by rw [barely_same fun n => srt_mem]; exact h3⟩
    · rintro ⟨h1, h2⟩
      obtain ⟨x, hx, hs⟩ := r.whole m (fun n hn => (mem_iff wf n).mp (h1.subset hn)) h2
      refine ⟨x, hx, rise_eqN (srt_rise (r.sound x hx).1) ((mem_rise t).sublist h1) fun k => ?_⟩
      rw [srt_mem, hs]
theorem pm_count {t : Kh.T} (wf : Wf t) (nd : (lv t).Nodup) : (pm t).length = (meets t).length := by
  have := (plain_meets wf nd).length_eq
  rwa [List.length_map] at this
/-! how many -/
def esy : List Nat → Nat → Nat
  | _, 0 => 1
  | [], _ + 1 => 0
  | m :: ls, k + 1 => m * esy ls k + esy ls (k + 1)
theorem esy_zero (ls : List Nat) : esy ls 0 = 1 := by cases ls <;> rfl
theorem esy_snoc : ∀ (ls : List Nat) (m k : Nat), esy (ls ++ [m]) (k + 1) = esy ls (k + 1) + esy ls k * m
  | [], m, 0 => by simp [esy]
  | [], m, k + 1 => by simp [esy]
  | l :: ls, m, 0 => by
    show l * esy (ls ++ [m]) 0 + esy (ls ++ [m]) (0 + 1) = l * esy ls 0 + esy ls (0 + 1) + esy (l :: ls) 0 * m
    rw [esy_snoc ls m 0, esy_zero, esy_zero, esy_zero]; omega
  | l :: ls, m, k + 1 => by
    show l * esy (ls ++ [m]) (k + 1) + esy (ls ++ [m]) (k + 1 + 1) = (l * esy ls (k + 1) + esy ls (k + 1 + 1)) + (l * esy ls k + esy ls (k + 1)) * m
    rw [esy_snoc ls m k, esy_snoc ls m (k + 1), Nat.mul_add, Nat.add_mul, Nat.mul_assoc]; omega
theorem unions_len : ∀ (cs : List (List (List Nat))) (k : Nat), (unions cs k).length = esy (cs.map List.length) k
  | cs, 0 => by rw [unions_zero, esy_zero]; rfl
  | [], k + 1 => rfl
  | c :: cs, k + 1 => by
    rw [unions, List.map_cons, esy, List.length_append, ← unions_len cs (k + 1), ← unions_len cs k, List.length_flatMap]
    congr 1
    have : (c.map fun x => ((unions cs k).map (x ++ ·)).length) = List.replicate c.length (unions cs k).length := by
      rw [List.eq_replicate_iff]
      refine ⟨by simp, fun b hb => ?_⟩
      obtain ⟨x, _, rfl⟩ := List.mem_map.mp hb
      simp
    rw [this, List.sum_replicate_nat]
def pc (t : Kh.T) : Nat := (pm t).length
theorem pc_leaf (n : Nat) : pc (.leaf n) = 1 := by unfold pc; rw [pm_leaf]; rfl
theorem pc_gate (b : Bool) (k : Nat) (ps : List Kh.T) : pc (.gate b k ps) = esy (ps.map pc) k := by
  unfold pc; rw [pm_gate, unions_len, List.map_map]; rfl
theorem esy_le : ∀ (ls : List Nat) (k : Nat), esy ls k ≤ (ls.map (· + 1)).foldr (· * ·) 1
  | ls, 0 => by
    rw [esy_zero]
    induction ls with
    | nil => exact Nat.le_refl _
    | cons l ls ih => rw [List.map_cons, List.foldr_cons]; exact Nat.le_trans ih (Nat.le_mul_of_pos_left _ (by omega))
  | [], k + 1 => by simp [esy]
  | l :: ls, k + 1 => by
    rw [esy, List.map_cons, List.foldr_cons, Nat.add_mul, Nat.one_mul]
    exact Nat.add_le_add (Nat.mul_le_mul_left _ (esy_le ls k)) (esy_le ls (k + 1))
theorem prod_pow {ps : List Kh.T} (h : ∀ p ∈ ps, pc p + 1 ≤ 2 ^ (lv p).length) : ((ps.map pc).map (· + 1)).foldr (· * ·) 1 ≤ 2 ^ (ps.flatMap lv).length := by
  induction ps with
  | nil => exact Nat.le_refl _
  | cons p ps ih =>
    rw [List.map_cons, List.map_cons, List.foldr_cons, List.flatMap_cons, List.length_append, Nat.pow_add]
    exact Nat.mul_le_mul (h p List.mem_cons_self) (ih fun q hq => h q (List.mem_cons_of_mem _ hq))
theorem esy_lt : ∀ (ls : List Nat) (k : Nat), esy ls (k + 1) + 1 ≤ (ls.map (· + 1)).foldr (· * ·) 1
  | [], k => by simp [esy]
  | l :: ls, k => by
    rw [esy, List.map_cons, List.foldr_cons, Nat.add_mul, Nat.one_mul, Nat.add_assoc]
    exact Nat.add_le_add (Nat.mul_le_mul_left _ (esy_le ls k)) (esy_lt ls k)
theorem pc_lt : ∀ t : Kh.T, Wf t → pc t + 1 ≤ 2 ^ (lv t).length := Kh.T.ind (fun n _ => by rw [pc_leaf, lv_leaf]; exact Nat.le_refl _) fun b k ps ih wf => by
  rw [wf_gate] at wf
  rw [pc_gate, lv_gate]
  obtain ⟨j, rfl⟩ : ∃ j, k = j + 1 := ⟨k - 1, by omega⟩
  exact Nat.le_trans (esy_lt _ _) (prod_pow fun p hp => ih p hp (wf.2.2 p hp))
end K31

set_option maxRecDepth 100000
set_option maxHeartbeats 4000000
namespace K31
open PySem PySem.Spec PyProof.Rows L2 Kh
section
variable {P : Program} {w : World} {K : PySem.W.Frag} {mg : Str → Option Value} {base : Heap} {a : Nat → Addr} {fd : Nat → FuncData} {C : Addr} {tk : Nat → Tok}
theorem barely_flg (c : Bool) (t : Kh.T) (m : List Nat) : barely (flg c t) m = barely t m := by
  unfold barely
  rw [st_flg]
  congr 3
  exact List.map_congr_left fun h _ => st_flg c _ t
theorem isI_in {H : Hp} {S : Addr → Prop} {t : Kh.T} {x : Addr} (h : TreeAt K C (off S H) t x) : ∃ a dx fs, V.ref x = .ref a ∧ H a = some (.ins C dx fs) := isI_at h
/-- tree.shape -/
theorem t_shape {S : Addr → Prop} {σ : L2.St} {H : Hp} {t : Kh.T} {x : Addr} {i : Nat} {Q : VK} (hi : σ[i]? = some (some (.ref x))) (kn : Kn S H) (ht : TreeAt K C (off S H) t x) (ok : Okt t)
    (q : ∀ u H', Same H H' → Dp K (off S H') u (tD (flg false t)) → Q u H') : tProp C (spM0 K C fun t => tD (flg false t)) [] E0 (tVar i) σ H Q := by
  obtain ⟨dx, v1, v2, v3, hx, _⟩ := id ht
  exact t_prop (t_var hi ⟨x, dx, _, rfl, (off_some hx).2, S, t, x, (), [], rfl, kn, ht, ok, .nil, trivial, q⟩)
theorem t_plain {S : Addr → Prop} {σ : L2.St} {H : Hp} {t : Kh.T} {x : Addr} {i : Nat} {Q : VK} (hi : σ[i]? = some (some (.ref x))) (kn : Kn S H) (ht : TreeAt K C (off S H) t x) (ok : Okt t)
    (q : ∀ H', Same H H' → Q (.bl (decide ((lv t).length = (mem t).length))) H') : tProp C (spM0 K C fun t => .bool (decide ((lv t).length = (mem t).length))) [] E0 (tVar i) σ H Q := by
  obtain ⟨dx, v1, v2, v3, hx, _⟩ := id ht
  refine t_prop (t_var hi ⟨x, dx, _, rfl, (off_some hx).2, S, t, x, (), [], rfl, kn, ht, ok, .nil, trivial, fun u H' s' d => ?_⟩)
  replace d : Dp K (off S H') u (.bool (decide ((lv t).length = (mem t).length))) := d
  cases d
  exact q H' s'
theorem t_members {S : Addr → Prop} {σ : L2.St} {H : Hp} {t : Kh.T} {x : Addr} {i : Nat} {Q : VK} (hi : σ[i]? = some (some (.ref x))) (kn : Kn S H) (ht : TreeAt K C (off S H) t x) (ok : Okt t)
    (q : ∀ u H', Same H H' → Dp K (off S H') u (nL (mem t)) → Q u H') : tMeth C "members" (spM0 K C fun t => nL (mem t)) [] E0 (tVar i) tNil σ H Q := by
  obtain ⟨dx, v1, v2, v3, hx, _⟩ := id ht
  exact t_meth0 (t_var hi ⟨x, dx, _, rfl, (off_some hx).2, rfl, S, t, x, (), [], rfl, kn, ht, ok, .nil, trivial, q⟩)
/-- a function of a tree of few houses -/
abbrev spF (K : PySem.W.Frag) (C : Addr) (f : Kh.T → PyData) : Sp := spM K C (fun _ : Unit => []) (fun t _ => (mem t).length ≤ 7) (fun t _ => f t)
theorem sort_ll {S : Addr → Prop} {H : Hp} {x : V} {L : List (List Nat)} {t : Kh.T} {Q : VK} (kn : Kn S H) (hx : Dp K (off S H) x (nLL L)) (hp : L.Perm (meets t))
    (q : ∀ u H', Same H H' → Dp K (off S H') u (nLL (smeets t)) → Q u H') : rSortM K [x] H Q :=
  sort_m (le := leL) (fun _ _ _ _ => rfl) kn hx (fun a _ b _ => alike_nL a b) (sortable_nL _) (fun a _ => depth_nL a) fun u H' s' d => q u H' s' (by rw [smeets_of hp] at d; exact d)
theorem sort_nn {S : Addr → Prop} {H : Hp} {x : V} {m : List Nat} {Q : VK} (kn : Kn S H) (hx : Dp K (off S H) x (nL m))
    (q : ∀ u H', Same H H' → Dp K (off S H') u (nL (srt m)) → Q u H') : rSortM K [x] H Q :=
  sort_m (f := nD) (le := leN) (fun _ _ _ _ => rfl) kn hx (fun a _ b _ => by unfold nD; simp [PySem.W.alike]) (sortable_nD _) (fun a _ => by unfold nD; simp [PyData.depth]) fun u H' s' d => q u H' s' d
theorem ok_mixed_meetings (T : Txt K mg a fd C tk) (U : TxC K mg a C) : FnOk P w K mg base CX0 11 (a 19) (fd 19) ["tree"] (spF K C fun t => nLL (smeets t)) := by
  have G_lists_of := ok_lists_of (P := P) (w := w) (base := base) T
  have G_stands_barely := ok_stands_barely (P := P) (w := w) (base := base) T
  have G_Tree_shape := ok_Tree_shape (P := P) (w := w) (base := base) T U
  have G_Tree_members := ok_Tree_members (P := P) (w := w) (base := base) T U
  obtain ⟨pS, hpS⟩ := U.p_shape
  refine T.F_mixed_meetings.ok sc_mixed_meetings (fun vs H Q E h => spM_len (fun _ => rfl) h) (fun cdv A outer s H vs Q E hr h => ?_)
  obtain ⟨S, t, x, y, us, rfl, kn, ht, ok, ⟨⟩, few, q⟩ := h
  replace q : ∀ v H', Same H H' → Dp K (off S H') v (nLL (smeets t)) → Q v H' := q
  refine ⟨_, (pss_cons (ps_set (i := 1) sc_mixed_meetings.nd rfl (Or.inr rfl) (pe_prop (pv 0) U.cls hpS G_Tree_shape (hr.mono (by omega)) T.b_Tree_shape .nil pass0 rfl))
      (pss_one (ps_ret (pe_callB (k_sortM (K := K) hr.units) (by rfl) T.z_sorted (by decide +kernel) (pa_cons (pe_lc (own := [("houses", 2)]) (g := gName 2) (tt := _) rfl sc_mixed_meetings.nd (k_pi (K := K) (pe_call G_lists_of (hr.mono (by omega)) (by rfl) T.m_lists_of T.F_lists_of.kp T.b_lists_of .nil pass0 (pa_cons (pe_meth0 (pv 0) U.cls U.me_members G_Tree_members (hr.mono (by omega)) T.b_Tree_members .nil pass0) pa_nil))) (blkOk_by (own := [("houses", 2)]) (N := mixed_meetings_N) (sc := defScope mixed_meetings_s) (by decide +kernel)) (fun _ _ _ _ _ => (pg_name (i := 2) sc_mixed_meetings.nd rfl (Or.inl rfl))) (fun _ _ _ _ _ => (pts_one (pt_val (pe_call G_stands_barely (hr.mono (by omega)) (by rfl) T.m_stands_barely T.F_stands_barely.kp T.b_stands_barely .nil pass0 (pa_cons (pv 1) (pa_cons (pv 2) pa_nil)))))) (fun _ _ _ _ _ => (pv 2))) pa_nil))))), ?_⟩
  refine s_seq (s_set (t_shape rfl kn ht ok fun u H1 s1 du => nx_of ?_))
  have kn1 := kn.same s1
  have ht1 := ht.same (off_same s1)
  refine s_ret (t_cb1 (lcF false (lists (mem t)) (barely t) nL nL kn1 (fun Q q => t_call1 (t_members rfl kn1 ht1 ok fun u2 H2 s2 d2 => ⟨S, mem t, kn1.same s2, .cons d2 .nil, by show (mem t).length ≤ 8; omega, fun u3 H3 s3 d3 => q u3 H3 (s2.trans s3) d3⟩)) (Nat.le_trans (lists_len8 (ns := mem t) (by omega)) (by decide)) (fun _ => rfl) (fun m hm x2 H2 S2 s2 kn2 dx hS ho Q q => ?_) (fun m hm pm' x2 H2 S2 s2 kn2 dx hS ho Q q => t_var rfl (q _ _ (Same.refl _) dx)) fun D H2 ys hD s2 hd2 h2 => ?_))
  · refine b_val (t_call2 (t_var rfl (t_var rfl ⟨S2, (flg false t, false, m), kn2, .cons (dp_same ho _ _ du) (.cons dx .nil), ⟨preOf (okt_flg ok), ?_⟩, fun v H' s' h => ?_⟩)))
    · show m.length ≤ 1000
      have := ((lists_mem _ m).mp hm).length_le
      omega
    · replace h : Dp K (off S2 H') v (.bool (barely (flg false t) m)) := h
      rw [barely_flg] at h
      cases h
      exact ⟨_, rfl, q H' s'⟩
  · exact sort_ll (kn1.same s2) h2 (List.Perm.refl _) fun u3 H3 s3 d3 => q u3 H3 ((s1.trans s2).trans s3) d3
end
end K31

set_option maxRecDepth 100000
set_option maxHeartbeats 1000000
/-! comprehensions over zip -/
namespace Kh
open PySem PySem.Spec PyProof.Rows L2
theorem lcZ {α β : Type} {K : PySem.W.Frag} {S : Addr → Prop} {H : Hp} {σ : L2.St} {ta : TA} {te : TE} {s1 s2 : Nat} {vs : List Nat} {Q : VK} (ms : List α) (ns : List β) (f : α → PyData) (f2 : β → PyData) (g : α × β → PyData) (kn : Kn S H)
    (hev : ∀ Q : List V → Hp → Prop, (∀ u1 u2 H1, Same H H1 → Dp K (off S H1) u1 (.list (ms.map f)) → Dp K (off S H1) u2 (.list (ns.map f2)) → Q [u1, u2] H1) → ta σ H Q) (hn : ms.length ≤ 100000)
    (hw : ∀ x y, wipe (((wipe σ vs).set s1 (some x)).set s2 (some y)) vs = wipe σ vs)
    (body : ∀ m n, (m, n) ∈ ms.zip ns → ∀ x y H1 S', Same H H1 → Kn S' H1 → Dp K (off S' H1) x (f m) → Dp K (off S' H1) y (f2 n) → (∀ a, S a → S' a) → Same (off S H) (off S' H1) → ∀ Q : VK, (∀ z H', Same H1 H' → Dp K (off S' H') z (g (m, n)) → Q z H') → te (((wipe σ vs).set s1 (some x)).set s2 (some y)) H1 Q)
    (done : ∀ D H1 ys, H D = none → Same H H1 → H1 D = some (.lst ys) → Dp K (off S H1) (.ref D) (.list ((ms.zip ns).map g)) → Q (.ref D) H1) :
    tLc (iZip K ta) (gTup K 2 (gCons (gName s1) (gCons (gName s2) gNil))) tYes te vs σ H Q := by
  refine hev _ fun u1 u2 H1 s h1 h2 => ?_
  obtain ⟨ra, xs, rfl, hsa, ha⟩ := list_at h1
  obtain ⟨rb, ys, rfl, hsb, hb⟩ := list_at h2
  refine ⟨ra, rb, xs, ys, rfl, off_sub.seq hsa, off_sub.seq hsb, fun D hD => ?_⟩
  have la := dpa_len ha
  have lb := dpa_len hb
  rw [List.length_map] at la lb
  have kn1 := kn.same s
  have hG : ∀ H', Same H1 H' → SqL K H' ra xs ∧ SqL K H' rb ys := fun H' z => ⟨(off_sub.trans z).seq hsa, (off_sub.trans z).seq hsb⟩
  refine wlk (walk_zip (K := K) (a := ra) (b := rb) (xs := xs) (ys := ys) (n := (ms.zip ns).length) (by rw [List.length_zip, la, lb])) (fun x H' Nx => gTup K 2 (gCons (gName s1) (gCons (gName s2) gNil)) x (wipe σ vs) H' fun σ2 H2 => wipe σ2 vs = wipe σ vs ∧ tYes σ2 H2 fun b H3 => if b = true then te σ2 H3 fun y H4 => ∃ acc, H4 D = some (.lst acc) ∧ acc.length < sizeLine ∧ Nx (upd H4 D (.lst (acc ++ [y]))) else Nx H3)
    (fun i H' => ∃ zs, DpAll K (off (plus S D) H') zs (((ms.zip ns).map g).take i) ∧ Same H1 H' ∧ H' D = some (.lst zs)) ⟨[], .nil, same_new hD, upd_same⟩ (fun i H' _ ⟨_, _, z, _⟩ => hG H' z) ?_ ?_
  · rintro i x H2 H3 hi ⟨zs, py, z, hd⟩ ⟨T0, x1, y1, rfl, hT, rfl, hx, hy⟩
    obtain ⟨d, dj, dx⟩ := dpa_at ha hx
    obtain ⟨e, ej, dy⟩ := dpa_at hb hy
    obtain ⟨m, hj, hm, rfl⟩ := at_map dj
    obtain ⟨n, nj, hn', rfl⟩ := at_map ej
    have zj : (ms.zip ns)[i]? = some (m, n) := by rw [List.getElem?_zip_eq_some]; exact ⟨hj, nj⟩
    have sT := same_new (o := HO.tup [x1, y1]) hT
    have z3 := z.trans sT
    have hd3 := sT _ _ hd
    have hT3 : (upd H2 T0 (.tup [x1, y1])) T0 = some (.tup [x1, y1]) := upd_same
    have py3 := dpa_same (off_same (S := plus S D) sT) _ _ py
    generalize upd H2 T0 (.tup [x1, y1]) = H3 at *
    have hl : zs.length ≤ 100000 := by
      have := dpa_len py
      rw [List.length_take, List.length_map, List.length_zip] at this
      omega
    refine ⟨T0, [x1, y1], rfl, sqT hT3, rfl, x1, [y1], rfl, y1, [], rfl, rfl, hw x1 y1, t_yes ?_⟩
    refine body m n (List.mem_of_getElem? zj) x1 y1 H3 (plus S D) (s.trans z3) ((kn1.same z3).plus (some_ne hd3)) (dp_same (off_plus hD z3) _ _ dx) (dp_same (off_plus hD z3) _ _ dy) (fun _ h => .inl h) ((off_same s).trans (off_plus hD z3)) _ fun u H7 s7 d7 => ?_
    refine ⟨zs, s7 _ _ hd3, Nat.lt_of_le_of_lt hl (by decide), zs ++ [u], ?_, smut (z3.trans s7) hD, upd_same⟩
    rw [off_mut (show plus S D D from .inr rfl), List.take_add_one, List.getElem?_map, zj]
    exact dpa_app (dpa_same (off_same s7) _ _ py3) (.cons d7 .nil)
  · rintro H2 ⟨zs, py, z, hd⟩
    refine done D H2 zs (s.free hD) (s.trans z) hd (dp_lst (kn1.new hD) hd ?_)
    rw [List.take_of_length_le (by rw [List.length_map]; exact Nat.le_refl _)] at py
    exact dpa_same (off_fin (D := D)) _ _ py
end Kh

set_option maxRecDepth 100000
set_option maxHeartbeats 4000000
namespace K31
open PySem PySem.Spec PyProof.Rows L2 Kh
section
variable {P : Program} {w : World} {K : PySem.W.Frag} {mg : Str → Option Value} {base : Heap} {a : Nat → Addr} {fd : Nat → FuncData} {C : Addr} {tk : Nat → Tok}
theorem can_nums : ∀ ms : List Nat, PyData.canLayAll0 (ms.map nD) = true
  | [] => by simp [PyData.canLayAll0]
  | m :: ms => by rw [List.map_cons, PyData.canLayAll0, can_nums ms]; simp [nD, PyData.canLay0]
theorem dep_nums : ∀ ms : List Nat, PyData.depthAll (ms.map nD) = 0
  | [] => by simp [PyData.depthAll]
  | m :: ms => by rw [List.map_cons, PyData.depthAll, dep_nums ms]; simp [nD, PyData.depth]
theorem shaped_nL (ms : List Nat) : SeqAt.shaped (nL ms) = true := by
  unfold SeqAt.shaped nL
  rw [PyData.canLay0, can_nums, PyData.depth, dep_nums]; rfl
theorem eqv_nil (ms : List Nat) : PyData.eqv (nL ms) (.list []) = ms.isEmpty := by
  unfold nL
  rw [PyData.eqv]
  cases ms with
  | nil => rw [List.map_nil, PyData.eqvAll]; rfl
  | cons m ms => rw [List.map_cons, PyData.eqvAll]; rfl
theorem nats_dpa {H : Hp} : ∀ ns : List Nat, DpAll K H (ns.map fun n : Nat => V.int (n : Nat)) (ns.map nD)
  | [] => .nil
  | n :: ns => .cons (.int _) (nats_dpa ns)
theorem dpa_nats {H : Hp} : ∀ {ns : List Nat} {vs : List V}, DpAll K H vs (ns.map nD) → vs = ns.map fun n : Nat => V.int (n : Nat)
  | [], _, h => by cases h; rfl
  | n :: ns, _, h => by
    cases h with
    | cons h1 h2 => cases h1; rw [dpa_nats h2]; rfl
theorem perm_erase {x : Nat} : ∀ {l : List Nat} {k : Nat}, l[k]? = some x → (x :: l.eraseIdx k).Perm l
  | [], k, h => by simp at h
  | y :: l, 0, h => by
    simp at h; subst h
    rw [List.eraseIdx_cons_zero]
  | y :: l, k + 1, h => by
    rw [List.eraseIdx_cons_succ]
    exact (List.Perm.swap y x _).trans ((perm_erase (l := l) (k := k) (by simpa using h)).cons y)
theorem erase_nats : ∀ (l : List Nat) (k : Nat), (l.map fun n : Nat => V.int (n : Nat)).eraseIdx k = (l.eraseIdx k).map fun n : Nat => V.int (n : Nat)
  | [], k => by simp
  | y :: l, 0 => by simp
  | y :: l, k + 1 => by simp [erase_nats l k]
theorem o_none {σ : L2.St} {H : Hp} {q : Option Int → Hp → Prop} (h : q none H) : tNoPart σ H q := h
theorem o_some {te : TE} {σ : L2.St} {H : Hp} {q : Option Int → Hp → Prop} (h : te σ H fun x H1 => ∃ i, x = .int i ∧ q (some i) H1) : tPart te σ H q := h
theorem cut_take (xs : List V) (m : Nat) (h : m ≤ xs.length) : cutV xs none (some (m : Nat)) = xs.take m := by
  unfold cutV
  rw [HT.sIx_none, HT.sIx_nat, List.drop_zero]
  congr 1; omega
end
end K31

set_option maxRecDepth 100000
set_option maxHeartbeats 4000000
namespace K31
open PySem PySem.Spec PyProof.Rows L2 Kh
abbrev ivs (ns : List Nat) : List V := ns.map fun n : Nat => V.int (n : Nat)
theorem cut_drop (xs : List V) (m : Nat) (h : m ≤ xs.length) : cutV xs (some (m : Nat)) none = xs.drop m := by
  unfold cutV
  rw [HT.sIx_none, HT.sIx_nat, Nat.min_eq_left h, List.take_of_length_le (by rw [List.length_drop]; omega)]
theorem flat_set {n : Nat} : ∀ {gs : List (List Nat)} {d : Nat} {g : List Nat}, gs[d]? = some g → ((gs.set d (g ++ [n])).flatten).Perm (gs.flatten ++ [n])
  | [], d, g, h => by simp at h
  | g0 :: gs, 0, g, h => by
    simp at h; subst h
    show (g0 ++ [n] ++ gs.flatten).Perm (g0 ++ gs.flatten ++ [n])
    rw [List.append_assoc, List.append_assoc]
    exact (List.perm_append_comm).append_left g0
  | g0 :: gs, d + 1, g, h => by
    show (g0 ++ (gs.set d (g ++ [n])).flatten).Perm (g0 ++ gs.flatten ++ [n])
    rw [List.append_assoc]
    exact (flat_set (gs := gs) (d := d) (by simpa using h)).append_left g0
section
variable {P : Program} {w : World} {K : PySem.W.Frag} {mg : Str → Option Value} {base : Heap} {a : Nat → Addr} {fd : Nat → FuncData} {C : Addr} {tk : Nat → Tok}
theorem min2_of {H : Hp} {Q : VK} {i j m : Int} (e : (if j < i then j else i) = m) (q : Q (.int m) H) : rMin2 [.int i, .int j] H Q := ⟨i, j, rfl, by rw [e]; exact q⟩
theorem t_sl {r : V → Option Int → Option Int → Hp → VK → Prop} {te : TE} {tl th : TO} {σ : L2.St} {H : Hp} {Q : VK} (h : te σ H fun x H1 => tl σ H1 fun l H2 => th σ H2 fun u H3 => r x l u H3 Q) : tSl r te tl th σ H Q := h
end
end K31

set_option maxRecDepth 100000
set_option maxHeartbeats 4000000
namespace K31
open PySem PySem.Spec PyProof.Rows L2 Kh
section
variable {P : Program} {w : World} {K : PySem.W.Frag} {mg : Str → Option Value} {base : Heap} {a : Nat → Addr} {fd : Nat → FuncData} {C : Addr} {tk : Nat → Tok}
theorem take_snoc' {α : Type} {ns : List α} {i : Nat} {n : α} (h : ns[i]? = some n) : ns.take (i + 1) = ns.take i ++ [n] := by rw [List.take_add_one, h]; rfl
theorem cut_init (xs : List V) : cutV xs none (some (-1)) = xs.take (xs.length - 1) := by
  unfold cutV
  rw [HT.sIx_none, List.drop_zero, Nat.sub_zero]
  congr 1
  unfold HT.sIx
  simp only []
  split <;> omega
theorem dpa_take {K : PySem.W.Frag} {H : Hp} : ∀ {xs : List V} {ds : List PyData} (n : Nat), DpAll K H xs ds → DpAll K H (xs.take n) (ds.take n)
  | _, _, 0, _ => by rw [List.take_zero, List.take_zero]; exact .nil
  | _, _, n + 1, .nil => .nil
  | _, _, n + 1, .cons h t => .cons h (dpa_take n t)
theorem dpa_drop {K : PySem.W.Frag} {H : Hp} : ∀ {xs : List V} {ds : List PyData} (n : Nat), DpAll K H xs ds → DpAll K H (xs.drop n) (ds.drop n)
  | _, _, 0, h => h
  | _, _, n + 1, .nil => .nil
  | _, _, n + 1, .cons h t => dpa_drop n t
theorem sl_drop {α : Type} {S : Addr → Prop} {H : Hp} {x : V} {ms : List α} {f : α → PyData} {m : Nat} {Q : VK} (kn : Kn S H) (hx : Dp K (off S H) x (.list (ms.map f))) (hm : m ≤ ms.length)
    (q : ∀ u H', Same H H' → Dp K (off S H') u (.list ((ms.drop m).map f)) → Q u H') : rSlL K x (some (m : Nat)) none H Q := by
  obtain ⟨l, xs, rfl, h1, d1⟩ := list_at hx
  have hl := dpa_len d1
  rw [List.length_map] at hl
  refine ⟨l, xs, rfl, off_sub.seq h1, fun p hp => ?_⟩
  rw [cut_drop _ _ (by omega)]
  exact q _ _ (same_new hp) (dp_newL kn hp (by rw [List.map_drop]; exact dpa_drop m d1))
theorem sl_take {α : Type} {S : Addr → Prop} {H : Hp} {x : V} {ms : List α} {f : α → PyData} {m : Nat} {Q : VK} (kn : Kn S H) (hx : Dp K (off S H) x (.list (ms.map f))) (hm : m ≤ ms.length)
    (q : ∀ u H', Same H H' → Dp K (off S H') u (.list ((ms.take m).map f)) → Q u H') : rSlL K x none (some (m : Nat)) H Q := by
  obtain ⟨l, xs, rfl, h1, d1⟩ := list_at hx
  have hl := dpa_len d1
  rw [List.length_map] at hl
  refine ⟨l, xs, rfl, off_sub.seq h1, fun p hp => ?_⟩
  rw [cut_take _ _ (by omega)]
  exact q _ _ (same_new hp) (dp_newL kn hp (by rw [List.map_take]; exact dpa_take m d1))
theorem sl_init {α : Type} {S : Addr → Prop} {H : Hp} {x : V} {ms : List α} {f : α → PyData} {Q : VK} (kn : Kn S H) (hx : Dp K (off S H) x (.list (ms.map f)))
    (q : ∀ u H', Same H H' → Dp K (off S H') u (.list ((ms.take (ms.length - 1)).map f)) → Q u H') : rSlL K x none (some (-1)) H Q := by
  obtain ⟨l, xs, rfl, h1, d1⟩ := list_at hx
  have hl := dpa_len d1
  rw [List.length_map] at hl
  refine ⟨l, xs, rfl, off_sub.seq h1, fun p hp => ?_⟩
  rw [cut_init, hl]
  exact q _ _ (same_new hp) (dp_newL kn hp (by rw [List.map_take]; exact dpa_take _ d1))
theorem ix_last {α : Type} {S : Addr → Prop} {H : Hp} {x : V} {ms : List α} {m : α} {f : α → PyData} {Q : VK} (hx : Dp K (off S H) x (.list ((ms ++ [m]).map f)))
    (q : ∀ u, Dp K (off S H) u (f m) → Q u H) : rIx K x (.int (-1)) H Q := by
  obtain ⟨l, xs, rfl, h1, d1⟩ := list_at hx
  rw [List.map_append, List.map_cons, List.map_nil] at d1
  obtain ⟨vs', v, rfl, h2, h3⟩ := dpa_snoc d1
  exact .inl ⟨l, _, -1, v, rfl, rfl, off_sub.seq h1, atI_last _ _, q v h3⟩
/-- how many, by parts -/
def eD (ls : List Nat) (k : Nat) : List Nat := (List.range (k + 1)).map (esy ls)
theorem eD_len (ls : List Nat) (k : Nat) : (eD ls k).length = k + 1 := by unfold eD; simp
theorem eD_step (ls : List Nat) (m k : Nat) : eD (ls ++ [m]) k = 1 :: ((eD ls k).take ((eD ls k).length - 1) |>.zip ((eD ls k).drop 1)).map fun z => z.2 + z.1 * m := by
  have h1 : (eD ls k).take ((eD ls k).length - 1) = (List.range k).map (esy ls) := by
    rw [eD_len, Nat.add_sub_cancel]
    unfold eD
    rw [← List.map_take, List.take_range, Nat.min_eq_left (by omega)]
  have h2 : (eD ls k).drop 1 = (List.range k).map fun j => esy ls (j + 1) := by
    unfold eD
    rw [List.range_succ_eq_map, List.map_cons, List.drop_succ_cons, List.drop_zero, List.map_map]
    rfl
  rw [h1, h2, List.zip_map', List.map_map]
  unfold eD
  rw [List.range_succ_eq_map, List.map_cons, esy_zero, List.map_map]
  congr 1
  exact List.map_congr_left fun j _ => esy_snoc ls m j
theorem eD_nil (k : Nat) : eD [] k = [1] ++ List.replicate k 0 := by
  unfold eD
  rw [List.range_succ_eq_map, List.map_cons, esy_zero, List.map_map]
  refine congrArg (1 :: ·) (List.eq_replicate_iff.mpr ⟨by simp, fun b hb => ?_⟩)
  obtain ⟨j, _, rfl⟩ := List.mem_map.mp hb
  rfl
theorem eD_last (ls : List Nat) (k : Nat) : eD ls k = (List.range k).map (esy ls) ++ [esy ls k] := by
  unfold eD; rw [List.range_succ, List.map_append]; rfl
theorem esy_small {ps : List Kh.T} (h : ∀ p ∈ ps, Wf p) (hl : (ps.flatMap lv).length ≤ 24) (i k : Nat) : esy ((ps.take i).map pc) k < 2 ^ 25 := by
  have h1 := esy_le ((ps.take i).map pc) k
  have h2 := prod_pow (ps := ps.take i) fun p hp => pc_lt p (h p (List.mem_of_mem_take hp))
  have h3 := flat_take_le ps i
  have h4 : 2 ^ ((ps.take i).flatMap lv).length ≤ 2 ^ 24 := Nat.pow_le_pow_right (by omega) (by omega)
  have h5 : (2 : Nat) ^ 24 < 2 ^ 25 := by decide
  omega
theorem nat_bits {n b : Nat} (h : n < 2 ^ b) : ((n : Nat) : Int).natAbs < 2 ^ b := by simpa using h
abbrev spPC (K : PySem.W.Frag) (d : Nat) : Sp := spP K t1 (fun t => preT d t ∧ (lv t).length ≤ 24) fun t => nD (pc t)
theorem ok_plain_count (T : Txt K mg a fd C tk) : ∀ d, FnOk P w K mg base CX0 (d + 1) (a 20) (fd 20) ["shape"] (spPC K d)
  | 0 => fn_none fun _ _ _ _ h => by
    obtain ⟨_, x, _, _, ⟨⟨_, h⟩, _⟩, _⟩ := h
    exact Nat.not_lt_zero _ h
  | d + 1 => by
    have G_plain_count := ok_plain_count T d
    have G_is_integer : FnOk P w K mg base CX0 1 (a 0) (fd 0) ["value"] (spIsInteger K) := ok_is_integer T
    refine T.F_plain_count.ok sc_plain_count (fun vs H Q E h => spP_len (fun _ => rfl) h) (fun cdv A outer s H vs Q E hr h => ?_)
    obtain ⟨S, t, kn, hd, ⟨⟨sm, dp⟩, l24⟩, q⟩ := h
    replace q : ∀ v H', Same H H' → Dp K (off S H') v (nD (pc t)) → Q v H' := q
    replace sm : Sm t := sm
    replace dp : dep t < d + 1 := dp
    obtain - | ⟨hd, ⟨⟩⟩ := hd
    rename_i v
    replace hd : Dp K (off S H) v (tD t) := hd
    refine ⟨_, (pss_cons (ps_if (pt_val (pe_call G_is_integer (hr.mono (by omega)) (by rfl) T.m_is_integer T.F_is_integer.kp T.b_is_integer .nil pass0 (pa_cons (pv 0) pa_nil)))
        (pss_one (ps_ret pe_int)) pss_nil)
      (pss_cons (ps_set (i := 1) sc_plain_count.nd rfl (Or.inl rfl) (pe_op (k_catS (K := K)) (pe_lst (pa_cons pe_int pa_nil)) (pe_op op_rep (pe_lst (pa_cons pe_int pa_nil)) (pe_ix (k_ix (K := K)) (pv 0) pe_int (fun _ _ => rfl)))))
      (pss_cons (ps_for PassesOwn.never rfl (k_pi (K := K) (pe_ix (k_ix (K := K)) (pv 0) pe_int (fun _ _ => rfl))) (pg_name (i := 2) sc_plain_count.nd rfl (Or.inl rfl))
        (pss_cons (ps_set (i := 3) sc_plain_count.nd rfl (Or.inr rfl) (pe_call G_plain_count (hr.mono (by omega)) (by rfl) T.m_plain_count T.F_plain_count.kp T.b_plain_count .nil pass0 (pa_cons (pv 2) pa_nil)))
        (pss_one (ps_set (i := 1) sc_plain_count.nd rfl (Or.inl rfl) (pe_op (k_catS (K := K)) (pe_lst (pa_cons pe_int pa_nil)) (pe_lc (own := [("former", 4), ("count", 5)]) (g := gTup K 2 (gCons (gName 4) (gCons (gName 5) gNil))) (tt := tYes) rfl sc_plain_count.nd (pi_zip (by rfl) T.z_zip (pa_cons (pe_slice (k_sl (K := K)) (pv 1) po_none (po_some (pe_un un_neg pe_int))) (pa_cons (pe_slice (k_sl (K := K)) (pv 1) (po_some pe_int) po_none) pa_nil))) (blkOk_by (own := [("former", 4), ("count", 5)]) (N := plain_count_N) (sc := defScope plain_count_s) (by decide +kernel)) (fun _ _ _ _ _ => (pg_tup rfl (pgs_cons (pg_name (i := 4) sc_plain_count.nd rfl (Or.inl rfl)) (pgs_cons (pg_name (i := 5) sc_plain_count.nd rfl (Or.inl rfl)) pgs_nil)))) (fun _ _ _ _ _ => pts_nil) (fun _ _ _ _ _ => (pe_op op_add (pv 5) (pe_op op_mulW (pv 4) (pv 3))))))))))
      (pss_one (ps_ret (pe_ix (k_ix (K := K)) (pv 1) (pe_un un_neg pe_int) (fun _ _ => rfl))))))), ?_⟩
    cases t with
    | leaf n =>
      rw [tD_leaf] at hd
      rw [pc_leaf] at q
      exact s_seq (s_if (b_val (t_call1 (t_var rfl (spP_bl off_sub _ (.cons hd .nil) trivial rfl fun H1 s1 => ⟨_, rfl, ifT rfl (s_ret (t_c (q _ _ s1 (.int 1))))⟩)))))
    | gate b k ps =>
      rw [tD_gate] at hd
      rw [pc_gate] at q
      rw [lv_gate] at l24
      have wf := (wf_gate b k ps).mp sm.1
      have k24 : k ≤ 24 := Nat.le_trans wf.2.1 (Nat.le_trans (len_lv ps wf.2.2) l24)
      refine s_seq (s_if (b_val (t_call1 (t_var rfl (spP_bl off_sub _ (.cons hd .nil) trivial rfl fun H1 s1 => ⟨_, rfl, ifF rfl (s_next ?_)⟩)))))
      have kn1 := kn.same s1
      have hd1 := dp_same (off_same s1) _ _ hd
      refine s_seq (s_set (t_op (t_lst (a_cons (t_c (a_nil ⟨le1, fun p1 hp1 => t_op (t_lst (a_cons (t_c (a_nil ⟨le1, fun p2 hp2 => ?_⟩)))) ⟩))))))
      have sp1 := same_new (o := HO.lst [V.int 1]) hp1
      have sp2 := sp1.trans (same_new (o := HO.lst [V.int 0]) hp2)
      have d1 := dp_newL (K := K) kn1 (ds := [.int 1]) hp1 (.cons (.int 1) .nil)
      have d1' := dp_same (off_same (same_new (o := HO.lst [V.int 0]) hp2)) _ _ d1
      have hp2' : (upd (upd H1 p1 (.lst [V.int 1])) p2 (.lst [V.int 0])) p2 = some (.lst [V.int 0]) := upd_same
      generalize upd (upd H1 p1 (.lst [V.int 1])) p2 (.lst [V.int 0]) = H2 at *
      have kn2 := kn1.same sp2
      have hd2 := dp_same (off_same sp2) _ _ hd1
      refine t_op (t_var rfl (t_c (ix_d (i := 1) off_sub hd2 rfl rfl fun u du => ?_)))
      cases du
      refine ⟨p2, ((k : Nat) : Int), _, rfl, rfl, hp2', by omega, by omega, ?_, fun p3 hp3 => ?_⟩
      · show 1 * k ≤ sizeLine
        exact Nat.le_trans (by omega) (show 24 ≤ sizeLine by decide)
      have s3 := same_new (o := HO.lst (List.replicate ((k : Nat) : Int).toNat [V.int 0]).flatten) hp3
      have d3 : Dp K (off S (upd H2 p3 (.lst (List.replicate ((k : Nat) : Int).toNat [V.int 0]).flatten))) (.ref p3) (.list ((List.replicate k 0).map nD)) := by
        refine dp_newL kn2 hp3 ?_
        have : (List.replicate ((k : Nat) : Int).toNat [V.int 0]).flatten = ((List.replicate k (0 : Int)).map V.int) := by
          rw [Int.toNat_natCast]
          induction k with
          | zero => rfl
          | succ k ih => simp [List.replicate_succ]
        rw [this]
        have e : (List.replicate k 0).map nD = (List.replicate k (0 : Int)).map PyData.int := by simp [nD]
        rw [e]; exact ints_dpa _
      refine cat_d (ds := [.int 1]) (es := (List.replicate k 0).map nD) (kn2.same s3) (dp_same (off_same s3) _ _ d1') d3 (by simp; omega) fun u H3 s4 du => nx_of ?_
      have s14 := sp2.trans (s3.trans s4)
      have kn3 := kn1.same s14
      have hd3 := dp_same (off_same s14) _ _ hd1
      have du' : Dp K (off S H3) u (nL (eD [] k)) := by
        rw [eD_nil]
        unfold nL
        rw [List.map_append]
        exact du
      refine s_seq (forM b ps tD kn3 (fun Q q => t_op (t_var rfl (t_c (ix_d (i := 2) off_sub hd3 rfl rfl fun u du => q u _ (Same.refl _) du)))) fun H4 s5 kn4 => ?_)
      refine ⟨fun i σ' H' => ∃ (u : V) (x2 x3 x4 x5 : Option V), σ' = [some v, some u, x2, x3, x4, x5] ∧ Same H4 H' ∧ Dp K (off S H') u (nL (eD ((ps.take i).map pc) k)), ⟨u, _, _, _, _, rfl, Same.refl _, dp_same (off_same s5) _ _ du'⟩, fun i σ' H' ⟨_, _, _, _, _, _, s, _⟩ => off_sub.trans s, ?_, ?_⟩
      · rintro i p x σ' H' pi hi pm dx ⟨u, x2, x3, x4, x5, rfl, s6, d6⟩
        have kn6 := kn4.same s6
        have dx6 := dp_same (off_same s6) _ _ dx
        have lp : (lv p).length ≤ 24 := Nat.le_trans (lv_part pm) l24
        refine g_name (s_seq (s_set (t_call1 (t_var rfl ⟨S, p, kn6, .cons dx6 .nil, ⟨⟨sm.parts p pm, dep_lt dp p pm⟩, lp⟩, fun m H7 s7 dm => nx_of ?_⟩))))
        replace dm : Dp K (off S H7) m (nD (pc p)) := dm
        cases dm
        have d7 := dp_same (off_same s7) _ _ d6
        have kn7 := kn6.same s7
        refine s_set (t_op (t_lst (a_cons (t_c (a_nil ⟨le1, fun p1 hp1 => ?_⟩)))))
        have sp1 := same_new (o := HO.lst [V.int 1]) hp1
        have d1 := dp_newL (K := K) kn7 (ds := [.int 1]) hp1 (.cons (.int 1) .nil)
        have d8 := dp_same (off_same sp1) _ _ d7
        have kn8 := kn7.same sp1
        generalize upd H7 p1 (.lst [V.int 1]) = H8 at *
        generalize hls : (ps.take i).map pc = ls at *
        have small : ∀ j, esy ls j < 2 ^ 25 := fun j => by rw [← hls]; exact esy_small wf.2.2 l24 i j
        have mems : ∀ n ∈ eD ls k, n < 2 ^ 25 := fun n hn => by
          obtain ⟨j, _, rfl⟩ := List.mem_map.mp hn
          exact small j
        have pcs : pc p < 2 ^ 25 := by
          have h1 := pc_lt p (wf.2.2 p pm)
          have h4 : 2 ^ (lv p).length ≤ 2 ^ 24 := Nat.pow_le_pow_right (by omega) lp
          have h5 : (2 : Nat) ^ 24 < 2 ^ 25 := by decide
          omega
        refine lcZ ((eD ls k).take ((eD ls k).length - 1)) ((eD ls k).drop 1) nD nD (fun z => nD (z.2 + z.1 * pc p)) kn8 (fun Q q => ?_) (by rw [List.length_take, eD_len]; omega) (fun _ _ => rfl) (fun m n mn x y H9 S9 s9 kn9 dx dy hS ho Q q => ?_) fun D H9 ys hD s9 hd9 h9 => ?_
        · refine a_cons (t_sl (t_var rfl (o_none (o_some (t_un (t_c ⟨_, rfl, _, rfl, ?_⟩))))))
          refine sl_init kn8 d8 fun u1 H9 s9 e1 => ?_
          refine a_cons (t_sl (t_var rfl (o_some (t_c ⟨_, rfl, o_none ?_⟩))))
          exact sl_drop (m := 1) (kn8.same s9) (dp_same (off_same s9) _ _ d8) (by rw [eD_len]; omega) fun u2 H10 s10 e2 => a_nil (q _ _ _ (s9.trans s10) (dp_same (off_same s10) _ _ e1) e2)
        · cases dx
          cases dy
          have hm : m < 2 ^ 25 := mems m (List.mem_of_mem_take (List.of_mem_zip mn).1)
          refine t_op (t_var rfl (t_op (t_var rfl (t_var rfl ⟨_, _, rfl, rfl, wide_mul (nat_bits hm) (nat_bits pcs) (by decide) (by decide) (by decide), ⟨_, _, rfl, rfl, q _ _ (Same.refl _) ?_⟩⟩))))
          exact dp_int (by simp)
        · refine cat_d (ds := [.int 1]) (kn8.same s9) (dp_same (off_same s9) _ _ d1) h9 (by rw [List.length_map, List.length_zip, List.length_take, eD_len]; simp; omega) fun u2 H10 s10 d10 => ?_
          refine ⟨u2, _, _, _, _, rfl, s6.trans (s7.trans (sp1.trans (s9.trans s10))), ?_⟩
          rw [take_snoc' pi, List.map_append, hls]
          show Dp K (off S H10) u2 (nL (eD (ls ++ [pc p]) k))
          rw [eD_step]
          unfold nL
          rw [List.map_cons, List.map_map]
          exact d10
      · rintro σ' H' ⟨u, x2, x3, x4, x5, rfl, s6, d6⟩
        rw [List.take_length, eD_last] at d6
        refine nx_of (s_ret (t_op (t_var rfl (t_un (t_c ⟨_, rfl, ix_last d6 fun z dz => q z H' (s1.trans (s14.trans (s5.trans s6))) dz⟩)))))
end
end K31

set_option maxRecDepth 100000
set_option maxHeartbeats 4000000
namespace K31
open PySem PySem.Spec PyProof.Rows L2 Kh
section
variable {P : Program} {w : World} {K : PySem.W.Frag} {mg : Str → Option Value} {base : Heap} {a : Nat → Addr} {fd : Nat → FuncData} {C : Addr} {tk : Nat → Tok}
def prodL (cs : List (List (List Nat))) : Nat := (cs.map fun c => c.length + 1).foldr (· * ·) 1
theorem prodL_pos (cs : List (List (List Nat))) : 1 ≤ prodL cs := by
  induction cs with
  | nil => exact Nat.le_refl _
  | cons c cs ih => unfold prodL at *; rw [List.map_cons, List.foldr_cons]; exact Nat.le_trans ih (Nat.le_mul_of_pos_left _ (by omega))
theorem prodL_tail (c : List (List Nat)) (cs : List (List (List Nat))) : prodL cs ≤ prodL (c :: cs) := by
  unfold prodL; rw [List.map_cons, List.foldr_cons]; exact Nat.le_mul_of_pos_left _ (by omega)
theorem prodL_head (c : List (List Nat)) (cs : List (List (List Nat))) : c.length ≤ prodL (c :: cs) := by
  have := prodL_pos cs
  unfold prodL at *; rw [List.map_cons, List.foldr_cons]
  exact Nat.le_trans (by omega) (Nat.le_mul_of_pos_right _ this)
theorem unions_few (cs : List (List (List Nat))) (k : Nat) : (unions cs k).length ≤ prodL cs := by
  rw [unions_len]
  have := esy_le (cs.map List.length) k
  unfold prodL
  rw [List.map_map] at this
  exact this
theorem unions_el : ∀ (cs : List (List (List Nat))) (k : Nat), (∀ c ∈ cs, ∀ m ∈ c, m.length ≤ 24) → ∀ x ∈ unions cs k, x.length ≤ 24 * cs.length
  | cs, 0, _, x, hx => by
    rw [unions_zero] at hx
    rw [List.mem_singleton.mp hx]; exact Nat.zero_le _
  | [], k + 1, _, x, hx => (nomatch hx)
  | c :: cs, k + 1, h, x, hx => by
    rw [unions] at hx
    rw [List.length_cons]
    rcases List.mem_append.mp hx with hx | hx
    · obtain ⟨y, hy, hx⟩ := List.mem_flatMap.mp hx
      obtain ⟨z, hz, rfl⟩ := List.mem_map.mp hx
      have h1 := h c List.mem_cons_self y hy
      have h2 := unions_el cs k (fun c hc => h c (List.mem_cons_of_mem _ hc)) z hz
      rw [List.length_append]; omega
    · have h2 := unions_el cs (k + 1) (fun c hc => h c (List.mem_cons_of_mem _ hc)) x hx
      omega
def eU (x : List (List (List Nat)) × Nat) : List PyData := [.list (x.1.map nLL), nD x.2]
structure PreU (d : Nat) (x : List (List (List Nat)) × Nat) : Prop where
  len : x.1.length < d
  most : x.1.length ≤ 16
  few : prodL x.1 ≤ 70000
  el : ∀ c ∈ x.1, ∀ m ∈ c, m.length ≤ 24
abbrev spUnions (K : PySem.W.Frag) (d : Nat) : Sp := spP K eU (PreU d) fun x => nLL (unions x.1 x.2)
theorem eq_int (n m : Nat) : decide (V.int ((n : Nat) : Int) = V.int ((m : Nat) : Int)) = decide (n = m) := decide_eq_decide.mpr ⟨fun h => by have := V.int.inj h; omega, fun h => by rw [h]⟩
theorem ok_unions (T : Txt K mg a fd C tk) : ∀ d, FnOk P w K mg base CX0 (d + 1) (a 22) (fd 22) ["choices", "need"] (spUnions K d)
  | 0 => fn_none fun _ _ _ _ h => by
    obtain ⟨_, x, _, _, h, _⟩ := h
    exact Nat.not_lt_zero _ h.len
  | d + 1 => by
    have G_unions := ok_unions T d
    refine T.F_unions.ok sc_unions (fun vs H Q E h => spP_len (fun _ => rfl) h) (fun cdv A outer s H vs Q E hr h => ?_)
    obtain ⟨S, ⟨cs, k⟩, kn, hd, pre, q⟩ := h
    replace q : ∀ v H', Same H H' → Dp K (off S H') v (nLL (unions cs k)) → Q v H' := q
    obtain - | ⟨hd, - | ⟨hk, ⟨⟩⟩⟩ := hd
    rename_i v vk
    replace hd : Dp K (off S H) v (.list (cs.map nLL)) := hd
    replace hk : Dp K (off S H) vk (nD k) := hk
    cases hk
    have p1 := pre.len
    have p2 := pre.most
    have p3 := pre.few
    have p4 := pre.el
    replace p1 : cs.length < d + 1 := p1
    replace p2 : cs.length ≤ 16 := p2
    replace p3 : prodL cs ≤ 70000 := p3
    replace p4 : ∀ c ∈ cs, ∀ m ∈ c, m.length ≤ 24 := p4
    refine ⟨_, (pss_cons (ps_if (pt_cmpR op_eq (pv 1) pe_int (nomark _))
        (pss_one (ps_ret (pe_lst (pa_cons (pe_lst pa_nil) pa_nil)))) pss_nil)
      (pss_cons (ps_if (pt_cmpR op_gt (pv 1) (pe_callB (k_len (K := K)) (by rfl) T.z_len (by decide +kernel) (pa_cons (pv 0) pa_nil)) (nomark _))
        (pss_one (ps_ret (pe_lst pa_nil))) pss_nil)
      (pss_cons (ps_set (i := 2) sc_unions.nd rfl (Or.inr rfl) (pe_call G_unions (hr.mono (by omega)) (by rfl) T.m_unions T.F_unions.kp T.b_unions .nil pass0 (pa_cons (pe_slice (k_sl (K := K)) (pv 0) (po_some pe_int) po_none) (pa_cons (pe_op op_sub (pv 1) pe_int) pa_nil))))
      (pss_one (ps_ret (pe_op (k_catS (K := K)) (pe_lc2 (own := [("some", 3), ("more", 4)]) (vs1 := [4]) (g := gName 3) (g1 := gName 4) (tt := tYes) (tt1 := tYes) rfl sc_unions.nd (k_pi (K := K) (pe_ix (k_ix (K := K)) (pv 0) pe_int (fun _ _ => rfl))) (blkOk_by (own := [("some", 3), ("more", 4)]) (N := unions_N) (sc := defScope unions_s) (by decide +kernel)) (by decide) (fun _ _ _ _ _ => (pg_name (i := 3) sc_unions.nd rfl (Or.inl rfl))) (fun _ _ _ _ _ => pts_nil) (fun _ _ _ _ _ => (k_pi (K := K) (pv 2))) (fun _ _ _ _ _ => (pg_name (i := 4) sc_unions.nd rfl (Or.inl rfl))) (fun _ _ _ _ _ => pts_nil) (fun _ _ _ _ _ => (pe_op (k_catS (K := K)) (pv 3) (pv 4)))) (pe_call G_unions (hr.mono (by omega)) (by rfl) T.m_unions T.F_unions.kp T.b_unions .nil pass0 (pa_cons (pe_slice (k_sl (K := K)) (pv 0) (po_some pe_int) po_none) (pa_cons (pv 1) pa_nil))))))))), ?_⟩
    refine s_seq (s_if (b_test (t_op (t_var rfl (t_c ⟨rfl, _, rfl, if_b (fun e => ?_) (fun e => s_next ?_)⟩)))))
    · have e0 : k = 0 := by have := V.int.inj (of_decide_eq_true e); omega
      subst e0
      rw [unions_zero] at q
      refine s_ret (t_lst (a_cons (t_lst0 fun p hp => a_nil ⟨le1, fun p2 hp2 => ?_⟩)))
      have sp := same_new (o := HO.lst []) hp
      exact q _ _ (sp.trans (same_new hp2)) (dp_newL (kn.same sp) hp2 (.cons (dp_newL (ds := []) kn hp .nil) .nil))
    have k0 : k ≠ 0 := fun z => by subst z; exact absurd rfl (of_decide_eq_false e)
    refine s_seq (s_if (b_test (t_op (t_var rfl (t_cb1 (t_var rfl (len_d off_sub hd rfl ⟨_, _, rfl, rfl, ⟨_, rfl, if_b (fun e => ?_) (fun e => s_next ?_)⟩⟩)))))))
    · have e1 := of_decide_eq_true e
      rw [List.length_map] at e1
      rw [unions_none cs k (by omega)] at q
      exact s_ret (t_lst0 fun p hp => q _ _ (same_new hp) (dp_newL (ds := []) kn hp .nil))
    have e1 := of_decide_eq_false e
    rw [List.length_map] at e1
    obtain ⟨j, rfl⟩ : ∃ j, k = j + 1 := ⟨k - 1, by omega⟩
    cases cs with
    | nil => simp at e1
    | cons c cs =>
      have pt : ∀ j', PreU d (cs, j') := fun j' => ⟨by rw [List.length_cons] at p1; show cs.length < d; omega, by rw [List.length_cons] at p2; show cs.length ≤ 16; omega, Nat.le_trans (prodL_tail c cs) p3, fun c' hc => p4 c' (List.mem_cons_of_mem _ hc)⟩
      have tail : ∀ {H' : Hp} {Q' : VK}, Same H H' → (∀ u H2, Same H' H2 → Dp K (off S H2) u (.list (cs.map nLL)) → Q' u H2) → rSlL K v (some 1) none H' Q' := fun {H' Q'} s q' => sl_drop (m := 1) (ms := c :: cs) (kn.same s) (dp_same (off_same s) _ _ hd) (by simp) q'
      refine s_seq (s_set (t_call2 (t_sl (t_var rfl (o_some (t_c ⟨_, rfl, o_none (tail (Same.refl _) fun u H1 s1 d1 => t_op (t_var rfl (t_c ⟨_, _, rfl, rfl, ?_⟩)))⟩))))))
      refine ⟨S, (cs, j), kn.same s1, .cons d1 (.cons (dp_int (by omega)) .nil), pt j, fun r H2 s2 dr => nx_of ?_⟩
      replace dr : Dp K (off S H2) r (nLL (unions cs j)) := dr
      have s12 := s1.trans s2
      have kn2 := kn.same s12
      have few1 := unions_few cs j
      have few2 := unions_few cs (j + 1)
      have few3 := prodL_tail c cs
      have few4 := prodL_head c cs
      have tot := unions_few (c :: cs) (j + 1)
      rw [unions, List.length_append] at tot
      have fl : (c.flatMap fun _ => unions cs j).length = (c.flatMap fun x => (unions cs j).map (x ++ ·)).length := by
        rw [List.length_flatMap, List.length_flatMap]; simp
      refine s_ret (t_op (lc2M false false c nL (fun _ => unions cs j) nL (fun x y => nL (x ++ y)) kn2 (fun Q q => t_op (t_var rfl (t_c (ix_d (i := 0) off_sub (dp_same (off_same s12) _ _ hd) rfl rfl fun u du => q u _ (Same.refl _) du)))) (by omega) (fun _ => rfl) (fun _ _ => rfl) (fun m hm x H3 S3 s3 kn3 dx hS ho Q q => t_var rfl (q _ _ (Same.refl _) (dp_same ho _ _ dr))) (fun m hm n hn x y H3 S3 s3 kn3 dx dy hS ho Q q => ?_) fun D H3 ys hD s3 hd3 h3 => ?_))
      · have h1 := p4 c List.mem_cons_self m hm
        have h2 := unions_el cs j (fun c' hc => p4 c' (List.mem_cons_of_mem _ hc)) n hn
        rw [List.length_cons] at p2
        refine t_op (t_var rfl (t_var rfl (cat_d (ds := m.map nD) (es := n.map nD) kn3 dx dy (by rw [List.length_map, List.length_map]; omega) fun u H4 s4 d4 => q u H4 s4 ?_)))
        unfold nL
        rw [List.map_append]; exact d4
      · have s13 := s12.trans s3
        have kn3 := kn2.same s3
        refine t_call2 (t_sl (t_var rfl (o_some (t_c ⟨_, rfl, o_none (tail s13 fun u H4 s4 d4 => t_var rfl ⟨S, (cs, j + 1), kn3.same s4, .cons d4 (.cons (.int _) .nil), pt (j + 1), fun r2 H5 s5 dr2 => ?_⟩)⟩))))
        replace dr2 : Dp K (off S H5) r2 (nLL (unions cs (j + 1))) := dr2
        have s35 := s4.trans s5
        have e : (c.flatMap fun x => (unions cs j).map fun y => nL (x ++ y)) = (c.flatMap fun x => (unions cs j).map (x ++ ·)).map nL := by
          rw [List.map_flatMap]
          congr 1; funext x; rw [List.map_map]; rfl
        rw [e] at h3
        refine cat_d (es := (unions cs (j + 1)).map nL) (kn3.same s35) (dp_same (off_same s35) _ _ h3) dr2 (by rw [List.length_map, List.length_map]; omega) fun u2 H6 s6 d6 => q u2 H6 ((s13.trans s35).trans s6) ?_
        rw [unions]
        unfold nLL
        rw [List.map_append]; exact d6
theorem pm_len : ∀ t : Kh.T, ∀ m ∈ pm t, m.length ≤ (lv t).length := Kh.T.ind (fun n m hm => by rw [pm_leaf] at hm; rw [List.mem_singleton.mp hm, lv_leaf]; exact Nat.le_refl _) fun b k ps ih m hm => by
  rw [pm_gate] at hm
  rw [lv_gate]
  have go : ∀ (ps : List Kh.T) (k : Nat), (∀ p ∈ ps, ∀ m ∈ pm p, m.length ≤ (lv p).length) → ∀ x ∈ unions (ps.map pm) k, x.length ≤ (ps.flatMap lv).length := by
    intro ps
    induction ps with
    | nil =>
      intro k _ x hx
      cases k with
      | zero => rw [unions_zero] at hx; rw [List.mem_singleton.mp hx]; exact Nat.zero_le _
      | succ k => cases hx
    | cons p ps ih =>
      intro k h x hx
      cases k with
      | zero => rw [unions_zero] at hx; rw [List.mem_singleton.mp hx]; exact Nat.zero_le _
      | succ k =>
        rw [List.map_cons, unions] at hx
        rw [List.flatMap_cons, List.length_append]
        rcases List.mem_append.mp hx with hx | hx
        · obtain ⟨y, hy, hx⟩ := List.mem_flatMap.mp hx
          obtain ⟨z, hz, rfl⟩ := List.mem_map.mp hx
          have h1 := h p List.mem_cons_self y hy
          have h2 := ih k (fun q hq => h q (List.mem_cons_of_mem _ hq)) z hz
          rw [List.length_append]; omega
        · have h2 := ih (k + 1) (fun q hq => h q (List.mem_cons_of_mem _ hq)) x hx
          omega
  exact go ps k ih m hm
abbrev preM (d : Nat) (t : Kh.T) : Prop := preT d t ∧ (lv t).length ≤ 16
abbrev spPM (K : PySem.W.Frag) (d : Nat) : Sp := spP K t1 (preM d) fun t => nLL (pm t)
theorem ok_plain_meetings (T : Txt K mg a fd C tk) : ∀ d, FnOk P w K mg base CX0 (d + 20) (a 23) (fd 23) ["shape"] (spPM K d)
  | 0 => fn_none fun _ _ _ _ h => by
    obtain ⟨_, x, _, _, ⟨⟨_, h⟩, _⟩, _⟩ := h
    exact Nat.not_lt_zero _ h
  | d + 1 => by
    have G_plain_meetings := ok_plain_meetings T d
    have G_unions := ok_unions (P := P) (w := w) (base := base) T 17
    have G_is_integer : FnOk P w K mg base CX0 1 (a 0) (fd 0) ["value"] (spIsInteger K) := ok_is_integer T
    refine T.F_plain_meetings.ok sc_plain_meetings (fun vs H Q E h => spP_len (fun _ => rfl) h) (fun cdv A outer s H vs Q E hr h => ?_)
    obtain ⟨S, t, kn, hd, ⟨⟨sm, dp⟩, l16⟩, q⟩ := h
    replace q : ∀ v H', Same H H' → Dp K (off S H') v (nLL (pm t)) → Q v H' := q
    replace sm : Sm t := sm
    replace dp : dep t < d + 1 := dp
    obtain - | ⟨hd, ⟨⟩⟩ := hd
    rename_i v
    replace hd : Dp K (off S H) v (tD t) := hd
    refine ⟨_, (pss_cons (ps_if (pt_val (pe_call G_is_integer (hr.mono (by omega)) (by rfl) T.m_is_integer T.F_is_integer.kp T.b_is_integer .nil pass0 (pa_cons (pv 0) pa_nil)))
        (pss_one (ps_ret (pe_lst (pa_cons (pe_lst (pa_cons (pv 0) pa_nil)) pa_nil)))) pss_nil)
      (pss_one (ps_ret (pe_call G_unions (hr.mono (by omega)) (by rfl) T.m_unions T.F_unions.kp T.b_unions .nil pass0 (pa_cons (pe_lc (own := [("part", 1)]) (g := gName 1) (tt := tYes) rfl sc_plain_meetings.nd (k_pi (K := K) (pe_ix (k_ix (K := K)) (pv 0) pe_int (fun _ _ => rfl))) (blkOk_by (own := [("part", 1)]) (N := plain_meetings_N) (sc := defScope plain_meetings_s) (by decide +kernel)) (fun _ _ _ _ _ => (pg_name (i := 1) sc_plain_meetings.nd rfl (Or.inl rfl))) (fun _ _ _ _ _ => pts_nil) (fun _ _ _ _ _ => (pe_call G_plain_meetings (hr.mono (by omega)) (by rfl) T.m_plain_meetings T.F_plain_meetings.kp T.b_plain_meetings .nil pass0 (pa_cons (pv 1) pa_nil)))) (pa_cons (pe_ix (k_ix (K := K)) (pv 0) pe_int (fun _ _ => rfl)) pa_nil)))))), ?_⟩
    cases t with
    | leaf n =>
      rw [tD_leaf] at hd
      rw [pm_leaf] at q
      refine s_seq (s_if (b_val (t_call1 (t_var rfl (spP_bl off_sub _ (.cons hd .nil) trivial rfl fun H1 s1 => ⟨_, rfl, ifT rfl ?_⟩)))))
      cases hd
      refine s_ret (t_lst (a_cons (t_lst (a_cons (t_var rfl (a_nil ⟨le1, fun p hp => a_nil ⟨le1, fun p2 hp2 => ?_⟩⟩))))))
      have sp := same_new (o := HO.lst [V.int ((n : Nat) : Int)]) hp
      have kn1 := kn.same s1
      exact q _ _ (s1.trans (sp.trans (same_new hp2))) (dp_newL (kn1.same sp) hp2 (.cons (dp_newL (ds := [nD n]) kn1 hp (.cons (.int _) .nil)) .nil))
    | gate b k ps =>
      rw [tD_gate] at hd
      rw [pm_gate] at q
      rw [lv_gate] at l16
      have wf := (wf_gate b k ps).mp sm.1
      refine s_seq (s_if (b_val (t_call1 (t_var rfl (spP_bl off_sub _ (.cons hd .nil) trivial rfl fun H1 s1 => ⟨_, rfl, ifF rfl (s_next ?_)⟩)))))
      have kn1 := kn.same s1
      have hd1 := dp_same (off_same s1) _ _ hd
      refine s_ret (t_call2 (lcM b ps tD (fun p => nLL (pm p)) kn1 (fun Q q => t_op (t_var rfl (t_c (ix_d (i := 2) off_sub hd1 rfl rfl fun u du => q u _ (Same.refl _) du)))) (Nat.le_trans sm.len (by decide)) (fun _ => rfl) (fun p pm' x H2 S2 s2 kn2 dx hS ho Q q => ?_) fun D H2 ys hD s2 hd2 h2 => ?_))
      · exact t_call1 (t_var rfl ⟨S2, p, kn2, .cons dx .nil, ⟨⟨sm.parts p pm', dep_lt dp p pm'⟩, Nat.le_trans (lv_part pm') l16⟩, fun u H3 s3 d3 => q u H3 s3 d3⟩)
      · refine t_op (t_var rfl (t_c (ix_d (i := 1) off_sub (dp_same (off_same s2) _ _ hd1) rfl rfl fun u du => ?_)))
        cases du
        have h2' : Dp K (off S H2) (.ref D) (.list ((ps.map pm).map nLL)) := by rw [List.map_map]; exact h2
        have lp := len_lv ps wf.2.2
        refine ⟨S, (ps.map pm, k), kn1.same s2, .cons h2' (.cons (.int _) .nil), ⟨by show (ps.map pm).length < 17; rw [List.length_map]; omega, by show (ps.map pm).length ≤ 16; rw [List.length_map]; omega, ?_, ?_⟩, fun u H3 s3 d3 => q u H3 ((s1.trans s2).trans s3) d3⟩
        · have h1 := prod_pow (ps := ps) fun p hp => pc_lt p (wf.2.2 p hp)
          have h2 : 2 ^ (ps.flatMap lv).length ≤ 2 ^ 16 := Nat.pow_le_pow_right (by omega) l16
          have h3 : prodL (ps.map pm) = ((ps.map pc).map (· + 1)).foldr (· * ·) 1 := by
            unfold prodL pc; rw [List.map_map, List.map_map]; rfl
          show prodL (ps.map pm) ≤ 70000
          rw [h3]
          have h4 : (2 : Nat) ^ 16 = 65536 := by decide
          omega
        · intro c hc m hm
          obtain ⟨p, hp, rfl⟩ := List.mem_map.mp hc
          have := pm_len p m hm
          have := lv_part hp
          omega
end
end K31

set_option maxRecDepth 100000
set_option maxHeartbeats 4000000
namespace K31
open PySem PySem.Spec PyProof.Rows L2 Kh
section
variable {P : Program} {w : World} {K : PySem.W.Frag} {mg : Str → Option Value} {base : Heap} {a : Nat → Addr} {fd : Nat → FuncData} {C : Addr} {tk : Nat → Tok}
theorem pm_flg (c : Bool) : ∀ t, pm (flg c t) = pm t := Kh.T.ind (fun n => by rw [flg_leaf]) fun b k ps ih => by
  rw [flg_gate, pm_gate, pm_gate, List.map_map]
  congr 1
  exact List.map_congr_left fun p hp => ih p hp
abbrev preW (t : Kh.T) : Prop := (mem t).length ≤ 7 ∧ (lv t).length ≤ 16
abbrev spW (K : PySem.W.Frag) (C : Addr) (f : Kh.T → PyData) : Sp := spM K C (fun _ : Unit => []) (fun t _ => preW t) (fun t _ => f t)
theorem lvs_le {t : Kh.T} : (lv (flg false t)).length = (lv t).length := by rw [lv_flg]
theorem ok_how_many (T : Txt K mg a fd C tk) (U : TxC K mg a C) : FnOk P w K mg base CX0 13 (a 21) (fd 21) ["tree"] (spW K C fun t => nD (meets t).length) := by
  have G_mixed_meetings := ok_mixed_meetings (P := P) (w := w) (base := base) T U
  have G_plain_count := ok_plain_count (P := P) (w := w) (base := base) T 6
  have G_Tree_shape := ok_Tree_shape (P := P) (w := w) (base := base) T U
  have G_Tree_is_plain := ok_Tree_is_plain (P := P) (w := w) (base := base) T U
  obtain ⟨pS, hpS⟩ := U.p_shape
  obtain ⟨pP, hpP⟩ := U.p_is_plain
  refine T.F_how_many.ok sc_how_many (fun vs H Q E h => spM_len (fun _ => rfl) h) (fun cdv A outer s H vs Q E hr h => ?_)
  obtain ⟨S, t, x, y, us, rfl, kn, ht, ok, ⟨⟩, pre, q⟩ := h
  replace q : ∀ v H', Same H H' → Dp K (off S H') v (nD (meets t).length) → Q v H' := q
  replace pre : preW t := pre
  refine ⟨_, (pss_cons (ps_if (pt_val (pe_prop (pv 0) U.cls hpP G_Tree_is_plain (hr.mono (by omega)) T.b_Tree_is_plain .nil pass0 rfl))
        (pss_one (ps_ret (pe_call G_plain_count (hr.mono (by omega)) (by rfl) T.m_plain_count T.F_plain_count.kp T.b_plain_count .nil pass0 (pa_cons (pe_prop (pv 0) U.cls hpS G_Tree_shape (hr.mono (by omega)) T.b_Tree_shape .nil pass0 rfl) pa_nil)))) pss_nil)
      (pss_one (ps_ret (pe_callB (k_len (K := K)) (by rfl) T.z_len (by decide +kernel) (pa_cons (pe_call G_mixed_meetings (hr.mono (by omega)) (by rfl) T.m_mixed_meetings T.F_mixed_meetings.kp T.b_mixed_meetings .nil pass0 (pa_cons (pv 0) pa_nil)) pa_nil))))), ?_⟩
  refine s_seq (s_if (b_val (t_plain rfl kn ht ok fun H1 s1 => ⟨_, rfl, if_b (fun e => ?_) (fun e => s_next ?_)⟩)))
  · have e1 := of_decide_eq_true e
    have cnt : pc (flg false t) = (meets t).length := by
      unfold pc; rw [pm_flg]; exact pm_count ok.1 (plain_nodup ok.1 e1)
    refine s_ret (t_call1 (t_shape rfl (kn.same s1) (ht.same (off_same s1)) ok fun u H2 s2 du => ⟨S, flg false t, (kn.same s1).same s2, .cons du .nil, ⟨preOf (okt_flg ok), by show (lv (flg false t)).length ≤ 24; rw [lv_flg]; exact ok.2.1⟩, fun v H3 s3 d3 => q v H3 ((s1.trans s2).trans s3) (by rw [← cnt]; exact d3)⟩))
  · refine s_ret (t_cb1 (t_call1 (t_var rfl ⟨S, t, x, (), [], rfl, kn.same s1, ht.same (off_same s1), ok, .nil, pre.1, fun u H2 s2 du => ?_⟩)))
    have du' : Dp K (off S H2) u (.list ((smeets t).map nL)) := du
    refine len_d off_sub du' rfl (q _ _ (s1.trans s2) (dp_int ?_))
    rw [List.length_map, (smeets_perm t).length_eq]
def encW (x : Str) : List PyData := [.str x, .int 200]
theorem meets_few {t : Kh.T} (h : (mem t).length ≤ 7) : (meets t).length ≤ 128 := by
  unfold meets
  refine Nat.le_trans (List.length_filter_le _ _) ?_
  rw [lists_len]
  exact Nat.pow_le_pow_right (by omega) h
theorem ok_meetings_within (T : Txt K mg a fd C tk) (U : TxC K mg a C) : FnOk P w K mg base CX0 30 (a 24) (fd 24) ["tree", "what", "limit"] (spM K C encW (fun t _ => preW t) fun t _ => nLL (smeets t)) := by
  have G_mixed_meetings := ok_mixed_meetings (P := P) (w := w) (base := base) T U
  have G_how_many := ok_how_many (P := P) (w := w) (base := base) T U
  have G_plain_meetings := ok_plain_meetings (P := P) (w := w) (base := base) T 6
  have G_Tree_shape := ok_Tree_shape (P := P) (w := w) (base := base) T U
  have G_Tree_is_plain := ok_Tree_is_plain (P := P) (w := w) (base := base) T U
  obtain ⟨pS, hpS⟩ := U.p_shape
  obtain ⟨pP, hpP⟩ := U.p_is_plain
  refine T.F_meetings_within.ok sc_meetings_within (fun vs H Q E h => spM_len (n := 2) (fun _ => rfl) h) (fun cdv A outer s H vs Q E hr h => ?_)
  obtain ⟨S, t, x, z, us, rfl, kn, ht, ok, hd, pre, q⟩ := h
  replace q : ∀ v H', Same H H' → Dp K (off S H') v (nLL (smeets t)) → Q v H' := q
  replace pre : preW t := pre
  obtain - | ⟨h1, - | ⟨h2, ⟨⟩⟩⟩ := hd
  cases h2
  rename_i v1
  refine ⟨_, (pss_cons (ps_if (pt_cmpR op_gt (pe_call G_how_many (hr.mono (by omega)) (by rfl) T.m_how_many T.F_how_many.kp T.b_how_many .nil pass0 (pa_cons (pv 0) pa_nil)) (pv 2) (nomark _))
        (pss_one ps_never) pss_nil)
      (pss_cons (ps_if (pt_not (pt_val (pe_prop (pv 0) U.cls hpP G_Tree_is_plain (hr.mono (by omega)) T.b_Tree_is_plain .nil pass0 rfl)))
        (pss_one (ps_ret (pe_call G_mixed_meetings (hr.mono (by omega)) (by rfl) T.m_mixed_meetings T.F_mixed_meetings.kp T.b_mixed_meetings .nil pass0 (pa_cons (pv 0) pa_nil)))) pss_nil)
      (pss_one (ps_ret (pe_callB (k_sortM (K := K) hr.units) (by rfl) T.z_sorted (by decide +kernel) (pa_cons (pe_lc (own := [("houses", 3)]) (g := gName 3) (tt := tYes) rfl sc_meetings_within.nd (k_pi (K := K) (pe_call G_plain_meetings (hr.mono (by omega)) (by rfl) T.m_plain_meetings T.F_plain_meetings.kp T.b_plain_meetings .nil pass0 (pa_cons (pe_prop (pv 0) U.cls hpS G_Tree_shape (hr.mono (by omega)) T.b_Tree_shape .nil pass0 rfl) pa_nil))) (blkOk_by (own := [("houses", 3)]) (N := meetings_within_N) (sc := defScope meetings_within_s) (by decide +kernel)) (fun _ _ _ _ _ => (pg_name (i := 3) sc_meetings_within.nd rfl (Or.inl rfl))) (fun _ _ _ _ _ => pts_nil) (fun _ _ _ _ _ => (pe_callB (k_sortM (K := K) hr.units) (by rfl) T.z_sorted (by decide +kernel) (pa_cons (pv 3) pa_nil)))) pa_nil)))))), ?_⟩
  refine s_seq (s_if (b_test (t_op (t_call1 (t_var rfl ⟨S, t, x, (), [], rfl, kn, ht, ok, .nil, pre, fun u H1 s1 du => ?_⟩)))))
  replace du : Dp K (off S H1) u (nD (meets t).length) := du
  cases du
  have mf := meets_few pre.1
  refine t_var rfl ⟨_, _, rfl, rfl, ⟨_, rfl, ifF (decide_eq_false (by omega)) (s_next ?_)⟩⟩
  refine s_seq (s_if (b_not (b_val (t_plain rfl (kn.same s1) (ht.same (off_same s1)) ok fun H2 s2 => ⟨_, rfl, if_b (fun e => ?_) (fun e => s_next ?_)⟩))))
  · have s12 := s1.trans s2
    exact s_ret (t_call1 (t_var rfl ⟨S, t, x, (), [], rfl, kn.same s12, ht.same (off_same s12), ok, .nil, pre.1, fun u H3 s3 du => q u H3 (s12.trans s3) du⟩))
  · have s12 := s1.trans s2
    have e1 : (lv t).length = (mem t).length := by
      have : decide ((lv t).length = (mem t).length) = true := by
        cases h : decide ((lv t).length = (mem t).length) with
        | true => rfl
        | false => rw [h] at e; cases e
      exact of_decide_eq_true this
    have nd := plain_nodup ok.1 e1
    have kn2 := kn.same s12
    refine s_ret (t_cb1 (lcM false (pm t) nL (fun m => nL (srt m)) kn2 (fun Q q => t_call1 (t_shape rfl kn2 (ht.same (off_same s12)) ok fun u H3 s3 du => ⟨S, flg false t, kn2.same s3, .cons du .nil, ⟨preOf (okt_flg ok), by show (lv (flg false t)).length ≤ 16; rw [lv_flg]; exact pre.2⟩, fun v H4 s4 d4 => q v H4 (s3.trans s4) (by have d4' : Dp K (off S H4) v (nLL (pm (flg false t))) := d4; rw [pm_flg] at d4'; exact d4')⟩)) (by rw [pm_count ok.1 nd]; omega) (fun _ => rfl) (fun m hm x2 H3 S3 s3 kn3 dx hS ho Q q => t_cb1 (t_var rfl (sort_nn kn3 dx fun u H4 s4 d4 => q u H4 s4 d4))) fun D H3 ys hD s3 hd3 h3 => ?_))
    have h3' : Dp K (off S H3) (.ref D) (nLL ((pm t).map srt)) := by unfold nLL; rw [List.map_map]; exact h3
    exact sort_ll (kn2.same s3) h3' (plain_meets ok.1 nd) fun u H4 s4 d4 => q u H4 ((s12.trans s3).trans s4) d4
theorem ok_meetings (T : Txt K mg a fd C tk) (U : TxC K mg a C) : FnOk P w K mg base CX0 32 (a 25) (fd 25) ["tree"] (spW K C fun t => nLL (smeets t)) := by
  have G_meetings_within := ok_meetings_within (P := P) (w := w) (base := base) T U
  refine T.F_meetings.ok sc_meetings (fun vs H Q E h => spM_len (fun _ => rfl) h) (fun cdv A outer s H vs Q E hr h => ?_)
  obtain ⟨S, t, x, y, us, rfl, kn, ht, ok, ⟨⟩, pre, q⟩ := h
  refine ⟨_, (pss_one (ps_ret (pe_call G_meetings_within (hr.mono (by omega)) (by rfl) T.m_meetings_within T.F_meetings_within.kp T.b_meetings_within .nil pass0 (pa_cons (pv 0) (pa_cons pe_str (pa_cons (pe_glob (v := .int 200) (by rfl) T.m_MOST_MEETINGS ⟨_, rfl⟩) pa_nil)))))), ?_⟩
  exact s_ret (t_call3 (t_var rfl (t_c (t_c ⟨S, t, x, _, _, rfl, kn, ht, ok, .cons (.str _) (.cons (.int _) .nil), pre, q⟩))))
theorem preW_con {t : Kh.T} (h : preW t) : preW (con t) := ⟨by rw [mem_con]; exact h.1, by rw [lv_con]; exact h.2⟩
end
end K31

set_option maxRecDepth 100000
set_option maxHeartbeats 1000000
/-! promises whose results share nothing with what is told ahead -/
namespace Kh
open PySem PySem.Spec PyProof.Rows L2
/-- data in new lists and tuples, all of them tracked -/
inductive Np (H : Hp) : V → PyData → Prop where
  | int (i : Int) : Np H (.int i) (.int i)
  | str (x : Str) : Np H (.str x) (.str x)
  | lst {a : Addr} {xs : List V} {ds : List PyData} (h : H a = some (.lst xs)) (l : xs.length = ds.length) (t : ∀ (i : Nat) x d, xs[i]? = some x → ds[i]? = some d → Np H x d) : Np H (.ref a) (.list ds)
  | tup {a : Addr} {xs : List V} {ds : List PyData} (h : H a = some (.tup xs)) (l : xs.length = ds.length) (t : ∀ (i : Nat) x d, xs[i]? = some x → ds[i]? = some d → Np H x d) : Np H (.ref a) (.tuple ds)
theorem Np.same {H H' : Hp} (e : Same H H') {v : V} {d : PyData} (h : Np H v d) : Np H' v d := by
  induction h with
  | int i => exact .int i
  | str x => exact .str x
  | lst h l t ih => exact .lst (e _ _ h) l ih
  | tup h l t ih => exact .tup (e _ _ h) l ih
theorem Np.dp {K : PySem.W.Frag} {H : Hp} {v : V} {d : PyData} (h : Np H v d) : Dp K H v d := by
  induction h with
  | int i => exact .int i
  | str x => exact .str x
  | lst h l t ih => exact .lst (sqL h) (dpa_of l ih)
  | tup h l t ih => exact .tup (sqT h) (dpa_of l ih)
/-- what the results are told by -/
structure Rp (R : Hp → V → PyData → Prop) : Prop where
  same : ∀ {H H' : Hp} {v : V} {d : PyData}, Same H H' → R H v d → R H' v d
  lst : ∀ {H : Hp} {a : Addr} {xs : List V} {ds : List PyData}, H a = some (.lst xs) → xs.length = ds.length → (∀ (i : Nat) x d, xs[i]? = some x → ds[i]? = some d → R H x d) → R H (.ref a) (.list ds)
theorem rp_np : Rp Np := ⟨fun e h => h.same e, fun h l t => .lst h l t⟩
theorem rp_dp (K : PySem.W.Frag) : Rp (Dp K) := ⟨fun e h => dp_same e _ _ h, fun h l t => .lst (sqL h) (dpa_of l t)⟩
/-- what is read lies out of S, what is made out of S2 -/
def spN {α : Type} (R : Hp → V → PyData → Prop) (K : PySem.W.Frag) (enc : α → List PyData) (pre : α → Prop) (f : α → PyData) : Sp := fun vs H Q _ => ∃ (S S2 : Addr → Prop) (x : α), (∀ a, S a → S2 a) ∧ Kn S2 H ∧ DpAll K (off S H) vs (enc x) ∧ pre x ∧
  ∀ v H', Same H H' → R (off S2 H') v (f x) → Q v H'
theorem spN_len {α : Type} {R : Hp → V → PyData → Prop} {K : PySem.W.Frag} {enc : α → List PyData} {pre : α → Prop} {f : α → PyData} {vs : List V} {H : Hp} {Q : VK} {E : XK} {n : Nat} (hn : ∀ x, (enc x).length = n) (h : spN R K enc pre f vs H Q E) : vs.length = n := by
  obtain ⟨S, S2, x, _, _, hd, _⟩ := h
  rw [← hn x]; exact dpa_len hd
theorem spN_P {α : Type} {R : Hp → V → PyData → Prop} {K : PySem.W.Frag} {enc : α → List PyData} {pre : α → Prop} {f : α → PyData} {vs : List V} {H : Hp} {Q : VK} {E : XK} (hR : ∀ {H v d}, R H v d → Dp K H v d) (h : spP K enc pre f vs H Q E) : spN R K enc pre f vs H Q E := by
  obtain ⟨S, x, kn, hd, hp, q⟩ := h
  exact ⟨S, S, x, fun _ z => z, kn, hd, hp, fun v H' s h => q v H' s (hR h)⟩
theorem lc_datN {R : Hp → V → PyData → Prop} (rp : Rp R) {K : PySem.W.Frag} {S S2 : Addr → Prop} {H1 : Hp} {σ : L2.St} {te : TE} {sl : Nat} {vs : List Nat} {Qd : VK} {J : It} {xs : List V} {ds : List PyData} (f : Nat → PyData) (h12 : ∀ a, S a → S2 a)
    (w : Walk J xs.length (fun H' => Same (off S H1) H') (YAt xs)) (ha : DpAll K (off S H1) xs ds) (kn : Kn S2 H1) (hn : ds.length ≤ 100000) (hw : ∀ x, wipe ((wipe σ vs).set sl (some x)) vs = wipe σ vs)
    (body : ∀ j x d H Sa Sb, ds[j]? = some d → Same H1 H → (∀ a, Sa a → Sb a) → Kn Sb H → Dp K (off Sa H) x d → (∀ a, S2 a → Sb a) → ∀ Q : VK, (∀ y H', Same H H' → R (off Sb H') y (f j) → Q y H') → te ((wipe σ vs).set sl (some x)) H Q)
    (done : ∀ D H ys, H1 D = none → Same H1 H → H D = some (.lst ys) → R (off S2 H) (.ref D) (.list ((List.range ds.length).map f)) → Qd (.ref D) H) :
    ∀ D, H1 D = none → ∃ W : Nat → Nat → Hp → Prop, (∃ m, W 0 m (upd H1 D (.lst []))) ∧ ∀ i m H, W i m H →
      (J.stop i H ∧ Qd (.ref D) H) ∨ (J.go i H ∧ ∃ Nx : Hp → Prop, (∀ H', Nx H' → ∃ m', m' < m ∧ W (i + 1) m' H') ∧ ∀ x H', J.yld i H x H' → gName sl x (wipe σ vs) H' fun σ2 H2 => wipe σ2 vs = wipe σ vs ∧ tYes σ2 H2 fun b H3 =>
        if b = true then te σ2 H3 fun y H4 => ∃ acc, H4 D = some (.lst acc) ∧ acc.length < sizeLine ∧ Nx (upd H4 D (.lst (acc ++ [y]))) else Nx H3) := by
  intro D hD
  have ln := dpa_len ha
  refine lc_map (Qd := Qd (.ref D)) w (fun j x => xs[j]? = some x) (fun i H x H' _ y => y) (fun j y H => R (off (plus S2 D) H) y (f j)) (fun H s => off_sub.trans s) hD (by omega) hw (fun j y H H' e h => rp.same (off_but e) h) (fun j x H hj xj s hd Q q => ?_) (fun ys H hl py s hd => ?_)
  · obtain ⟨d, dj, dx⟩ := dpa_at ha xj
    exact body j x d H (plus S D) (plus S2 D) dj s (fun a z => z.imp (h12 a) id) ((kn.same s).plus hd) (dp_same (off_plus hD s) _ _ dx) (fun _ h => .inl h) Q q
  · refine done D H ys hD s hd (rp.lst (by rw [off_out (kn.new hD)]; exact hd) (by simp [hl, ln]) fun i v d h1 h2 => rp.same (off_fin (D := D)) ?_)
    have hi : i < ds.length := by
      have := (List.getElem?_eq_some_iff.mp h1).1
      omega
    rw [List.getElem?_map, List.getElem?_range hi] at h2
    cases h2
    exact py i v h1
theorem lc_seqN {R : Hp → V → PyData → Prop} (rp : Rp R) {K : PySem.W.Frag} {S S2 : Addr → Prop} {H : Hp} {σ : L2.St} {t te : TE} {sl : Nat} {vs : List Nat} {Q : VK} {b : Bool} {ds : List PyData} (f : Nat → PyData) (h12 : ∀ a, S a → S2 a) (kn : Kn S2 H)
    (hev : ∀ Q : VK, (∀ u H1, Same H H1 → Dp K (off S H1) u (sq b ds) → Q u H1) → t σ H Q) (hn : ds.length ≤ 100000) (hw : ∀ x, wipe ((wipe σ vs).set sl (some x)) vs = wipe σ vs)
    (body : ∀ j x d H1 Sa Sb, ds[j]? = some d → Same H H1 → (∀ a, Sa a → Sb a) → Kn Sb H1 → Dp K (off Sa H1) x d → (∀ a, S2 a → Sb a) → ∀ Q : VK, (∀ y H', Same H1 H' → R (off Sb H') y (f j) → Q y H') → te ((wipe σ vs).set sl (some x)) H1 Q)
    (done : ∀ D H1 ys, H D = none → Same H H1 → H1 D = some (.lst ys) → R (off S2 H1) (.ref D) (.list ((List.range ds.length).map f)) → Q (.ref D) H1) :
    tLc (fun σ H R => iList K t σ H R ∨ iTup K t σ H R) (gName sl) tYes te vs σ H Q :=
  it_any hev fun J xs H1 s ha w => lc_datN rp f h12 w ha (kn.same s) hn hw (fun j x d H2 Sa Sb dj s2 hab kn2 dx hS Q q => body j x d H2 Sa Sb dj (s.trans s2) hab kn2 dx hS Q q)
    fun D H2 ys hD s2 hd h => done D H2 ys (s.free hD) (s.trans s2) hd h
/-- all that is known -/
def old (H : Hp) : Addr → Prop := fun a => H a ≠ none
theorem kn_old {H : Hp} : Kn (old H) H := fun _ h => h
theorem old_of {S : Addr → Prop} {H : Hp} (k : Kn S H) : ∀ a, S a → old H a := k
/-- [y for x, y in pairs] -/
theorem lc_pair {K : PySem.W.Frag} {S : Addr → Prop} {H : Hp} {σ : L2.St} {t : TE} {s1 s2 : Nat} {vs : List Nat} {Q : VK} (Pd : List (PyData × PyData) → Prop) (kn : Kn S H)
    (hev : ∀ Q : VK, (∀ u H1 ds, Same H H1 → Pd ds → Dp K (off S H1) u (.list (ds.map fun d => .tuple [d.1, d.2])) → Q u H1) → t σ H Q) (hn : ∀ ds, Pd ds → ds.length ≤ 100000)
    (hw : ∀ x y, wipe (((wipe σ vs).set s1 (some x)).set s2 (some y)) vs = wipe σ vs) (hg : ∀ x y, (((wipe σ vs).set s1 (some x)).set s2 (some y))[s2]? = some (some y))
    (done : ∀ D H1 ys ds, Pd ds → H D = none → Same H H1 → H1 D = some (.lst ys) → Dp K (off S H1) (.ref D) (.list (ds.map Prod.snd)) → Q (.ref D) H1) :
    tLc (fun σ H R => iList K t σ H R ∨ iTup K t σ H R) (gTup K 2 (gCons (gName s1) (gCons (gName s2) gNil))) tYes (tVar s2) vs σ H Q := by
  refine .inl (hev _ fun u H1 ds s pd du => ?_)
  obtain ⟨ra, xs, rfl, hsq, ha⟩ := list_at du
  have hn := hn ds pd
  refine ⟨ra, rfl, ⟨xs, off_sub.seq hsq⟩, fun D hD => ?_⟩
  have w : Walk (Itl K ra) xs.length (fun H' => Same (off S H1) H') (YAt xs) := walk_list.mono (fun H' z => z.seq hsq) fun _ _ _ _ _ _ y => y
  have ln := dpa_len ha
  rw [List.length_map] at ln
  refine wlk w (fun x H' Nx => gTup K 2 (gCons (gName s1) (gCons (gName s2) gNil)) x (wipe σ vs) H' fun σ2 H2 => wipe σ2 vs = wipe σ vs ∧ tYes σ2 H2 fun b H3 => if b = true then tVar s2 σ2 H3 fun y H4 => ∃ acc, H4 D = some (.lst acc) ∧ acc.length < sizeLine ∧ Nx (upd H4 D (.lst (acc ++ [y]))) else Nx H3)
    (fun i H' => ∃ ys, DpAll K (off (plus S D) H') ys ((ds.take i).map Prod.snd) ∧ Same H1 H' ∧ H' D = some (.lst ys)) ⟨[], .nil, same_new hD, upd_same⟩ (fun i H' _ ⟨_, _, z, _⟩ => off_sub.trans z) ?_ ?_
  · rintro i x H2 H3 hi ⟨ys, py, z, hd⟩ ⟨rfl, xi⟩
    obtain ⟨d, dj, dx⟩ := dpa_at ha xi
    rw [List.getElem?_map] at dj
    cases di : ds[i]? with
    | none => rw [di] at dj; cases dj
    | some e =>
      rw [di] at dj
      obtain rfl := (Option.some.inj dj).symm
      obtain ⟨p, us, rfl, hs, hu⟩ := tup_at (dp_same (off_plus hD z) _ _ dx)
      obtain - | ⟨h1, - | ⟨h2, ⟨⟩⟩⟩ := hu
      rename_i u1 u2
      have hl : ys.length ≤ 100000 := by
        have := dpa_len py
        rw [List.length_map, List.length_take] at this
        omega
      refine ⟨p, _, rfl, same_t off_sub hs, rfl, u1, _, rfl, u2, _, rfl, rfl, hw u1 u2, t_yes ⟨u2, hg u1 u2, ys, hd, Nat.lt_of_le_of_lt hl (by decide), ys ++ [u2], ?_, smut z hD, upd_same⟩⟩
      rw [off_mut (show plus S D D from .inr rfl), List.take_add_one, di, List.map_append]
      exact dpa_app py (.cons h2 .nil)
  · rintro H2 ⟨ys, py, z, hd⟩
    refine done D H2 ys ds pd (s.free hD) (s.trans z) hd (dp_lst ((kn.same s).new hD) hd ?_)
    rw [ln, List.take_length] at py
    exact dpa_same (off_fin (D := D)) _ _ py
end Kh

set_option maxRecDepth 100000
set_option maxHeartbeats 2000000
/-! static methods; repr of data -/
namespace Kh
open PySem PySem.Spec PyProof.Rows L2
/-- C.m is a static method: its record at p, its def at g -/
structure SMet (K : PySem.W.Frag) (C : Addr) (mc : Value) (m : Str) (p g : Addr) : Prop where
  rd : PySem.W.readsIn K C mc = true
  ga : PySem.W.specialIn K (.ref C) "__getattribute__" = some (some (.builtin "type.__getattribute__"))
  at_ : PySem.W.findCls K (.ref C) mc m = some (.get (.builtin "staticmethod.__get__") (.ref p) .none (.ref C))
  rc : ∃ rest, PySem.W.recIn K p "staticmethod" = some (.ref g :: rest)
  kp : PySem.W.keepIn K (.ref g) = true
def tSMeth (C : Addr) (sp : Sp) (E : XK) (ta : TE) (t : TA) : TE := fun σ H Q => ta σ H fun x H1 => x = .ref C ∧ t σ H1 fun vs H2 => sp vs H2 Q E
section
variable {X : Cx} {CX : CXT} {k : Nat} {C p g : Addr} {mc : Value} {sp : Sp} {E : XK} {o e : Expr} {es : List Expr} {f m : Str} {pos apos : Pos} {ta : TE} {t : TA} {pl : Sem Bool}
theorem pe_smeth (he : PE X o ta) (c : SMet X.K C mc m p g) (F : FnR X.prog X.w X.K X.mg X.base CX k g sp) (hr : Room k X.A) (hx : Passes CX X E) (ha : PA X (e :: es) t)
    (hst : starEach (e :: es) X.env = (false, eval e X.env) :: starEach es X.env := by rfl) (hpl : (backTo pos (starEach es X.env)).any (·.1) = false := by rfl)
    (ht : eval (.Call (.Attribute o m apos) (e :: es) [] pos) X.env = (do
      let ov ← eval o X.env; standAt apos.atName; let (f, first) ← holding [ov] (getMethod ov m pl); callWith pos f first (backTo pos (starEach (e :: es) X.env)) (backToKw pos (keywordEach [] X.env))) := by rfl) :
    PE X (.Call (.Attribute o m apos) (e :: es) [] pos) (tSMeth C sp E ta t) := by
  refine ⟨fun pins s σ H Q I h => ?_⟩
  refine PySem.W.methodCall_KW (pl := pl) (thn (he.run pins s σ H _ I h) fun u s1 ⟨x, H1, I1, rx, ex, q⟩ => ?_) ht
  subst ex
  obtain rfl : u = Value.ref C := rx
  obtain ⟨rest, hp⟩ := c.rc
  refine PySem.W.method_cls I1.kIn c.ga (PySem.W.cls_bind I1.kIn c.rd c.at_ (wpAny_call (PySem.W.sm_get (s := { s1 with toks := s1.toks + 1 }) I1.kIn hp (PySem.W.handed_on rfl ?_))))
  have I2 := I1.tok (s1.toks + 1)
  refine PySem.W.callWith_K (first := []) (h₀ := X.base) I2.ok.mod.kin c.kp (thn (ha.run pos pins _ σ H1 _ I2 q) fun us s3 ⟨vs, H2, I3, rv, q2⟩ => ⟨I3.kIn, ?_⟩) hst hpl
  exact wpAny_call (run_fnR F hr hx I3 rv q2)
end
/-- what repr can tell -/
def Tells (K : PySem.W.Frag) (H : Hp) (v : V) (d : PyData) : Prop := Dp K H v d ∧ (∃ n m, Nice n m d ∧ n ≤ 1000000 ∧ m ≤ 60) ∧ ((∃ i, d = .int i) ∨ ∃ ds, items d = some ds)
def rReprD (K : PySem.W.Frag) : List V → Hp → VK → Prop := fun vs H Q => ∃ v d, vs = [v] ∧ Tells K H v d ∧ Q (.str d.shown) H
def tFmtD (K : PySem.W.Frag) (te : TE) : TE := fun σ H Q => te σ H fun x H1 => ∃ d, Tells K H1 x d ∧ Q (.str d.shown) H1
section
variable {X : Cx}
theorem cr_reprD (hg : X.A.guards = some []) (hu : X.A.units + 64 < cLine) : CallR X (.builtin "repr") (rReprD X.K) := by
  intro pins s σ H vs us Q I r h
  obtain ⟨v, d, rfl, ⟨hd, ⟨n, m, hn, hn1, hm1⟩, kind⟩, q⟩ := h
  obtain ⟨u, rfl, ru⟩ := r.one
  rcases kind with ⟨i, rfl⟩ | ⟨ds, hds⟩
  · cases hd
    obtain ⟨t, rfl⟩ := ru
    have hz : i.natAbs.log2 < 1920 := by have := hn.sw; rw [PyData.showable] at this; exact of_decide_eq_true this
    rw [PyData.shown] at q
    exact PySem.P.repr_of_int hz ⟨.str (toString i), H, I.tok _, ⟨_, rfl⟩, q⟩
  · obtain ⟨b, xs, rfl, _, _⟩ := items_at hd hds
    have ru' := ru
    cases ru
    obtain ⟨as, rd⟩ := Dp.reads I d (.ref b) _ hd ru'
    refine repr_of_reads' rd hn.sw (fun z => by rw [hn.nd] at z; cases z) hg (by have := hn.dp; omega) (fun _ _ z => z) (fun h' u tk kp => ?_) (hn.fits hn1)
    exact ⟨.str d.shown, H, I.kept (t' := tk) kp, ⟨u, rfl⟩, q⟩
theorem pe_fmtD {e : Expr} {te : TE} {pos : Pos} (hg : X.A.guards = some []) (hu : X.A.units + 64 < cLine) (he : PE X e te) : PE X (.FormattedValue e 114 none pos) (tFmtD X.K te) := by
  refine ⟨fun pins s σ H Q I h => ?_⟩
  refine wpAny_FormattedValue_repr (thn (he.run pins s σ H _ I h) fun u s1 hv => ?_)
  obtain ⟨x, H1, I1, r1, d, ⟨hd, ⟨n, m, hn, hn1, hm1⟩, kind⟩, q⟩ := hv
  rcases kind with ⟨i, rfl⟩ | ⟨ds, hds⟩
  · cases hd
    obtain ⟨t, rfl⟩ := r1
    have hz : i.natAbs.log2 < 1920 := by have := hn.sw; rw [PyData.showable] at this; exact of_decide_eq_true this
    rw [PyData.shown] at q
    exact pyReprObj_int hz (wpAny_formatField_str ⟨.str (toString i), H1, I1.tok _, ⟨_, rfl⟩, q⟩ ⟨.str (toString i), H1, I1.tok _, ⟨_, rfl⟩, q⟩ (int_text_fits hz))
  · obtain ⟨b, xs, rfl, _, _⟩ := items_at hd hds
    have ru' := r1
    cases r1
    obtain ⟨as, rd⟩ := Dp.reads I1 d (.ref b) _ hd ru'
    refine pyReprObj_of_reads rd hn.sw (fun z => by rw [hn.nd] at z; cases z) hg (by have := hn.dp; omega) (fun _ _ z => z) (fun h' u tk kp => ?_) (hn.fits hn1)
    have I2 := I1.kept (t' := tk) kp
    exact wpAny_formatField_str ⟨.str d.shown, H1, I2, ⟨_, rfl⟩, q⟩ ⟨.str d.shown, H1, I2.tok _, ⟨_, rfl⟩, q⟩ (hn.fits hn1)
end
/-! keywords -/
theorem kbn_of {K : PySem.W.Frag} {fd : FuncData} {ps ks : List Str} {n : Nat} (h : ∀ us ws : List Value, us.length = n → ws.length = ks.length → bindArgs fd ⟨us, ks.zip ws⟩ = pure (ps.zip (us ++ ws))) : KBn K fd ps n ks (fun us ws => us ++ ws) (fun vs zs => vs ++ zs) :=
  ⟨fun s us ws _ h1 h2 => .of_eq (h us ws h1 h2), fun r1 r2 => r1.append r2⟩
section
variable {X : Cx} {k n : Nat} {f C : Addr} {fd : FuncData} {ps ks : List Str} {sp : Sp} {x m : Str} {p pos apos : Pos} {o : Expr} {kws : List Keyword} {ta : TE} {tk : TA} {pl : Sem Bool}
theorem run_kw {pins : List (Addr × Obj)} {σ : L2.St} {H : Hp} {s : Shared} {Q : VK} {us ws : List Value} {vs zs : List V} (F : FnOk X.prog X.w X.K X.mg X.base CX0 k f fd ps sp) (hr : Room k X.A) (hb : KBn X.K fd ps n ks (fun us ws => us ++ ws) (fun vs zs => vs ++ zs))
    (I : Inv X pins σ H s) (r : Vals vs us) (rz : Vals zs ws) (l1 : us.length = n) (l2 : ws.length = ks.length) (h : sp (vs ++ zs) H Q E0) : wpAny (model X.prog X.w) X.A (call (.ref f) us (ks.zip ws)) (EP X pins σ Q) X.xe s := by
  have r2 := hb.rel r rz
  refine wpAny_call (codeAny_mono (F.run X.A X.stack s H ⟨us, ks.zip ws⟩ (us ++ ws) (vs ++ zs) Q E0 hr I.env0 (hb.to s us ws I.kIn l1 l2) r2 h) fun r s' hq => ?_)
  cases r with
  | error e => exact (show False from hq).elim
  | ok fl =>
    cases fl with
    | ret u => exact I.after hq
    | next => exact (show False from hq).elim
    | brk => exact (show False from hq).elim
    | cont => exact (show False from hq).elim
def tCallK0 (n : Nat) (sp : Sp) (tk : TA) : TE := fun σ H Q => tk σ H fun zs H2 => zs.length = n ∧ sp zs H2 Q E0
/-- f(k = v) -/
theorem pe_kw0 (F : FnOk X.prog X.w X.K X.mg X.base CX0 k f fd ps sp) (hr : Room k X.A) (hg : Gl X x) (hm : X.mg x = some (.ref f)) (hk : PySem.W.keepIn X.K (.ref f) = true) (hb : KBn X.K fd ps 0 ks (fun us ws => us ++ ws) (fun vs zs => vs ++ zs)) (hkw : PK X kws tk)
    (hall : (backToKw pos (keywordEach kws X.env)).all (·.1.isSome) = true := by rfl) (hks : (backToKw pos (keywordEach kws X.env)).filterMap (·.1) = ks := by rfl) (hdb : (x == ("__debug__" : Str)) = false := by decide)
    (hpl : ((backTo pos (starEach [] X.env)).any (·.1) || (backToKw pos (keywordEach kws X.env)).any (·.1.isNone)) = false := by rfl) :
    PE X (.Call (.Name x p) [] kws pos) (tCallK0 ks.length sp tk) := by
  refine ⟨fun pins s σ H Q I h => ?_⟩
  refine wpAny_Call_Name_kw (ld_glob I hg hm ?_ hdb)
  refine PySem.W.callWith_KW0 (h₀ := X.base) I.ok.mod.kin hk hall ?_ hpl
  refine thn (hkw.run pos pins s σ H _ I h) fun ws s2 ⟨zs, H2, I2, rz, l2, q2⟩ => ⟨I2.kIn, ?_⟩
  rw [hks]
  exact run_kw (us := []) (vs := []) F hr hb I2 .nil rz rfl (rz.length.symm.trans l2) q2
def tMethK0 (C : Addr) (m : Str) (n : Nat) (sp : Sp) (ta : TE) (tk : TA) : TE := fun σ H Q => ta σ H fun x H1 => ∃ a dx fs, x = .ref a ∧ H1 a = some (.ins C dx fs) ∧ fs.lookup m = none ∧ tk σ H1 fun zs H2 => zs.length = n ∧ sp (x :: zs) H2 Q E0
/-- o.m(k = v) -/
theorem pe_methK0 (he : PE X o ta) (c : Cls X.K C) (hm : Meth X.K C m f) (F : FnOk X.prog X.w X.K X.mg X.base CX0 k f fd ps sp) (hr : Room k X.A) (hb : KBn X.K fd ps 1 ks (fun us ws => us ++ ws) (fun vs zs => vs ++ zs)) (hkw : PK X kws tk)
    (hall : (backToKw pos (keywordEach kws X.env)).all (·.1.isSome) = true := by rfl) (hks : (backToKw pos (keywordEach kws X.env)).filterMap (·.1) = ks := by rfl)
    (hpl : ((backTo pos (starEach [] X.env)).any (·.1) || (backToKw pos (keywordEach kws X.env)).any (·.1.isNone)) = false := by rfl)
    (ht : eval (.Call (.Attribute o m apos) [] kws pos) X.env = (do
      let ov ← eval o X.env; standAt apos.atName; let (f, first) ← holding [ov] (getMethod ov m pl); callWith pos f first (backTo pos (starEach [] X.env)) (backToKw pos (keywordEach kws X.env))) := by rfl) :
    PE X (.Call (.Attribute o m apos) [] kws pos) (tMethK0 C m ks.length sp ta tk) := by
  refine ⟨fun pins s σ H Q I h => ?_⟩
  refine PySem.W.methodCall_KW (pl := pl) (thn (he.run pins s σ H _ I h) fun u s1 ⟨x, H1, I1, rx, a, dx, fs, ex, ea, l, q⟩ => ?_) ht
  subst ex
  obtain rfl : u = Value.ref a := rx
  refine getmeth_ok I1 ea c hm l ?_
  refine PySem.W.callWith_KW0 (first := [.ref a]) (h₀ := X.base) I1.ok.mod.kin hm.kp hall ?_ hpl
  refine thn (hkw.run pos pins s1 σ H1 _ I1 q) fun ws s2 ⟨zs, H2, I2, rz, l2, q2⟩ => ⟨I2.kIn, ?_⟩
  rw [hks]
  exact run_kw (us := [.ref a]) (vs := [.ref a]) F hr hb I2 (.cons rfl .nil) rz rfl (rz.length.symm.trans l2) q2
end
end Kh

set_option maxRecDepth 100000
set_option maxHeartbeats 1000000
/-! {x!r} of an own object in an f-string -/
namespace PySem.W
open PySem PySem.Spec PyProof.Rows
section
variable {prog : Program} {w : World} {A : Around} {E : Value → Shared → Prop} {s : Shared} {K : Frag} {h₀ : Heap} {L C x f : Addr} {m : Str → Option Value} {ox : Obj} {od : Option Obj}
theorem reprObj_K {Q : Value → Shared → Prop} (hu : A.units < cLine) (F : Fr h₀ L s.heap m) (X₀ : K.In h₀) (I : InstAt s.heap x ox C od) (hs : findIn K (.ref C) "__repr__" = some (some (.ref f))) (hf : isFn K (.ref f) = true)
    (h : wpAny (model prog w) A (call (.ref f) [.ref x]) (StrBack Q) E s) : wpAny (model prog w) A (pyReprObj (.ref x)) Q E s := by
  unfold pyReprObj
  refine wpAny_bind (wpAny_cRoomFor hu ?_)
  refine wpAny_bind (wpAny_bind (I.type.here ((looks_findIn (X₀.keeps F.keep) hs).here ?_)))
  show wpAny _ _ (if (some (Value.ref f)).isNone = true then _ else _) _ _ _
  rw [if_neg (by simp)]
  refine wpAny_bind (m := callSpecialIfBound? (.ref x) (Str.ofString "__repr__") _) (ifBound_K (X₀.keeps F.keep) I hs hf (wpAny_mono h (fun r s' hr => ?_) fun _ _ y => y))
  cases r <;> first | exact hr.elim | skip
  refine wpAny_bind (wpAny_isInstance (typeIs_str _ _ _) isSubtype_str_str ?_)
  first
    | exact wpAny_pure hr
    | (rw [if_pos rfl]; exact wpAny_pure hr)
end
end PySem.W
namespace Kh
open PySem PySem.Spec PyProof.Rows L2
section
variable {X : Cx} {k : Nat} {f C : Addr} {sp : Sp}
def tFmtI (C : Addr) (sp : Sp) (te : TE) : TE := fun σ H Q => te σ H fun x H1 => isI H1 C x ∧ sp [x] H1 (fun v H' => ∃ y : Str, v = .str y ∧ y.length ≤ sizeLine ∧ Q (.str y) H') E0
theorem pe_fmtI {e : Expr} {te : TE} {pos : Pos} (R : Runs X k f sp) (hr : Room (k + 1) X.A) (M : Meth X.K C "__repr__" f) (he : PE X e te) : PE X (.FormattedValue e 114 none pos) (tFmtI C sp te) := by
  refine ⟨fun pins s σ H Q I h => ?_⟩
  refine wpAny_FormattedValue_repr (thn (he.run pins s σ H _ I h) fun u s1 hv => ?_)
  obtain ⟨x, H1, I1, ru, ⟨a, dx, fs, rfl, ha⟩, hs⟩ := hv
  cases ru
  obtain ⟨mA, J, _⟩ := ins_get I1.hok ha
  obtain ⟨od, J, _⟩ := J.look
  obtain ⟨m, hF⟩ := I1.fr
  refine PySem.W.reprObj_K hr.units0 hF I1.ok.mod.kin J M.at_ M.fn (wpAny_mono (R X.A pins σ H1 s1 [.ref a] [.ref a] _ X.xe rfl rfl (hr.mono (Nat.le_succ _)) I1 (.cons rfl .nil) hs) (fun r s' q => ?_) fun _ _ z => z)
  obtain ⟨v, H', I', rv, n, rfl, hz, q⟩ := q
  obtain ⟨tk, rfl⟩ := rv
  exact wpAny_formatField_str ⟨.str n, H', I', ⟨_, rfl⟩, q⟩ ⟨.str n, H', I'.tok _, ⟨_, rfl⟩, q⟩ hz
end
end Kh

set_option maxRecDepth 100000
set_option maxHeartbeats 4000000
namespace K31
open PySem PySem.Spec PyProof.Rows L2 Kh
structure TxR (K : PySem.W.Frag) (mg : Str → Option Value) (a : Nat → Addr) (C R : Addr) : Prop where
  cls : Cls K R
  n_houses : NoAttr K R "_houses"
  n_reading : NoAttr K R "_reading"
  n_writing : NoAttr K R "_writing"
  n_writers : NoAttr K R "_writers"
  n_back : NoAttr K R "_back"
  M_Rule : Mk K R (a 26)
  m_Rule : mg "Rule" = some (.ref R)
  p_houses : ∃ p, PropOf K R "houses" p (a 27)
  p_reading : ∃ p, PropOf K R "reading" p (a 28)
  p_writing : ∃ p, PropOf K R "writing" p (a 29)
  p_writers : ∃ p, PropOf K R "writers" p (a 30)
  p_back : ∃ p, PropOf K R "back" p (a 31)
  me_reading_meetings : Meth K R "reading_meetings" (a 32)
  me_writing_meetings : Meth K R "writing_meetings" (a 33)
  me_written : Meth K R "written" (a 34)
  me_eq : Meth K R "__eq__" (a 35)
  me_repr : Meth K R "__repr__" (a 36)
  me_reprT : Meth K C "__repr__" (a 16)
  D : TxD K R
  tr : PySem.W.kitOne K (.ref C) (.ref R) = some false
  nfT : PySem.W.notFirst K R (.ref C) = true
/-- the two constants, tuples of words -/
structure TxV (K : PySem.W.Frag) (mg : Str → Option Value) (aW aB : Addr) : Prop where
  m_WRITERS : mg "WRITERS" = some (.ref aW)
  m_BACKS : mg "BACKS" = some (.ref aB)
  s_WRITERS : ∀ H, SqT K H aW [.str "one", .str "many", .str "blind"]
  s_BACKS : ∀ H, SqT K H aB [.str "never", .str "always", .str "if unlike"]
/-- a rule -/
structure Rul where
  n : Nat
  r : Kh.T
  w : Kh.T
  wr : Str
  bk : Str
structure OkR (v : Rul) : Prop where
  pos : 1 ≤ v.n
  few : v.n ≤ 5
  okr : Okt v.r
  okw : Okt v.w
  ltr : ∀ m ∈ mem v.r, m < v.n
  ltw : ∀ m ∈ mem v.w, m < v.n
  prr : preW v.r
  prw : preW v.w
  wr : v.wr = "one" ∨ v.wr = "many" ∨ v.wr = "blind"
  bk : v.bk = "never" ∨ v.bk = "always" ∨ v.bk = "if unlike"
def fldR (n : Nat) (x1 x2 : Addr) (wr bk : Str) : List (Str × V) := [("_houses", .int (n : Nat)), ("_reading", .ref x1), ("_writing", .ref x2), ("_writers", .str wr), ("_back", .str bk)]
/-- at x stands the object of a rule -/
def RuleAt (K : PySem.W.Frag) (C R : Addr) (H : Hp) (v : Rul) (x : Addr) : Prop := ∃ dx x1 x2, H x = some (.ins R dx (fldR v.n x1 x2 v.wr v.bk)) ∧ TreeAt K C H v.r x1 ∧ TreeAt K C H v.w x2
theorem RuleAt.same {K : PySem.W.Frag} {C R : Addr} {H H' : Hp} {v : Rul} {x : Addr} (h : RuleAt K C R H v x) (e : Same H H') : RuleAt K C R H' v x := by
  obtain ⟨dx, x1, x2, h0, h1, h2⟩ := h
  exact ⟨dx, x1, x2, e _ _ h0, h1.same e, h2.same e⟩
section
variable {K : PySem.W.Frag} {σ : L2.St}
theorem i_tup {tl : TE} {H : Hp} {R : It → Hp → Prop} (h : tl σ H fun x H1 => ∃ a, x = .ref a ∧ (∃ xs, SqT K H1 a xs) ∧ R (Itt K a) H1) : iTup K tl σ H R := h
theorem i_lst {tl : TE} {H : Hp} {R : It → Hp → Prop} (h : tl σ H fun x H1 => ∃ a, x = .ref a ∧ (∃ xs, SqL K H1 a xs) ∧ R (Itl K a) H1) : iList K tl σ H R := h
end
section
variable {P : Program} {w : World} {K : PySem.W.Frag} {mg : Str → Option Value} {base : Heap} {a : Nat → Addr} {fd : Nat → FuncData} {C R : Addr} {tk : Nat → Tok} {aW aB : Addr}
theorem FunD_ok {x qual : Str} {st : Stmt} {dvs : List V} {kws : List (Str × V)} {f : Addr} {fd : FuncData} {N ps : List Str} {k : Nat} {sp : Sp} (F : FunD K x qual (defArgs st) (defBody st) (defScope st) dvs kws f fd) (S : FnScope N ps (defScope st)) (len : ∀ vs H Q E, sp vs H Q E → vs.length = ps.length)
    (hbody : ∀ (cdv : Value) (A : Around) (outer : List Env) (s : Shared) (H : Hp) (vs : List V) (Q : VK) (E : XK), Room k (A.deeper (envOfC qual (defScope st) s.heap.objs.size f cdv)) → sp vs H Q E →
      ∃ t, PSs (cxOf CX0 P w K mg base N qual (defScope st) f cdv A outer s H E).nox (defBody st) t ∧ t { nx := fun _ H' => Q .non H', rt := Q } (start N vs) H) : FnOk P w K mg base CX0 (k + 1) f fd ps sp :=
  F.ok S len fun cdv A outer s H vs Q E hr h => by
    obtain ⟨t, h1, q⟩ := hbody cdv A outer s H vs Q E hr h
    exact ⟨t, h1.nox, q⟩
def spRInit (K : PySem.W.Frag) (C R : Addr) : Sp := fun vs H Q _ => ∃ (S : Addr → Prop) (x dx x1 x2 : Addr) (v : Rul), vs = [.ref x, .int (v.n : Nat), .ref x1, .ref x2, .str v.wr, .str v.bk] ∧ Kn S H ∧ S x ∧ H x = some (.ins R dx []) ∧ TreeAt K C (off S H) v.r x1 ∧ TreeAt K C (off S H) v.w x2 ∧ OkR v ∧
  ∀ H', SameBut x H H' → H' x = some (.ins R dx (fldR v.n x1 x2 v.wr v.bk)) → Q .non H'
theorem isI_of {S : Addr → Prop} {H : Hp} {v : Rul} {x : Addr} (h : RuleAt K C R (off S H) v x) : isI H R (.ref x) := by
  obtain ⟨dx, x1, x2, h0, _⟩ := h
  exact ⟨x, dx, _, rfl, (off_some h0).2⟩
theorem inW {x : Str} (h : x = "one" ∨ x = "many" ∨ x = "blind") : inV (.str x) [.str "one", .str "many", .str "blind"] = true := by
  rcases h with rfl | rfl | rfl <;> decide +kernel
theorem inB {x : Str} (h : x = "never" ∨ x = "always" ∨ x = "if unlike") : inV (.str x) [.str "never", .str "always", .str "if unlike"] = true := by
  rcases h with rfl | rfl | rfl <;> decide +kernel
theorem ok_Rule_init (T : Txt K mg a fd C tk) (U : TxC K mg a C) (D : TxD K C) (W : TxR K mg a C R) (Y : TxV K mg aW aB) : FnOk P w K mg base CX0 8 (a 26) (fd 26) ["self", "houses", "reading", "writing", "writers", "back"] (spRInit K C R) := by
  have G_is_count : FnOk P w K mg base CX0 2 (a 1) (fd 1) ["value"] (spIsCount K) := ok_is_count T
  have G_Tree_members := ok_Tree_members (P := P) (w := w) (base := base) T U
  refine FunD_ok T.F_Rule_init sc_Rule_init (fun vs H Q E h => by obtain ⟨_, _, _, _, _, _, rfl, _⟩ := h; rfl) (fun cdv A outer s H vs Q E hr h => ?_)
  obtain ⟨S, x, dx, x1, x2, v, rfl, kn, hS, hx, t1, t2, ok, q⟩ := h
  have n1 := ok.pos
  have n5 := ok.few
  refine ⟨_, (pss_cons (ps_if (PW.pt (pw_or (pt_not (pt_val (pe_call G_is_count (hr.mono (by omega)) (by rfl) T.m_is_count T.F_is_count.kp T.b_is_count .nil pass0 (pa_cons (pv 1) pa_nil)))) (pw_or1 (pt_not (pt_chain op_le op_le pe_int (pv 1) (pe_glob (v := .int 5) (by rfl) T.m_MOST_HOUSES ⟨_, rfl⟩))))))
        (pss_one ps_never) pss_nil)
      (pss_cons (ps_for PassesOwn.never rfl (k_pi (K := K) (pe_tup (pa_cons (pv 2) (pa_cons (pv 3) pa_nil)))) (pg_name (i := 6) sc_Rule_init.nd rfl (Or.inl rfl))
        (pss_one (ps_if (PW.pt (pw_or (pt_not (pt_val (pe_callB (k_isi (K := K)) (by rfl) T.z_isinstance (by decide +kernel) (pa_cons (pv 6) (pa_cons (pe_glob (v := .ref _) (by rfl) U.m_Tree rfl) pa_nil))))) (pw_or1 (pt_not (pt_val (pe_callB (k_all (K := K) rfl) (by rfl) T.z_all (by decide +kernel) (pa_cons (pe_lc (own := [("house", 7)]) (g := gName 7) (tt := tYes) rfl sc_Rule_init.nd (k_pi (K := K) (pe_meth0 (pv 6) U.cls U.me_members G_Tree_members (hr.mono (by omega)) T.b_Tree_members .nil pass0)) (blkOk_by (own := [("house", 7)]) (N := Rule_init_N) (sc := defScope Rule_init_s) (by decide +kernel)) (fun _ _ _ _ _ => (pg_name (i := 7) sc_Rule_init.nd rfl (Or.inl rfl))) (fun _ _ _ _ _ => pts_nil) (fun _ _ _ _ _ => (pe_cmpR op_lt (pv 7) (pv 1) (nomark _)))) pa_nil)))))))
          (pss_one ps_never) pss_nil)))
      (pss_cons (ps_if (PW.pt (pw_or (pt_not (pt_val (pe_callB (k_isi (K := K)) (by rfl) T.z_isinstance (by decide +kernel) (pa_cons (pv 4) (pa_cons (pe_bltn (v := .ty "str") (by rfl) T.z_str (by decide +kernel) rfl) pa_nil))))) (pw_or1 (pt_cmpR (k_notIn (K := K)) (pv 4) (pe_glob (v := .ref _) (by rfl) Y.m_WRITERS rfl) (by rfl)))))
        (pss_one ps_never) pss_nil)
      (pss_cons (ps_if (PW.pt (pw_or (pt_not (pt_val (pe_callB (k_isi (K := K)) (by rfl) T.z_isinstance (by decide +kernel) (pa_cons (pv 5) (pa_cons (pe_bltn (v := .ty "str") (by rfl) T.z_str (by decide +kernel) rfl) pa_nil))))) (pw_or1 (pt_cmpR (k_notIn (K := K)) (pv 5) (pe_glob (v := .ref _) (by rfl) Y.m_BACKS rfl) (by rfl)))))
        (pss_one ps_never) pss_nil)
      (pss_cons (ps_fld (pv 0) (pv 1) rfl)
      (pss_cons (ps_fld (pv 0) (pv 2) rfl)
      (pss_cons (ps_fld (pv 0) (pv 3) rfl)
      (pss_cons (ps_fld (pv 0) (pv 4) rfl)
      (pss_one (ps_fld (pv 0) (pv 5) rfl)))))))))), ?_⟩
  refine s_seq (s_if (b_or (b_not (b_val (t_call1 (t_var rfl (spP_bl off_sub (nD v.n) (.cons (show Dp K (off S H) _ (nD v.n) from .int _) .nil) trivial (by show PyData.bool (decide (0 ≤ ((v.n : Nat) : Int))) = .bool true; rw [decide_eq_true (by omega)]) fun H1 s1 => ⟨_, rfl, ifF rfl ?_⟩)))))))
  refine b_not (b_test (t_c (t_var rfl ⟨_, _, rfl, rfl, bl_if (fun _ => ?_) (fun c => absurd (show (1 : Int) ≤ ((v.n : Nat) : Int) by omega) (of_decide_eq_false c))⟩)))
  refine t_c ⟨_, _, rfl, rfl, ⟨_, rfl, ifF ?_ (s_next ?_)⟩⟩
  · rw [decide_eq_true (show ((v.n : Nat) : Int) ≤ 5 by omega)]; rfl
  have kn1 := kn.same s1
  have u1 := t1.same (off_same s1)
  have u2 := t2.same (off_same s1)
  refine s_seq (Or.inr (i_tup (t_tup (a_cons (t_var rfl (a_cons (t_var rfl (a_nil ⟨le2, fun r hr => ⟨r, rfl, ⟨_, sqT upd_same⟩, ?_⟩⟩))))))))
  have s2 := same_new (o := HO.tup [L2.V.ref x1, L2.V.ref x2]) hr
  have hr2 : (upd H1 r (.tup [L2.V.ref x1, L2.V.ref x2])) r = some (.tup [L2.V.ref x1, L2.V.ref x2]) := upd_same
  generalize upd H1 r (.tup [L2.V.ref x1, L2.V.ref x2]) = H2 at *
  have kn2 := kn1.same s2
  refine for_it (walk_tup (K := K) (a := r) (xs := [L2.V.ref x1, L2.V.ref x2])) (fun i σ' H' => ∃ x6 : Option L2.V, σ' = [some (.ref x), some (.int (v.n : Nat)), some (.ref x1), some (.ref x2), some (.str v.wr), some (.str v.bk), x6, none] ∧ Same H2 H') ⟨_, rfl, Same.refl _⟩ (fun i σ' H' _ ⟨_, _, s⟩ => sqT (s _ _ hr2)) ?_ ?_
  · rintro i y σ' Ha Hb hi ⟨x6, rfl, sa⟩ ⟨rfl, xi⟩
    obtain ⟨z, t, rfl, tz, lt⟩ : ∃ z t, y = .ref z ∧ TreeAt K C (off S H2) t z ∧ Okt t ∧ ∀ m ∈ mem t, m < v.n := by
      match i, hi, xi with
      | 0, _, xi => simp at xi; subst xi; exact ⟨x1, v.r, rfl, u1.same (off_same s2), ok.okr, ok.ltr⟩
      | 1, _, xi => simp at xi; subst xi; exact ⟨x2, v.w, rfl, u2.same (off_same s2), ok.okw, ok.ltw⟩
      | i + 2, hi, _ => simp only [List.length_cons, List.length_nil] at hi; omega
    have tz' := tz.same (off_same sa)
    refine g_name (s_if (b_or (b_not (b_val (t_cb2 (t_var rfl (t_c (isi_own U D tz' ⟨_, rfl, ifF rfl ?_⟩))))))))
    obtain ⟨dz, w1, w2, w3, hz, _⟩ := id tz'
    refine b_not (b_val (t_cb1 (lcM (S := S) false (mem t) nD (fun _ => .bool true) (kn2.same sa) (fun Q q => t_meth0 (t_var rfl ⟨z, dz, _, rfl, (off_some hz).2, rfl, S, t, z, (), [], rfl, kn2.same sa, tz', lt.1, .nil, trivial, fun u H' s' du => q u H' s' du⟩)) (by have := mem_le t; omega) (fun _ => rfl) (fun m hm y H3 S' s3 kn3 dy hS3 ho Q q => ?_) fun D3 H3 ys hD s3 hd3 h3 => ?_)))
    · cases dy
      exact t_op (t_var rfl (t_var rfl ⟨_, _, rfl, rfl, by show Q (.bl (decide (((m : Nat) : Int) < ((v.n : Nat) : Int)))) H3; rw [decide_eq_true (show ((m : Nat) : Int) < ((v.n : Nat) : Int) by have := lt.2 m hm; omega)]; exact q _ _ (Same.refl _) (.bl _)⟩))
    · refine all_d (bs := (mem t).map fun _ => true) off_sub (by rw [List.map_map]; exact h3) ⟨_, rfl, ifF ?_ (s_next ⟨_, rfl, sa.trans s3⟩)⟩
      rw [List.all_map]; simp
  rintro σ' H3 ⟨x6, rfl, s3⟩
  have s03 := (s1.trans s2).trans s3
  refine nx_of (s_seq (s_if (b_or (b_not (b_val (t_cb2 (t_var rfl (t_c (isi_d (H0 := H3) (Same.refl _) (.str _) (kit_str (.str v.wr)) ⟨_, rfl, ifF rfl ?_⟩)))))))))
  refine b_test (t_op (t_var rfl (t_c ⟨aW, _, rfl, .inr (Y.s_WRITERS _), rfl, rfl, ⟨_, rfl, ifF ?_ (s_next ?_)⟩⟩)))
  · rw [if_pos rfl, inW ok.wr]; rfl
  refine s_seq (s_if (b_or (b_not (b_val (t_cb2 (t_var rfl (t_c (isi_d (H0 := H3) (Same.refl _) (.str _) (kit_str (.str v.bk)) ⟨_, rfl, ifF rfl ?_⟩))))))))
  refine b_test (t_op (t_var rfl (t_c ⟨aB, _, rfl, .inr (Y.s_BACKS _), rfl, rfl, ⟨_, rfl, ifF ?_ (s_next ?_)⟩⟩)))
  · rw [if_pos rfl, inB ok.bk]; rfl
  have hx3 := s03 _ _ hx
  have b3 : SameBut x H H3 := sbut s03
  refine s_seq (s_fld (t_var rfl (t_var rfl ⟨x, R, dx, _, rfl, hx3, W.cls, W.n_houses, (by decide), nx_of ?_⟩)))
  refine s_seq (s_fld (t_var rfl (t_var rfl ⟨x, R, dx, _, rfl, upd_same, W.cls, W.n_reading, (by show (1 : Nat) < 1000; decide), nx_of ?_⟩)))
  refine s_seq (s_fld (t_var rfl (t_var rfl ⟨x, R, dx, _, rfl, upd_same, W.cls, W.n_writing, (by show (2 : Nat) < 1000; decide), nx_of ?_⟩)))
  refine s_seq (s_fld (t_var rfl (t_var rfl ⟨x, R, dx, _, rfl, upd_same, W.cls, W.n_writers, (by show (3 : Nat) < 1000; decide), nx_of ?_⟩)))
  refine s_fld (t_var rfl (t_var rfl ⟨x, R, dx, _, rfl, upd_same, W.cls, W.n_back, (by show (4 : Nat) < 1000; decide), nx_of ?_⟩))
  exact q _ (bmut (bmut (bmut (bmut (bmut b3))))) upd_same
def spR {α : Type} (K : PySem.W.Frag) (C R : Addr) (enc : α → List PyData) (pre : Rul → α → Prop) (f : Rul → α → PyData) : Sp := fun vs H Q _ => ∃ (S : Addr → Prop) (v : Rul) (x : Addr) (y : α) (us : List L2.V), vs = .ref x :: us ∧ Kn S H ∧ RuleAt K C R (off S H) v x ∧ OkR v ∧ DpAll K (off S H) us (enc y) ∧ pre v y ∧
  ∀ u H', Same H H' → Dp K (off S H') u (f v y) → Q u H'
abbrev spR0 (K : PySem.W.Frag) (C R : Addr) (f : Rul → PyData) : Sp := spR K C R (fun _ : Unit => []) (fun _ _ => True) (fun v _ => f v)
theorem spR_len {α : Type} {enc : α → List PyData} {pre : Rul → α → Prop} {f : Rul → α → PyData} {n : Nat} (hn : ∀ x, (enc x).length = n) {vs : List L2.V} {H : Hp} {Q : VK} {E : XK} (h : spR K C R enc pre f vs H Q E) : vs.length = n + 1 := by
  obtain ⟨S, v, x, y, us, rfl, _, _, _, d, _⟩ := h
  rw [List.length_cons, dpa_len d, hn]
theorem ok_Rule_houses (T : Txt K mg a fd C tk) (W : TxR K mg a C R) : FnOk P w K mg base CX0 1 (a 27) (fd 27) ["self"] (spR0 K C R fun v => nD v.n) := by
  refine T.F_Rule_houses.ok sc_Rule_houses (fun vs H Q E h => spR_len (fun _ => rfl) h) (fun cdv A outer s H vs Q E hr h => ?_)
  obtain ⟨S, v, x, y, us, rfl, kn, ⟨dx, x1, x2, hx, t1, t2⟩, ok, ⟨⟩, -, q⟩ := h
  refine ⟨_, (pss_one (ps_ret (k_fld (K := K) (pv 0) rfl))), ?_⟩
  exact s_ret (t_fld (t_var rfl ⟨x, R, dx, _, _, rfl, (off_some hx).2, W.cls, W.n_houses, rfl, q _ _ (Same.refl _) (.int _)⟩))
theorem ok_Rule_writers (T : Txt K mg a fd C tk) (W : TxR K mg a C R) : FnOk P w K mg base CX0 1 (a 30) (fd 30) ["self"] (spR0 K C R fun v => .str v.wr) := by
  refine T.F_Rule_writers.ok sc_Rule_writers (fun vs H Q E h => spR_len (fun _ => rfl) h) (fun cdv A outer s H vs Q E hr h => ?_)
  obtain ⟨S, v, x, y, us, rfl, kn, ⟨dx, x1, x2, hx, t1, t2⟩, ok, ⟨⟩, -, q⟩ := h
  refine ⟨_, (pss_one (ps_ret (k_fld (K := K) (pv 0) rfl))), ?_⟩
  exact s_ret (t_fld (t_var rfl ⟨x, R, dx, _, _, rfl, (off_some hx).2, W.cls, W.n_writers, rfl, q _ _ (Same.refl _) (.str _)⟩))
theorem ok_Rule_back (T : Txt K mg a fd C tk) (W : TxR K mg a C R) : FnOk P w K mg base CX0 1 (a 31) (fd 31) ["self"] (spR0 K C R fun v => .str v.bk) := by
  refine T.F_Rule_back.ok sc_Rule_back (fun vs H Q E h => spR_len (fun _ => rfl) h) (fun cdv A outer s H vs Q E hr h => ?_)
  obtain ⟨S, v, x, y, us, rfl, kn, ⟨dx, x1, x2, hx, t1, t2⟩, ok, ⟨⟩, -, q⟩ := h
  refine ⟨_, (pss_one (ps_ret (k_fld (K := K) (pv 0) rfl))), ?_⟩
  exact s_ret (t_fld (t_var rfl ⟨x, R, dx, _, _, rfl, (off_some hx).2, W.cls, W.n_back, rfl, q _ _ (Same.refl _) (.str _)⟩))
/-- a property whose value is a tree -/
def spRT (K : PySem.W.Frag) (C R : Addr) (f : Rul → Kh.T) : Sp := fun vs H Q _ => ∃ (S : Addr → Prop) (v : Rul) (x : Addr), vs = [.ref x] ∧ RuleAt K C R (off S H) v x ∧ ∀ z, TreeAt K C (off S H) (f v) z → Q (.ref z) H
theorem ok_Rule_reading (T : Txt K mg a fd C tk) (W : TxR K mg a C R) : FnOk P w K mg base CX0 1 (a 28) (fd 28) ["self"] (spRT K C R Rul.r) := by
  refine T.F_Rule_reading.ok sc_Rule_reading (fun vs H Q E h => by obtain ⟨_, _, _, rfl, _⟩ := h; rfl) (fun cdv A outer s H vs Q E hr h => ?_)
  obtain ⟨S, v, x, rfl, ⟨dx, x1, x2, hx, t1, t2⟩, q⟩ := h
  refine ⟨_, (pss_one (ps_ret (k_fld (K := K) (pv 0) rfl))), ?_⟩
  exact s_ret (t_fld (t_var rfl ⟨x, R, dx, _, _, rfl, (off_some hx).2, W.cls, W.n_reading, rfl, q _ t1⟩))
theorem ok_Rule_writing (T : Txt K mg a fd C tk) (W : TxR K mg a C R) : FnOk P w K mg base CX0 1 (a 29) (fd 29) ["self"] (spRT K C R Rul.w) := by
  refine T.F_Rule_writing.ok sc_Rule_writing (fun vs H Q E h => by obtain ⟨_, _, _, rfl, _⟩ := h; rfl) (fun cdv A outer s H vs Q E hr h => ?_)
  obtain ⟨S, v, x, rfl, ⟨dx, x1, x2, hx, t1, t2⟩, q⟩ := h
  refine ⟨_, (pss_one (ps_ret (k_fld (K := K) (pv 0) rfl))), ?_⟩
  exact s_ret (t_fld (t_var rfl ⟨x, R, dx, _, _, rfl, (off_some hx).2, W.cls, W.n_writing, rfl, q _ t2⟩))
/-- meetings as tuples -/
abbrev nTT (L : List (List Nat)) : PyData := .list (L.map fun m => .tuple (m.map nD))
/-- what is told is a new list -/
def spRN (K : PySem.W.Frag) (C R : Addr) (f : Rul → PyData) : Sp := fun vs H Q _ => ∃ (S : Addr → Prop) (v : Rul) (x : Addr), vs = [.ref x] ∧ Kn S H ∧ RuleAt K C R (off S H) v x ∧ OkR v ∧ ∀ z H' ys, Same H H' → H z = none → H' z = some (.lst ys) → Dp K (off S H') (.ref z) (f v) → Q (.ref z) H'
end
end K31

set_option maxRecDepth 100000
set_option maxHeartbeats 4000000
namespace K31
open PySem PySem.Spec PyProof.Rows L2 Kh
theorem smeets_few {t : Kh.T} (h : preW t) : (smeets t).length ≤ 128 := by
  rw [(smeets_perm t).length_eq]; exact meets_few h.1
theorem smeet_few {t : Kh.T} (h : preW t) {m : List Nat} (hm : m ∈ smeets t) : m.length ≤ 7 := Nat.le_trans (smeets_mem.mp hm).1.length_le h.1
/-- the houses that stand in some meeting -/
def wrt (v : Rul) : List Nat := (List.range v.n).filter fun h => (smeets v.w).any fun m => decide (h ∈ m)
section
variable {P : Program} {w : World} {K : PySem.W.Frag} {mg : Str → Option Value} {base : Heap} {a : Nat → Addr} {fd : Nat → FuncData} {C R : Addr} {tk : Nat → Tok} {aW aB : Addr}
theorem t_tups {S : Addr → Prop} {H : Hp} {σ : L2.St} {t : TE} {sl : Nat} {vs : List Nat} {L : List (List Nat)} {Q : VK} (kn : Kn S H) (hev : ∀ Q : VK, (∀ u H1, Same H H1 → Dp K (off S H1) u (nLL L) → Q u H1) → t σ H Q) (hn : L.length ≤ 1000)
    (hw : ∀ x, wipe ((wipe σ vs).set sl (some x)) vs = wipe σ vs) (hs : ∀ x, ((wipe σ vs).set sl (some x))[sl]? = some (some x))
    (done : ∀ D H1 ys, H D = none → Same H H1 → H1 D = some (.lst ys) → Dp K (off S H1) (.ref D) (nTT L) → Q (.ref D) H1) :
    tLc (fun σ H R => iList K t σ H R ∨ iTup K t σ H R) (gName sl) tYes (tCB (rTupOf K) (tCons (tVar sl) tNil)) vs σ H Q :=
  lcM (S := S) false L nL (fun m => .tuple (m.map nD)) kn hev (by omega) hw (fun m hm y H1 S' s1 kn1 dy hS ho Q q => t_cb1 (t_var (hs y) (tup_d (ds := m.map nD) kn1 dy rfl fun z H2 s2 d2 => q z H2 s2 d2))) done
theorem ok_Rule_reading_meetings (T : Txt K mg a fd C tk) (U : TxC K mg a C) (W : TxR K mg a C R) : FnOk P w K mg base CX0 33 (a 32) (fd 32) ["self"] (spRN K C R fun v => nTT (smeets v.r)) := by
  have G_meetings := ok_meetings (P := P) (w := w) (base := base) T U
  refine T.F_Rule_reading_meetings.ok sc_Rule_reading_meetings (fun vs H Q E h => by obtain ⟨_, _, _, rfl, _⟩ := h; rfl) (fun cdv A outer s H vs Q E hr h => ?_)
  obtain ⟨S, v, x, rfl, kn, ⟨dx, x1, x2, hx, t1, t2⟩, ok, q⟩ := h
  refine ⟨_, (pss_one (ps_ret (pe_lc (own := [("houses", 1)]) (g := gName 1) (tt := tYes) rfl sc_Rule_reading_meetings.nd (k_pi (K := K) (pe_call G_meetings (hr.mono (by omega)) (by rfl) T.m_meetings T.F_meetings.kp T.b_meetings .nil pass0 (pa_cons (k_fld (K := K) (pv 0) rfl) pa_nil))) (blkOk_by (own := [("houses", 1)]) (N := Rule_reading_meetings_N) (sc := defScope Rule_reading_meetings_s) (by decide +kernel)) (fun _ _ _ _ _ => (pg_name (i := 1) sc_Rule_reading_meetings.nd rfl (Or.inl rfl))) (fun _ _ _ _ _ => pts_nil) (fun _ _ _ _ _ => (pe_callTy (k_tup (K := K)) (by rfl) T.z_tuple (by decide +kernel) (pa_cons (pv 1) pa_nil)))))), ?_⟩
  refine s_ret (t_tups (S := S) (L := smeets v.r) kn (fun Q q => t_call1 (t_fld (t_var rfl ⟨x, R, dx, _, _, rfl, (off_some hx).2, W.cls, W.n_reading, rfl, S, v.r, x1, (), [], rfl, kn, t1, ok.okr, .nil, ok.prr, fun u H' s' du => q u H' s' du⟩))) (by have := smeets_few ok.prr; omega) (fun _ => rfl) (fun _ => rfl) fun D H1 ys hD s1 hd h1 => q D H1 ys s1 hD hd h1)
theorem ok_Rule_writing_meetings (T : Txt K mg a fd C tk) (U : TxC K mg a C) (W : TxR K mg a C R) : FnOk P w K mg base CX0 33 (a 33) (fd 33) ["self"] (spRN K C R fun v => nTT (smeets v.w)) := by
  have G_meetings := ok_meetings (P := P) (w := w) (base := base) T U
  refine T.F_Rule_writing_meetings.ok sc_Rule_writing_meetings (fun vs H Q E h => by obtain ⟨_, _, _, rfl, _⟩ := h; rfl) (fun cdv A outer s H vs Q E hr h => ?_)
  obtain ⟨S, v, x, rfl, kn, ⟨dx, x1, x2, hx, t1, t2⟩, ok, q⟩ := h
  refine ⟨_, (pss_one (ps_ret (pe_lc (own := [("houses", 1)]) (g := gName 1) (tt := tYes) rfl sc_Rule_writing_meetings.nd (k_pi (K := K) (pe_call G_meetings (hr.mono (by omega)) (by rfl) T.m_meetings T.F_meetings.kp T.b_meetings .nil pass0 (pa_cons (k_fld (K := K) (pv 0) rfl) pa_nil))) (blkOk_by (own := [("houses", 1)]) (N := Rule_writing_meetings_N) (sc := defScope Rule_writing_meetings_s) (by decide +kernel)) (fun _ _ _ _ _ => (pg_name (i := 1) sc_Rule_writing_meetings.nd rfl (Or.inl rfl))) (fun _ _ _ _ _ => pts_nil) (fun _ _ _ _ _ => (pe_callTy (k_tup (K := K)) (by rfl) T.z_tuple (by decide +kernel) (pa_cons (pv 1) pa_nil)))))), ?_⟩
  refine s_ret (t_tups (S := S) (L := smeets v.w) kn (fun Q q => t_call1 (t_fld (t_var rfl ⟨x, R, dx, _, _, rfl, (off_some hx).2, W.cls, W.n_writing, rfl, S, v.w, x2, (), [], rfl, kn, t2, ok.okw, .nil, ok.prw, fun u H' s' du => q u H' s' du⟩))) (by have := smeets_few ok.prw; omega) (fun _ => rfl) (fun _ => rfl) fun D H1 ys hD s1 hd h1 => q D H1 ys s1 hD hd h1)
theorem ok_Rule_written (T : Txt K mg a fd C tk) (U : TxC K mg a C) (W : TxR K mg a C R) : FnOk P w K mg base CX0 35 (a 34) (fd 34) ["self"] (spRN K C R fun v => nL (wrt v)) := by
  have G_Rule_writing_meetings := ok_Rule_writing_meetings (P := P) (w := w) (base := base) T U W
  refine T.F_Rule_written.ok sc_Rule_written (fun vs H Q E h => by obtain ⟨_, _, _, rfl, _⟩ := h; rfl) (fun cdv A outer s H vs Q E hr h => ?_)
  obtain ⟨S, v, x, rfl, kn, hv, ok, q⟩ := h
  obtain ⟨dx, x1, x2, hx, t1, t2⟩ := id hv
  refine ⟨_, (pss_cons (ps_set (i := 1) sc_Rule_written.nd rfl (Or.inr rfl) (pe_meth0 (pv 0) W.cls W.me_writing_meetings G_Rule_writing_meetings (hr.mono (by omega)) T.b_Rule_writing_meetings .nil pass0))
      (pss_one (ps_ret (pe_lc (own := [("house", 2)]) (g := gName 2) (tt := _) rfl sc_Rule_written.nd (pi_range1 (by rfl) T.z_range (pa_cons (k_fld (K := K) (pv 0) rfl) pa_nil)) (blkOk_by (own := [("house", 2)]) (N := Rule_written_N) (sc := defScope Rule_written_s) (by decide +kernel)) (fun _ _ _ _ _ => (pg_name (i := 2) sc_Rule_written.nd rfl (Or.inr rfl))) (fun _ _ _ _ _ => (pts_one (pt_val (pe_callB (k_any (K := K) rfl) (by rfl) T.z_any (by decide +kernel) (pa_cons (pe_lc (own := [("houses", 3)]) (g := gName 3) (tt := tYes) rfl sc_Rule_written.nd (k_pi (K := K) (pv 1)) (show BlkOk Rule_written_N (relS _ (defScope Rule_written_s)) _ [("houses", 3)] from blkOk_by (by decide +kernel)) (fun _ _ _ _ _ => (pg_name (i := 3) sc_Rule_written.nd rfl (Or.inl rfl))) (fun _ _ _ _ _ => pts_nil) (fun _ _ _ _ _ => (pe_cmpR (k_in (K := K)) (pv 2) (pv 3) (by rfl)))) pa_nil))))) (fun _ _ _ _ _ => (pv 2)))))), ?_⟩
  have n5 := ok.few
  have sf := smeets_few ok.prw
  refine s_seq (s_set (t_meth0 (t_var rfl ⟨x, dx, _, rfl, (off_some hx).2, rfl, S, v, x, rfl, kn, hv, ok, fun z H1 ys s1 hz hy dz => nx_of ?_⟩)))
  have kn1 := kn.same s1
  have hx1 := s1 _ _ (off_some hx).2
  refine s_ret (lc_rngF (K := K) (S := S) (n := v.n) (fun h => (smeets v.w).any fun m => decide (h ∈ m)) nD kn1 (by omega) (fun q h => a_cons (t_fld (t_var rfl ⟨x, R, dx, _, _, rfl, hx1, W.cls, W.n_houses, rfl, a_nil (h _ (Same.refl _))⟩))) (fun _ => rfl) (fun j H2 S' hj s2 kn2 hS2 ho Q q => ?_) (fun j H2 S' hj pj s2 kn2 hS2 ho Q q => t_var rfl (q _ _ (Same.refl _) (.int _))) fun D H2 ys2 hD s2 hd2 d2 => q D H2 ys2 (s1.trans s2) (by
    cases e : H D with
    | none => rfl
    | some o => rw [s1 _ _ e] at hD; cases hD) hd2 d2)
  refine b_val (t_cb1 (lcM (S := S') false (smeets v.w) (fun m => .tuple (m.map nD)) (fun m => .bool (decide (j ∈ m))) kn2 (fun Q q => t_var rfl (q _ _ (Same.refl _) (dp_same ho _ _ dz))) (by omega) (fun _ => rfl) (fun m hm y H3 S3 s3 kn3 dy hS3 ho3 Q3 q3 => ?_) fun D3 H3 ys3 hD3 s3 hd3 h3 => ?_))
  · refine t_op (t_var rfl (t_var rfl (in_d (ns := m.map fun n : Nat => ((n : Nat) : Int)) off_sub dy (by rw [← nD_map]; rfl) ?_)))
    have e : decide (((j : Nat) : Int) ∈ m.map fun n : Nat => ((n : Nat) : Int)) = decide (j ∈ m) := decide_eq_decide.mpr mem_ints
    show Q3 (.bl (decide (((j : Nat) : Int) ∈ m.map fun n : Nat => ((n : Nat) : Int)))) H3
    rw [e]; exact q3 _ _ (Same.refl _) (.bl _)
  · refine any_d (bs := (smeets v.w).map fun m => decide (j ∈ m)) off_sub (by rw [List.map_map]; exact h3) ⟨_, rfl, ?_⟩
    have e : ((smeets v.w).map fun m => decide (j ∈ m)).any id = (smeets v.w).any fun m => decide (j ∈ m) := by rw [List.any_map]; rfl
    rw [e]; exact q _ s3
/-- whether two rules are one -/
noncomputable def sameR (v u : Rul) : Bool := decide (v.n = u.n) && sameT (flg true v.r) (flg true u.r) && sameT (flg true v.w) (flg true u.w) && decide (v.wr = u.wr) && decide (v.bk = u.bk)
/-- a rule and anything that is told: a rule, a tree, data -/
def spEqR (K : PySem.W.Frag) (C R : Addr) : Sp := fun vs H Q _ => ∃ (S : Addr → Prop) (v : Rul) (x : Addr) (y : L2.V), vs = [.ref x, y] ∧ Kn S H ∧ RuleAt K C R (off S H) v x ∧ OkR v ∧
  ((∃ u z, y = .ref z ∧ RuleAt K C R (off S H) u z ∧ OkR u ∧ ∀ H', Same H H' → Q (.bl (sameR v u)) H') ∨ (∃ d, Dp K (off S H) y d ∧ ∀ H', Same H H' → Q (.bl false) H') ∨ (∃ t z, y = .ref z ∧ TreeAt K C (off S H) t z ∧ ∀ H', Same H H' → Q (.bl false) H') ∨ (∃ b xs, y = .ref b ∧ SqT K H b xs ∧ ∀ H', Same H H' → Q (.bl false) H'))
theorem isi_ownR {S : Addr → Prop} {H : Hp} {v : Rul} {x : Addr} {Q : VK} (W : TxR K mg a C R) (h : RuleAt K C R (off S H) v x) (q : Q (.bl true) H) : rIsi K [.ref x, .ref R] H Q := by
  obtain ⟨dx, x1, x2, hx, _⟩ := h
  exact ⟨_, _, .ref R, .ref R, true, rfl, .own R, .base (.ins (off_some hx).2 W.cls W.D.ha W.D.hn W.D.htk W.D.hm), W.D.own, q⟩
theorem isi_tree {S : Addr → Prop} {H : Hp} {t : Kh.T} {x : Addr} {Q : VK} (U : TxC K mg a C) (D : TxD K C) (W : TxR K mg a C R) (h : TreeAt K C (off S H) t x) (q : Q (.bl false) H) : rIsi K [.ref x, .ref R] H Q := by
  obtain ⟨dx, v1, v2, v3, hx, _⟩ := h
  exact ⟨_, _, .ref C, .ref R, false, rfl, .own R, .base (.ins (off_some hx).2 U.cls D.ha D.hn D.htk D.hm), W.tr, q⟩
theorem isi_tup {H : Hp} {b : Addr} {xs : List L2.V} {Q : VK} (W : TxR K mg a C R) (h : SqT K H b xs) (q : Q (.bl false) H) : rIsi K [.ref b, .ref R] H Q :=
  ⟨_, _, .type "tuple", .ref R, false, rfl, .own R, sqt_ty h, W.D.oth _ (by simp), q⟩
theorem dec_str {x y : Str} : decide (L2.V.str x = L2.V.str y) = decide (x = y) := decide_eq_decide.mpr ⟨fun h => L2.V.str.inj h, fun h => by rw [h]⟩
theorem ok_Rule_eq (T : Txt K mg a fd C tk) (U : TxC K mg a C) (D : TxD K C) (W : TxR K mg a C R) : FnOk P w K mg base CX0 5 (a 35) (fd 35) ["self", "other"] (spEqR K C R) := by
  have G_Tree_eq := ok_Tree_eq (P := P) (w := w) (base := base) T U D
  refine T.F_Rule_eq.ok sc_Rule_eq (fun vs H Q E h => by obtain ⟨_, _, _, _, rfl, _⟩ := h; rfl) (fun cdv A outer s H vs Q E hr h => ?_)
  obtain ⟨S, v, x, y, rfl, kn, hv, ok, h⟩ := h
  refine ⟨_, (pss_cons (ps_if (PW.pt (pw_or (pt_not (pt_val (pe_callB (k_isi (K := K)) (by rfl) T.z_isinstance (by decide +kernel) (pa_cons (pv 1) (pa_cons (pe_glob (v := .ref _) (by rfl) W.m_Rule rfl) pa_nil))))) (pw_or1 (pt_cmpR op_ne (k_fld (K := K) (pv 0) rfl) (k_fld (K := K) (pv 1) rfl) (nomark _)))))
        (pss_one (ps_ret pe_bl)) pss_nil)
      (pss_cons (ps_if (PW.pt (pw_or (pt_cmpR (op_neI (runsOk G_Tree_eq T.b_Tree_eq) (hr.mono (by omega)) U.me_eq D.ne D.ob) (k_fld (K := K) (pv 0) rfl) (k_fld (K := K) (pv 1) rfl) (nomark _)) (pw_or1 (pt_cmpR (op_neI (runsOk G_Tree_eq T.b_Tree_eq) (hr.mono (by omega)) U.me_eq D.ne D.ob) (k_fld (K := K) (pv 0) rfl) (k_fld (K := K) (pv 1) rfl) (nomark _)))))
        (pss_one (ps_ret pe_bl)) pss_nil)
      (pss_one (ps_ret (pe_and (pe_cmpR op_eq (k_fld (K := K) (pv 0) rfl) (k_fld (K := K) (pv 1) rfl) (nomark _)) (pe_one (pe_cmpR op_eq (k_fld (K := K) (pv 0) rfl) (k_fld (K := K) (pv 1) rfl) (nomark _)))))))), ?_⟩
  rcases h with ⟨u, z, rfl, hu, oku, q⟩ | ⟨d, hd, q⟩ | ⟨t, z, rfl, ht, q⟩ | ⟨b, xs, rfl, hb, q⟩
  rotate_left
  · exact s_seq (s_if (b_or (b_not (b_val (t_cb2 (t_var rfl (t_c (isi_oth W.D hd ⟨_, rfl, ifT rfl (ifT rfl (s_ret (t_c (q H (Same.refl _)))))⟩))))))))
  · exact s_seq (s_if (b_or (b_not (b_val (t_cb2 (t_var rfl (t_c (isi_tree U D W ht ⟨_, rfl, ifT rfl (ifT rfl (s_ret (t_c (q H (Same.refl _)))))⟩))))))))
  · exact s_seq (s_if (b_or (b_not (b_val (t_cb2 (t_var rfl (t_c (isi_tup W hb ⟨_, rfl, ifT rfl (ifT rfl (s_ret (t_c (q H (Same.refl _)))))⟩))))))))
  obtain ⟨dx, x1, x2, hx, t1, t2⟩ := id hv
  obtain ⟨dz, z1, z2, hz, u1, u2⟩ := id hu
  have fx : ∀ {H' : Hp}, Same H H' → H' x = some (.ins R dx (fldR v.n x1 x2 v.wr v.bk)) := fun s => s _ _ (off_some hx).2
  have fz : ∀ {H' : Hp}, Same H H' → H' z = some (.ins R dz (fldR u.n z1 z2 u.wr u.bk)) := fun s => s _ _ (off_some hz).2
  refine s_seq (s_if (b_or (b_not (b_val (t_cb2 (t_var rfl (t_c (isi_ownR W hu ⟨_, rfl, ifF rfl ?_⟩))))))))
  refine b_test (t_op (t_fld (t_var rfl ⟨x, R, dx, _, _, rfl, fx (Same.refl _), W.cls, W.n_houses, rfl, t_fld (t_var rfl ⟨z, R, dz, _, _, rfl, fz (Same.refl _), W.cls, W.n_houses, rfl, rfl, _, rfl, ?_⟩)⟩)))
  have en : decide (L2.V.int ((v.n : Nat) : Int) = L2.V.int ((u.n : Nat) : Int)) = decide (v.n = u.n) := decide_eq_decide.mpr ⟨fun h => by have := L2.V.int.inj h; omega, fun h => by rw [h]⟩
  rw [en]
  by_cases cn : v.n = u.n
  case neg =>
    refine ifT (by rw [decide_eq_false cn]; rfl) (s_ret (t_c ?_))
    have e : sameR v u = false := by unfold sameR; rw [decide_eq_false cn]; rfl
    rw [e] at q
    exact q H (Same.refl _)
  refine ifF (by rw [decide_eq_true cn]; rfl) (s_next ?_)
  have isi : ∀ {S' : Addr → Prop} {H' : Hp} {t : Kh.T} {b : Addr}, TreeAt K C (off S' H') t b → isI H' C (.ref b) := fun h => isI_at h
  refine s_seq (s_if (b_or (b_test (t_op (t_fld (t_var rfl ⟨x, R, dx, _, _, rfl, fx (Same.refl _), W.cls, W.n_reading, rfl, t_fld (t_var rfl ⟨z, R, dz, _, _, rfl, fz (Same.refl _), W.cls, W.n_reading, rfl, isi t1, .inl (isi u1), S, v.r, x1, .ref z1, rfl, kn, t1, ok.okr, .inl ⟨u.r, z1, rfl, u1, oku.okr, fun H1 s1 => ⟨_, rfl, _, rfl, ?_⟩⟩⟩)⟩))))))
  cases c1 : sameT (flg true v.r) (flg true u.r) with
  | false =>
    refine ifT rfl (ifT rfl (s_ret (t_c ?_)))
    have e : sameR v u = false := by unfold sameR; rw [c1]; simp
    rw [e] at q
    exact q H1 s1
  | true =>
  refine ifF rfl ?_
  refine b_test (t_op (t_fld (t_var rfl ⟨x, R, dx, _, _, rfl, fx s1, W.cls, W.n_writing, rfl, t_fld (t_var rfl ⟨z, R, dz, _, _, rfl, fz s1, W.cls, W.n_writing, rfl, isi (t2.same (off_same s1)), .inl (isi (u2.same (off_same s1))), S, v.w, x2, .ref z2, rfl, kn.same s1, t2.same (off_same s1), ok.okw, .inl ⟨u.w, z2, rfl, u2.same (off_same s1), oku.okw, fun H2 s2 => ⟨_, rfl, _, rfl, ?_⟩⟩⟩)⟩)))
  have s02 := s1.trans s2
  cases c2 : sameT (flg true v.w) (flg true u.w) with
  | false =>
    refine ifT rfl (s_ret (t_c ?_))
    have e : sameR v u = false := by unfold sameR; rw [c2]; simp
    rw [e] at q
    exact q H2 s02
  | true =>
  refine ifF rfl (s_next ?_)
  have er : sameR v u = (decide (v.wr = u.wr) && decide (v.bk = u.bk)) := by unfold sameR; rw [decide_eq_true cn, c1, c2]; simp
  rw [er] at q
  refine s_ret (t_andV (t_op (t_fld (t_var rfl ⟨x, R, dx, _, _, rfl, fx s02, W.cls, W.n_writers, rfl, t_fld (t_var rfl ⟨z, R, dz, _, _, rfl, fz s02, W.cls, W.n_writers, rfl, rfl, _, rfl, ?_⟩)⟩))))
  rw [dec_str]
  refine if_b (fun e1 => ?_) (fun e1 => ?_)
  · rw [e1, Bool.true_and] at q
    refine t_op (t_fld (t_var rfl ⟨x, R, dx, _, _, rfl, fx s02, W.cls, W.n_back, rfl, t_fld (t_var rfl ⟨z, R, dz, _, _, rfl, fz s02, W.cls, W.n_back, rfl, rfl, ?_⟩)⟩))
    rw [dec_str]
    exact q H2 s02
  · rw [e1, Bool.false_and] at q
    exact q H2 s02
end
end K31

set_option maxRecDepth 100000
set_option maxHeartbeats 4000000
namespace K31
open PySem PySem.Spec PyProof.Rows L2 Kh
/-- the text that a tree is told by -/
def tText (t : Kh.T) : Str := ("Tree(" : Str) ++ (tD t).shown ++ (")" : Str)
theorem text_len (t : Kh.T) (ok : Okt t) : (tText t).length ≤ 600000 := by
  have h := PyData.shown_le 8 (by decide) (tD t) (nice_of ok).sh
  have h2 := (nice_of ok).wt
  unfold tText
  rw [strLen_append, strLen_append]
  have e1 : ("Tree(" : Str).length = 5 := by decide
  have e2 : (")" : Str).length = 1 := by decide
  rw [e1, e2]; omega
def rText (v : Rul) : Str := ("Rule(" : Str) ++ (toString ((v.n : Nat) : Int) : Str) ++ (", " : Str) ++ tText (flg false v.r) ++ (", " : Str) ++ tText (flg false v.w) ++ (", " : Str) ++ reprText v.wr ++ (", " : Str) ++ reprText v.bk ++ (")" : Str)
theorem len_n {v : Rul} (ok : OkR v) : ((toString ((v.n : Nat) : Int) : Str)).length ≤ 5 := by
  have h1 := ok.pos
  have h2 := ok.few
  have : v.n = 1 ∨ v.n = 2 ∨ v.n = 3 ∨ v.n = 4 ∨ v.n = 5 := by omega
  rcases this with h | h | h | h | h <;> rw [h] <;> decide +kernel
theorem len_wr {v : Rul} (ok : OkR v) : (reprText v.wr).length ≤ 20 := by
  rcases ok.wr with h | h | h <;> rw [h] <;> decide +kernel
theorem len_bk {v : Rul} (ok : OkR v) : (reprText v.bk).length ≤ 20 := by
  rcases ok.bk with h | h | h <;> rw [h] <;> decide +kernel
section
variable {P : Program} {w : World} {K : PySem.W.Frag} {mg : Str → Option Value} {base : Heap} {a : Nat → Addr} {fd : Nat → FuncData} {C R : Addr} {tk : Nat → Tok} {aW aB : Addr}
theorem tells_tree {H : Hp} {v : L2.V} {t : Kh.T} (ok : Okt t) (h : Dp K H v (tD t)) : Tells K H v (tD t) := ⟨h, ⟨_, _, nice_of ok, by decide, by decide⟩, by
  cases t with
  | leaf n => exact .inl ⟨_, tD_leaf n⟩
  | gate b k ps => exact .inr ⟨_, by rw [tD_gate]; rfl⟩⟩
def spRepr (K : PySem.W.Frag) (C : Addr) : Sp := fun vs H Q _ => ∃ (S : Addr → Prop) (t : Kh.T) (x : Addr), vs = [.ref x] ∧ Kn S H ∧ TreeAt K C (off S H) t x ∧ Okt t ∧ ∀ H', Same H H' → Q (.str (tText (flg false t))) H'
theorem ok_Tree_repr (T : Txt K mg a fd C tk) (U : TxC K mg a C) : FnG P w K mg base 10 (a 16) (fd 16) ["self"] (spRepr K C) := by
  have G_Tree_shape := ok_Tree_shape (P := P) (w := w) (base := base) T U
  obtain ⟨pS, hpS⟩ := U.p_shape
  refine fun_okG T.F_Tree_repr sc_Tree_repr (fun vs H Q E h => by obtain ⟨_, _, _, rfl, _⟩ := h; rfl) (fun cdv A outer s H vs Q E hg hr h => ?_)
  obtain ⟨S, t, x, rfl, kn, ht, ok, q⟩ := h
  refine ⟨_, (pss_one (ps_ret (pe_joined (.cons pe_str (.cons (pe_fmtD hg hr.units (pe_prop (pv 0) U.cls hpS G_Tree_shape (hr.mono (by omega)) T.b_Tree_shape .nil pass0 rfl)) (.cons pe_str .nil)))))), ?_⟩
  obtain ⟨dx, v1, v2, v3, hz0, _⟩ := id ht
  have okf := okt_flg (c := false) ok
  have tl := text_len _ okf
  unfold tText at tl
  rw [strLen_append, strLen_append] at tl
  refine s_ret (t_c ⟨_, rfl, (by decide), ?_⟩)
  refine t_prop (t_var rfl ⟨x, dx, _, rfl, (off_some hz0).2, S, t, x, (), [], rfl, kn, ht, ok, .nil, trivial, fun u H1 s1 du => ⟨_, tells_tree okf (dp_same off_sub _ _ du), _, rfl, ?_, ?_⟩⟩)
  · have e0 : (Str.empty ++ ("Tree(" : Str)) = ("Tree(" : Str) := by decide +kernel
    show (Str.empty ++ ("Tree(" : Str) ++ (tD (flg false t)).shown).length ≤ sizeLine
    rw [e0, strLen_append]
    exact Nat.le_trans (show _ ≤ 600000 by omega) (by decide)
  · have e0 : (Str.empty ++ ("Tree(" : Str)) = ("Tree(" : Str) := by decide +kernel
    refine t_c ⟨_, rfl, ?_, ?_⟩
    · show (Str.empty ++ ("Tree(" : Str) ++ (tD (flg false t)).shown ++ (")" : Str)).length ≤ sizeLine
      rw [e0, strLen_append, strLen_append]
      exact Nat.le_trans tl (by decide)
    · show Q (.str (Str.empty ++ ("Tree(" : Str) ++ (tD (flg false t)).shown ++ (")" : Str))) H1
      rw [e0]
      exact q H1 s1
def spRReprR (K : PySem.W.Frag) (C R : Addr) : Sp := fun vs H Q _ => ∃ (S : Addr → Prop) (v : Rul) (x : Addr), vs = [.ref x] ∧ Kn S H ∧ RuleAt K C R (off S H) v x ∧ OkR v ∧ ∀ H', Same H H' → Q (.str (rText v)) H'
theorem ok_Rule_repr (T : Txt K mg a fd C tk) (U : TxC K mg a C) (W : TxR K mg a C R) : FnG P w K mg base 13 (a 36) (fd 36) ["self"] (spRReprR K C R) := by
  have G_Tree_repr := ok_Tree_repr (P := P) (w := w) (base := base) T U
  refine fun_okG T.F_Rule_repr sc_Rule_repr (fun vs H Q E h => by obtain ⟨_, _, _, rfl, _⟩ := h; rfl) (fun cdv A outer s H vs Q E hg hr h => ?_)
  obtain ⟨S, v, x, rfl, kn, hv, ok, q⟩ := h
  obtain ⟨dx, x1, x2, hx, t1, t2⟩ := id hv
  have fx : ∀ {H' : Hp}, Same H H' → H' x = some (.ins R dx (fldR v.n x1 x2 v.wr v.bk)) := fun s => s _ _ (off_some hx).2
  refine ⟨_, (pss_one (ps_ret (pe_joined (.cons pe_str (.cons (pe_fmt (k_fld (K := K) (pv 0) rfl)) (.cons pe_str (.cons (pe_fmtI (runsG G_Tree_repr hg T.b_Tree_repr) (hr.mono (by omega)) W.me_reprT (k_fld (K := K) (pv 0) rfl)) (.cons pe_str (.cons (pe_fmtI (runsG G_Tree_repr hg T.b_Tree_repr) (hr.mono (by omega)) W.me_reprT (k_fld (K := K) (pv 0) rfl)) (.cons pe_str (.cons (pe_fmtR (k_fld (K := K) (pv 0) rfl)) (.cons pe_str (.cons (pe_fmtR (k_fld (K := K) (pv 0) rfl)) (.cons pe_str .nil)))))))))))))), ?_⟩
  have l1 := len_n ok
  have l2 := text_len _ (okt_flg (c := false) ok.okr)
  have l3 := text_len _ (okt_flg (c := false) ok.okw)
  have l4 := len_wr ok
  have l5 := len_bk ok
  have c1 : ("Rule(" : Str).length = 5 := by decide
  have c2 : (", " : Str).length = 2 := by decide
  have c3 : (")" : Str).length = 1 := by decide
  have e0 : (Str.empty ++ ("Rule(" : Str)) = ("Rule(" : Str) := by decide +kernel
  have bnd : ∀ {n : Nat}, n ≤ 2000000 → n ≤ sizeLine := fun h => Nat.le_trans h (by decide)
  have nlog : (((v.n : Nat) : Int)).natAbs.log2 < 1920 := by
    have h1 := ok.pos
    have h2 := ok.few
    have : v.n = 1 ∨ v.n = 2 ∨ v.n = 3 ∨ v.n = 4 ∨ v.n = 5 := by omega
    rcases this with h | h | h | h | h <;> rw [h] <;> decide +kernel
  refine s_ret (t_c ⟨_, rfl, (by decide), ?_⟩)
  refine t_fld (t_var rfl ⟨x, R, dx, _, _, rfl, fx (Same.refl _), W.cls, W.n_houses, rfl, .inr ⟨_, rfl, nlog, _, rfl, ?_, t_c ⟨_, rfl, ?_, ?_⟩⟩⟩)
  · rw [e0, strLen_append]; exact bnd (by omega)
  · rw [e0, strLen_append, strLen_append]; exact bnd (by omega)
  refine t_fld (t_var rfl ⟨x, R, dx, _, _, rfl, fx (Same.refl _), W.cls, W.n_reading, rfl, isI_at t1, S, v.r, x1, rfl, kn, t1, ok.okr, fun H1 s1 => ⟨_, rfl, bnd (by omega), _, rfl, ?_, t_c ⟨_, rfl, ?_, ?_⟩⟩⟩)
  · rw [e0]; simp only [strLen_append]; exact bnd (by omega)
  · rw [e0]; simp only [strLen_append]; exact bnd (by omega)
  have kn1 := kn.same s1
  have u2 := t2.same (off_same s1)
  refine t_fld (t_var rfl ⟨x, R, dx, _, _, rfl, fx s1, W.cls, W.n_writing, rfl, isI_at u2, S, v.w, x2, rfl, kn1, u2, ok.okw, fun H2 s2 => ⟨_, rfl, bnd (by omega), _, rfl, ?_, t_c ⟨_, rfl, ?_, ?_⟩⟩⟩)
  · rw [e0]; simp only [strLen_append]; exact bnd (by omega)
  · rw [e0]; simp only [strLen_append]; exact bnd (by omega)
  have s02 := s1.trans s2
  refine t_fld (t_var rfl ⟨x, R, dx, _, _, rfl, fx s02, W.cls, W.n_writers, rfl, .inl ⟨_, rfl, bnd (by omega), _, rfl, ?_, t_c ⟨_, rfl, ?_, ?_⟩⟩⟩)
  · rw [e0]; simp only [strLen_append]; exact bnd (by omega)
  · rw [e0]; simp only [strLen_append]; exact bnd (by omega)
  refine t_fld (t_var rfl ⟨x, R, dx, _, _, rfl, fx s02, W.cls, W.n_back, rfl, .inl ⟨_, rfl, bnd (by omega), _, rfl, ?_, t_c ⟨_, rfl, ?_, ?_⟩⟩⟩)
  · rw [e0]; simp only [strLen_append]; exact bnd (by omega)
  · rw [e0]; simp only [strLen_append]; exact bnd (by omega)
  rw [e0]
  exact q H2 s02
end
end K31

set_option maxRecDepth 100000
set_option maxHeartbeats 4000000
namespace K31
open PySem PySem.Spec PyProof.Rows L2 Kh
theorem sb_trans {D : Addr} {H H1 H2 : Hp} (x : SameBut D H H1) (y : SameBut D H1 H2) : SameBut D H H2 := fun b o n h => y b o n (x b o n h)
theorem PotAt.same {p : Addr} {H H' : Hp} (h : PotAt H p) (e : Same H H') : PotAt H' p := by obtain ⟨x, y, h, hy⟩ := h; exact ⟨x, y, e _ _ h, hy⟩
theorem PotAt.some {p : Addr} {H : Hp} (h : PotAt H p) : H p ≠ none := by obtain ⟨x, y, h, hy⟩ := h; exact some_ne h
theorem off_plusB {S : Addr → Prop} {p D : Addr} {H1 H : Hp} (hS : S p) (hD : H1 D = none) (s : SameBut p H1 H) : Same (off S H1) (off (plus S D) H) := fun b o h => by
  obtain ⟨n, h⟩ := off_some h
  rw [off_out]
  · exact s b o (fun z => n (z ▸ hS)) h
  · rintro (z | rfl)
    · exact n z
    · rw [hD] at h; cases h
theorem off_keep {S : Addr → Prop} {p : Addr} {H H' : Hp} (hS : S p) (e : SameBut p H H') : Same (off S H) H' := (off_bt hS e).trans off_sub
section
variable {K : PySem.W.Frag} {S : Addr → Prop} {p : Addr} {H1 : Hp} {σ : L2.St} {te : TE} {sl : Nat} {vs : List Nat} {Qd : VK} {J : It} {n : Nat} {G : Hp → Prop} {Y : Nat → Hp → V → Hp → Prop}
/-- [e for ..], e a tree that is drawn -/
theorem lc_pot0 (Xp : Nat → V → (Addr → Prop) → Hp → Prop) (Good : Nat → Kh.T → Prop) (hS : S p) (kn : Kn S H1) (hp : PotAt H1 p) (w : Walk J n G Y) (hG : ∀ H', SameBut p H1 H' → G H') (hn : n ≤ 1000) (hw : ∀ x, wipe ((wipe σ vs).set sl (some x)) vs = wipe σ vs)
    (hY : ∀ D i H x H', H1 D = none → i < n → SameBut p H1 H → Y i H x H' → H' = H ∧ Xp i x (plus S D) H)
    (body : ∀ j x H S', j < n → SameBut p H1 H → PotAt H p → Kn S' H → S' p → Xp j x S' H → ∀ Q : VK, (∀ y H' t, SameBut p H H' → PotAt H' p → Good j t → Dp K (off S' H') y (tD t) → Q y H') → te ((wipe σ vs).set sl (some x)) H Q)
    (done : ∀ D H (ys : List V) (ts : List Kh.T), SameBut p H1 H → PotAt H p → ts.length = n → (∀ j t, ts[j]? = some t → Good j t) → H D = some (.lst ys) → Dp K (off S H) (.ref D) (.list (ts.map tD)) → Qd (.ref D) H) :
    ∀ D, H1 D = none → ∃ W : Nat → Nat → Hp → Prop, (∃ m, W 0 m (upd H1 D (.lst []))) ∧ ∀ i m H, W i m H →
      (J.stop i H ∧ Qd (.ref D) H) ∨ (J.go i H ∧ ∃ Nx : Hp → Prop, (∀ H', Nx H' → ∃ m', m' < m ∧ W (i + 1) m' H') ∧ ∀ x H', J.yld i H x H' → gName sl x (wipe σ vs) H' fun σ2 H2 => wipe σ2 vs = wipe σ vs ∧ tYes σ2 H2 fun b H3 =>
        if b = true then te σ2 H3 fun y H4 => ∃ acc, H4 D = some (.lst acc) ∧ acc.length < sizeLine ∧ Nx (upd H4 D (.lst (acc ++ [y]))) else Nx H3) := by
  intro D hD
  have Dp' : D ≠ p := fun e => by subst e; exact hp.some hD
  refine lc_it (Qd := Qd (.ref D)) w (fun i H' => ∃ (ys : List V) (ts : List Kh.T), ts.length = i ∧ (∀ j t, ts[j]? = some t → Good j t) ∧ DpAll K (off (plus S D) H') ys (ts.map tD) ∧ SameBut p H1 H' ∧ PotAt H' p ∧ H' D = some (.lst ys)) ⟨[], [], rfl, fun j t h => by simp at h, .nil, sbut (same_new hD), hp.same (same_new hD), upd_same⟩ (fun i H _ ⟨_, _, _, _, _, s, _⟩ => hG H s) ?_ ?_
  · rintro i x H H' hi ⟨ys, ts, hl, good, da, sb, pot, hd⟩ y
    obtain ⟨rfl, xp⟩ := hY D i H x H' hD hi sb y
    have knH : Kn (plus S D) H' := (kn_bt kn sb pot.some).plus (some_ne hd)
    refine ⟨hw x, t_yes (body i x H' (plus S D) hi sb pot knH (.inl hS) xp _ fun z H3 t s3 pot3 gt dz => ?_)⟩
    have hd3 := s3 _ _ Dp' hd
    have hl2 := dpa_len da
    rw [List.length_map] at hl2
    refine ⟨ys, hd3, Nat.lt_of_le_of_lt (show ys.length ≤ 100000 by omega) (by decide), ys ++ [z], ts ++ [t], by simp [hl], ?_, ?_, ?_, ?_, upd_same⟩
    · intro j u hj
      by_cases c : j < ts.length
      · rw [List.getElem?_append_left c] at hj
        exact good j u hj
      · rw [List.getElem?_append_right (by omega)] at hj
        have e : j - ts.length = 0 := by
          have := (List.getElem?_eq_some_iff.mp hj).1
          simpa using this
        rw [e] at hj
        cases hj
        rw [show j = i by omega]; exact gt
    · rw [off_mut (show plus S D D from .inr rfl), List.map_append]
      exact dpa_app (dpa_same (off_bt (.inl hS) s3) _ _ da) (.cons dz .nil)
    · exact fun b o n h => by rw [upd_ne (ne_of_none h hD)]; exact s3 b o n (sb b o n h)
    · obtain ⟨x, y, h, hy⟩ := pot3
      exact ⟨x, y, by rw [upd_ne (Ne.symm Dp')]; exact h, hy⟩
  · rintro H ⟨ys, ts, hl, good, da, sb, pot, hd⟩
    exact done D H ys ts sb pot hl good hd (dp_lst (kn.new hD) hd (dpa_same off_fin _ _ da))
end
section
variable {P : Program} {w : World} {K : PySem.W.Frag} {mg : Str → Option Value} {base : Heap} {a : Nat → Addr} {fd : Nat → FuncData} {C : Addr} {tk : Nat → Tok}
theorem r_rng {ta : TA} {σ : L2.St} {H : Hp} {R : It → Hp → Prop} (h : ta σ H fun vs H1 => ∃ j : Int, vs = [.int j] ∧ -(2 ^ 62) ≤ j ∧ j < 2 ^ 62 ∧ R (Itr 0 j.toNat) H1) : iRng1 ta σ H R := h
theorem lc_potR {K : PySem.W.Frag} {S : Addr → Prop} {p : Addr} {H : Hp} {σ : L2.St} {ta : TA} {te : TE} {sl : Nat} {vs : List Nat} {Q : VK} (Pn : Nat → Prop) (Xp : V → (Addr → Prop) → Hp → Prop) (Good : Kh.T → Prop) (hS : S p) (kn : Kn S H)
    (hev : ∀ q : List V → Hp → Prop, (∀ H1 (n : Nat), SameBut p H H1 → PotAt H1 p → Pn n → q [.int (n : Nat)] H1) → ta σ H q) (hn : ∀ n, Pn n → n ≤ 1000) (hw : ∀ x, wipe ((wipe σ vs).set sl (some x)) vs = wipe σ vs)
    (hX : ∀ D H1 x, H D = none → SameBut p H H1 → Xp x (plus S D) H1)
    (body : ∀ x H1 S', SameBut p H H1 → PotAt H1 p → Kn S' H1 → S' p → Xp x S' H1 → ∀ Q : VK, (∀ y H' t, SameBut p H1 H' → PotAt H' p → Good t → Dp K (off S' H') y (tD t) → Q y H') → te ((wipe σ vs).set sl (some x)) H1 Q)
    (done : ∀ D H1 (n : Nat) (ts : List Kh.T), SameBut p H H1 → PotAt H1 p → Pn n → ts.length = n → (∀ t ∈ ts, Good t) → Dp K (off S H1) (.ref D) (.list (ts.map tD)) → Q (.ref D) H1) :
    tLc (iRng1 ta) (gName sl) tYes te vs σ H Q := by
  refine hev _ fun H1 n s1 pot pn => ⟨(n : Nat), rfl, by have := hn n pn; omega, by have := hn n pn; omega, ?_⟩
  have kn1 := kn_bt kn s1 pot.some
  refine lc_pot0 (K := K) (n := n) (G := fun _ => True) (Y := YFn fun i => .int (0 + i)) (fun i x S' H' => Xp x S' H') (fun j t => Good t) hS kn1 pot walk_range (fun _ _ => trivial) (hn n pn) hw (fun D i H2 x H3 hD hi sb y => ⟨y.1, ?_⟩) (fun j x H2 S' hj sb pot2 kn2 hS' xp Q q => body x H2 S' (sb_trans s1 sb) pot2 kn2 hS' xp Q q) (fun D H2 ys ts sb pot2 hl good hd hD => ?_)
  · exact hX D H2 x (by
      by_cases e : D = p
      · subst e; exact (pot.some hD).elim
      · cases h : H D with
        | none => rfl
        | some o => rw [s1 D o e h] at hD; cases hD) (sb_trans s1 sb)
  · refine done D H2 n ts (sb_trans s1 sb) pot2 pn hl (fun t ht => ?_) hD
    obtain ⟨j, hj⟩ := List.mem_iff_getElem?.mp ht
    exact good j t hj
/-- meetings are tuples here -/
abbrev nT (m : List Nat) : PyData := .tuple (m.map nD)
theorem in_nT {S : Addr → Prop} {H : Hp} {n : Nat} {m : List Nat} {v : V} {Q : VK} (h : Dp K (off S H) v (nT m)) (q : Q (.bl (decide (n ∈ m))) H) : rIn K false (.int (n : Nat)) v H Q := by
  refine in_d (ns := m.map fun m : Nat => ((m : Nat) : Int)) off_sub h (by rw [← nD_map]; rfl) ?_
  show Q (.bl (decide (((n : Nat) : Int) ∈ m.map fun k : Nat => ((k : Nat) : Int)))) H
  have e : decide (((n : Nat) : Int) ∈ m.map fun k : Nat => ((k : Nat) : Int)) = decide (n ∈ m) := decide_eq_decide.mpr mem_ints
  rw [e]; exact q
def eW (x : List Nat × List Nat) : List PyData := [nT x.1, nT x.2]
abbrev spWithin (K : PySem.W.Frag) : Sp := spP K eW (fun x => x.1.length ≤ 1000) fun x => .bool ((x.1.map fun n => decide (n ∈ x.2)).all id)
theorem ok__law_is_within (T : Txt K mg a fd C tk) : FnOk P w K mg base CX0 1 (a 44) (fd 44) ["_law_one", "_law_other"] (spWithin K) := by
  refine T.F__law_is_within.ok sc__law_is_within (fun vs H Q E h => spP_len (fun _ => rfl) h) (fun cdv A outer s H vs Q E hr h => ?_)
  obtain ⟨S, ⟨l, m⟩, kn, hd, pre, q⟩ := h
  replace pre : l.length ≤ 1000 := pre
  obtain - | ⟨h1, - | ⟨h2, ⟨⟩⟩⟩ := hd
  rename_i v1 v2
  replace h1 : Dp K (off S H) v1 (nT l) := h1
  replace h2 : Dp K (off S H) v2 (nT m) := h2
  refine ⟨_, (pss_one (ps_ret (pe_callB (k_all (K := K) rfl) (by rfl) T.z_all (by decide +kernel) (pa_cons (pe_lc (own := [("_law_house", 2)]) (g := gName 2) (tt := tYes) rfl sc__law_is_within.nd (k_pi (K := K) (pv 0)) (blkOk_by (own := [("_law_house", 2)]) (N := _law_is_within_N) (sc := defScope _law_is_within_s) (by decide +kernel)) (fun _ _ _ _ _ => (pg_name (i := 2) sc__law_is_within.nd rfl (Or.inl rfl))) (fun _ _ _ _ _ => pts_nil) (fun _ _ _ _ _ => (pe_cmpR (k_in (K := K)) (pv 2) (pv 1) (by rfl)))) pa_nil)))), ?_⟩
  refine s_ret (t_cb1 (lcM true l nD (fun n => .bool (decide (n ∈ m))) kn (fun Q q => t_var rfl (q _ _ (Same.refl _) h1)) (by omega) (fun _ => rfl) (fun n hn x H1 S1 s1 kn1 dx hS ho Q q => ?_) fun D H1 ys hD s1 hd1 d1 => ?_))
  · cases dx
    exact t_op (t_var rfl (t_var rfl (in_nT (dp_same ho _ _ h2) (q _ _ (Same.refl _) (.bl _)))))
  · exact all_d (bs := l.map fun n => decide (n ∈ m)) off_sub (by rw [List.map_map]; exact d1) (q _ H1 s1 (.bl _))
/-- what shape draws -/
structure ShOf (n deep : Nat) (t : Kh.T) : Prop where
  fl : flg false t = t
  wf : Wf t
  dp : dep t ≤ deep
  lv : ∀ m ∈ lv t, m < n
  len : (Kh.lv t).length ≤ 4 ^ deep
theorem sh_gate {n : Nat} {ts : List Kh.T} {deep k : Nat} (hk : 1 ≤ k) (hk2 : k ≤ ts.length) (hl : ts.length ≤ 4) (h : ∀ t ∈ ts, ShOf n deep t) : ShOf n (deep + 1) (.gate false k ts) := by
  refine ⟨?_, (wf_gate _ _ _).mpr ⟨hk, hk2, fun t ht => (h t ht).wf⟩, (dep_gate _ _ _).mpr fun t ht => (h t ht).dp, fun n hn => ?_, ?_⟩
  · rw [flg_gate]
    congr 1
    exact (List.map_congr_left fun t ht => (h t ht).fl).trans (List.map_id ts)
  · rw [lv_gate] at hn
    obtain ⟨t, ht, hn⟩ := List.mem_flatMap.mp hn
    exact (h t ht).lv _ hn
  · rw [lv_gate, Nat.pow_succ]
    have go : ∀ us : List Kh.T, (∀ t ∈ us, ShOf n deep t) → (us.flatMap lv).length ≤ 4 ^ deep * us.length := by
      intro us
      induction us with
      | nil => intro _; exact Nat.zero_le _
      | cons t us ih =>
        intro hh
        rw [List.flatMap_cons, List.length_append, List.length_cons, Nat.mul_add, Nat.mul_one]
        have h1 := (hh t List.mem_cons_self).len
        have h2 := ih fun u hu => hh u (List.mem_cons_of_mem _ hu)
        omega
    exact Nat.le_trans (go ts h) (Nat.mul_le_mul_left _ hl)
def spShape (K : PySem.W.Frag) (d : Nat) : Sp := fun vs H Q _ => ∃ (S : Addr → Prop) (p : Addr) (n deep : Nat), vs = [.ref p, .int (n : Nat), .int (deep : Nat)] ∧ Kn S H ∧ S p ∧ PotAt H p ∧ 1 ≤ n ∧ n ≤ 24 ∧ deep < d ∧
  ∀ u H' t, SameBut p H H' → PotAt H' p → ShOf n deep t → Dp K (off S H') u (tD t) → Q u H'
theorem dec_int2 (n m : Nat) : decide (L2.V.int ((n : Nat) : Int) = L2.V.int ((m : Nat) : Int)) = decide (n = m) := decide_eq_decide.mpr ⟨fun h => by have := L2.V.int.inj h; omega, fun h => by rw [h]⟩
theorem ok__law_shape (T : Txt K mg a fd C tk) : ∀ d, FnOk P w K mg base CX0 (d + 3) (a 40) (fd 40) ["_law_pot_here", "_law_many", "_law_deep"] (spShape K d)
  | 0 => fn_none fun _ _ _ _ h => by obtain ⟨_, _, _, _, _, _, _, _, _, _, h, _⟩ := h; exact Nat.not_lt_zero _ h
  | d + 1 => by
    have G__law_shape := ok__law_shape T d
    have G__law_draw := ok__law_draw (P := P) (w := w) (base := base) T
    refine T.F__law_shape.ok sc__law_shape (fun vs H Q E h => by obtain ⟨_, _, _, _, rfl, _⟩ := h; rfl) (fun cdv A outer s H vs Q E hr h => ?_)
    obtain ⟨S, p, n, deep, rfl, kn, hS, hp, n1, n24, hdd, q⟩ := h
    refine ⟨_, (pss_cons (ps_if (PW.pt (pw_or (pt_cmpR op_eq (pv 2) pe_int (nomark _)) (pw_or1 (PW.pt (pw_and (pt_cmpR op_lt (pv 2) pe_int (nomark _)) (pw_and1 (pt_cmpR op_eq (pe_call G__law_draw (hr.mono (by omega)) (by rfl) T.m__law_draw T.F__law_draw.kp T.b__law_draw .nil pass0 (pa_cons (pv 0) (pa_cons pe_int pa_nil))) pe_int (nomark _))))))))
        (pss_one (ps_ret (pe_call G__law_draw (hr.mono (by omega)) (by rfl) T.m__law_draw T.F__law_draw.kp T.b__law_draw .nil pass0 (pa_cons (pv 0) (pa_cons (pv 1) pa_nil))))) pss_nil)
      (pss_cons (ps_setLc (i := 3) (own := [("_law_part", 4)]) (g := gName 4) (tt := tYes) rfl sc__law_shape.nd rfl rfl (sw_true rfl rfl rfl (by decide +kernel)) (pi_range1 (by rfl) T.z_range (pa_cons (pe_op op_add pe_int (pe_call G__law_draw (hr.mono (by omega)) (by rfl) T.m__law_draw T.F__law_draw.kp T.b__law_draw .nil pass0 (pa_cons (pv 0) (pa_cons pe_int pa_nil)))) pa_nil)) (blkOk_by (own := [("_law_part", 4)]) (N := _law_shape_N) (sc := defScope _law_shape_s) (by decide +kernel)) (fun _ _ _ _ _ => (pg_name (i := 4) sc__law_shape.nd rfl (Or.inl rfl))) (fun _ _ _ _ _ => pts_nil) (fun _ _ _ _ _ => (pe_call G__law_shape (hr.mono (by omega)) (by rfl) T.m__law_shape T.F__law_shape.kp T.b__law_shape .nil pass0 (pa_cons (pv 0) (pa_cons (pv 1) (pa_cons (pe_op op_sub (pv 2) pe_int) pa_nil))))))
      (pss_one (ps_ret (pe_tup (pa_cons pe_str (pa_cons (pe_op op_add pe_int (pe_call G__law_draw (hr.mono (by omega)) (by rfl) T.m__law_draw T.F__law_draw.kp T.b__law_draw .nil pass0 (pa_cons (pv 0) (pa_cons (pe_callB (k_len (K := K)) (by rfl) T.z_len (by decide +kernel) (pa_cons (pv 3) pa_nil)) pa_nil)))) (pa_cons (pv 3) pa_nil)))))))), ?_⟩
    have knB : ∀ {H'}, SameBut p H H' → PotAt H' p → Kn S H' := fun {H'} sb pt => kn_bt kn sb pt.some
    have leaf : ∀ {H1 : Hp} {r : Nat}, SameBut p H H1 → PotAt H1 p → r < n → Q (.int (r : Nat)) H1 := fun {H1 r} sb pt hr => q _ H1 (.leaf r) sb pt ⟨flg_leaf _ _, by rw [Wf]; omega, by simp [dep], fun m hm' => by rw [lv_leaf] at hm'; rw [List.mem_singleton.mp hm']; exact hr, by rw [lv_leaf]; exact Nat.one_le_pow _ _ (by decide)⟩ (by rw [tD_leaf]; exact .int _)
    refine s_seq (s_if (b_or (b_test (t_op (t_var rfl (t_c ⟨rfl, _, rfl, ?_⟩))))))
    by_cases d0 : deep = 0
    · exact ifT ((dec_int2 deep 0).trans (decide_eq_true d0)) (ifT rfl (s_ret (t_call2 (t_var rfl (t_var rfl ⟨p, n, rfl, hp, by omega, by omega, fun r H1 hr1 sb1 pt1 => leaf sb1 pt1 hr1⟩)))))
    refine ifF ((dec_int2 deep 0).trans (decide_eq_false d0)) (b_and (b_test (t_op (t_var rfl (t_c ⟨_, _, rfl, rfl, bl_if (fun c => ?_) (fun c => ?_)⟩)))))
    refine b_test (t_op (t_call2 (t_var rfl (t_c ⟨p, 3, rfl, hp, by decide, by decide, fun r H1 hr3 sb1 pt1 => t_c ⟨rfl, _, rfl, ?_⟩⟩))))
    refine if_b (fun c => s_ret (t_call2 (t_var rfl (t_var rfl ⟨p, n, rfl, pt1, by omega, by omega, fun r2 H2 hr2 sb2 pt2 => leaf (sb_trans sb1 sb2) pt2 hr2⟩)))) (fun c => s_next ?_)
    rotate_left
    refine ifF rfl (s_next ?_)
    have sb1 : SameBut p H H := sbut (Same.refl H)
    have pt1 := hp
    all_goals
      have kn1 := knB sb1 pt1
      refine s_seq (s_set ?_)
      refine lc_potR (K := K) (Pn := fun n => 1 ≤ n ∧ n ≤ 4) (Xp := fun _ S' H' => True) (Good := fun t => ShOf n (deep - 1) t) hS kn1 (fun q' h' => ?_) (fun n h => by omega) (fun _ => rfl) (fun D H3 x hD sb => True.intro) (fun x H3 S' sb pt kn3 hS' dt Q' q' => ?_) fun D H3 m ts sb pt hpn hl good dD => ?_
      · refine a_cons (t_op (t_c (t_call2 (t_var rfl (t_c ⟨p, 4, rfl, pt1, by decide, by decide, fun r3 H2 hr3 sb2 pt2 => ⟨_, _, rfl, rfl, a_nil ?_⟩⟩)))))
        have e3 : (1 : Int) + (r3 : Nat) = ((1 + r3 : Nat) : Int) := by omega
        have := h' H2 (1 + r3) sb2 pt2 ⟨by omega, by omega⟩
        rw [← e3] at this
        exact this
      · have e1 : ((deep : Nat) : Int) - 1 = ((deep - 1 : Nat) : Int) := by omega
        exact t_call3 (t_var rfl (t_var rfl (t_op (t_var rfl (t_c ⟨_, _, rfl, rfl, S', p, n, deep - 1, (by show [V.ref p, V.int (n : Nat), V.int ((deep : Nat) - 1)] = _; rw [e1]), kn3, hS', pt, n1, n24, by omega, fun u H4 t sb4 pt4 an du => q' u H4 t sb4 pt4 an du⟩)))))
      · have sb3 := sb_trans sb1 sb
        have kn3 := knB sb3 pt
        refine nx_of (s_ret (t_tup (a_cons (t_c (a_cons (t_op (t_c (t_call2 (t_var rfl (t_cb1 (t_var rfl (len_d off_sub dD rfl ?_))))))))))))
        rw [List.length_map]
        refine ⟨p, ts.length, rfl, pt, by omega, by omega, fun r5 H4 hr5 sb4 pt4 => ⟨_, _, rfl, rfl, a_cons (t_var rfl (a_nil ⟨le3, fun y hy => ?_⟩))⟩⟩
        have dD4 := dp_same (off_bt hS sb4) _ _ dD
        refine q _ _ (.gate false (1 + r5) ts) (fun b o n h => same_new hy _ _ (sb_trans sb3 sb4 b o n h)) (pt4.same (same_new hy)) ?_ ?_
        · have := sh_gate (n := n) (ts := ts) (deep := deep - 1) (k := 1 + r5) (by omega) (by omega) (by omega) good
          rwa [show deep - 1 + 1 = deep by omega] at this
        · rw [tD_gate]
          exact dp_newT (knB (sb_trans sb3 sb4) pt4) hy (.cons (.str _) (.cons (dp_int (by omega)) (.cons dD4 .nil)))
end
end K31

set_option maxRecDepth 100000
set_option maxHeartbeats 4000000
namespace K31
open PySem PySem.Spec PyProof.Rows L2 Kh
theorem rg_ok {n : Nat} (h : n ≤ 1000) : RgOk 0 ((n : Nat) : Int) := .of_le (by decide) (by omega) (by decide) (by omega)
theorem rg_val (n : Nat) : rgV 0 ((n : Nat) : Int) = ivs (List.range n) := by
  unfold rgV
  rw [Int.sub_zero, Int.toNat_natCast]
  exact List.map_congr_left fun m _ => by rw [Int.zero_add]
/-- what tree draws below n -/
structure GdT (n : Nat) (t : Kh.T) : Prop where
  fl : flg false t = t
  ok : Okt t
  lt : ∀ m ∈ mem t, m < n
  pre : preW t
theorem gd_of {n : Nat} {t : Kh.T} (fl : flg false t = t) (wf : Wf t) (dp : dep t ≤ 2) (lt : ∀ m ∈ lv t, m < n) (len : (lv t).length ≤ 16) (n5 : n ≤ 6) : GdT n t := by
  have l1 : ∀ m ∈ mem t, m < n := fun m hm => lt m ((mem_iff wf m).mp hm)
  have l2 := sub_len (mem_nodup t) (fun m hm => List.mem_range.mpr (l1 m hm))
  rw [List.length_range] at l2
  exact ⟨fl, ⟨wf, by omega, by omega, .inr (by omega)⟩, l1, by omega, len⟩
theorem gd_sh {n : Nat} {t : Kh.T} (h : ShOf n 2 t) (n5 : n ≤ 6) : GdT n t := gd_of h.fl h.wf h.dp h.lv h.len n5
def gt (n k : Nat) : Kh.T := .gate false k ((List.range n).map Kh.T.leaf)
theorem tD_gt (n k : Nat) : tD (gt n k) = .tuple [.str "of", .int (k : Nat), nL (List.range n)] := by
  unfold gt
  rw [tD_gate, List.map_map]
  show PyData.tuple [.str "of", .int (k : Nat), .list ((List.range n).map _)] = _
  have e : (List.range n).map (tD ∘ Kh.T.leaf) = (List.range n).map nD := List.map_congr_left fun m _ => tD_leaf m
  rw [e]; rfl
theorem lv_gt (n k : Nat) : lv (gt n k) = List.range n := by
  unfold gt
  rw [lv_gate, List.flatMap_map]
  have : ∀ l : List Nat, (l.flatMap fun a => lv (Kh.T.leaf a)) = l := by
    intro l
    induction l with
    | nil => rfl
    | cons a l ih => rw [List.flatMap_cons, ih, lv_leaf]; rfl
  exact this _
theorem gd_gt {n k : Nat} (h1 : 1 ≤ k) (h2 : k ≤ n) (n5 : n ≤ 5) : GdT n (gt n k) := by
  refine gd_of ?_ ?_ ?_ (fun m hm => by rw [lv_gt] at hm; exact List.mem_range.mp hm) (by rw [lv_gt, List.length_range]; omega) (by omega)
  · unfold gt
    rw [flg_gate, List.map_map]
    congr 1
  · unfold gt
    refine (wf_gate _ _ _).mpr ⟨h1, by rw [List.length_map, List.length_range]; exact h2, fun t ht => ?_⟩
    obtain ⟨m, hm, rfl⟩ := List.mem_map.mp ht
    have := List.mem_range.mp hm
    rw [Wf]; omega
  · unfold gt
    refine (dep_gate _ _ _).mpr fun t ht => ?_
    obtain ⟨m, hm, rfl⟩ := List.mem_map.mp ht
    simp [dep]
theorem gd_leaf {n m : Nat} (h : m < n) (n5 : n ≤ 5) : GdT n (.leaf m) :=
  gd_of (flg_leaf _ _) (by rw [Wf]; omega) (by simp [dep]) (fun k hk => by rw [lv_leaf] at hk; rw [List.mem_singleton.mp hk]; exact h) (by rw [lv_leaf]; show 1 ≤ 16; decide) (by omega)
section
variable {P : Program} {w : World} {K : PySem.W.Frag} {mg : Str → Option Value} {base : Heap} {a : Nat → Addr} {fd : Nat → FuncData} {C : Addr} {tk : Nat → Tok}
theorem t_lrg1 {σ : L2.St} {H : Hp} {ta : TE} {Q : VK} (h : ta σ H fun x H1 => ∃ n, x = .int n ∧ RgOk 0 n ∧ ∀ q, H1 q = none → Q (.ref q) (upd H1 q (.lst (rgV 0 n)))) : tLstRg (tRg1 ta) σ H Q := h
theorem t_gt {S : Addr → Prop} {σ : L2.St} {H : Hp} {i n k : Nat} {vh : V} {te : TE} {Q : VK} (kn : Kn S H) (hk : ∀ Q : VK, Q (.int (k : Nat)) H → te σ H Q) (hv : σ[i]? = some (some vh)) (dh : Dp K (off S H) vh (nL (List.range n)))
    (q : ∀ u H1, Same H H1 → Dp K (off S H1) u (tD (gt n k)) → Q u H1) : tTup (tCons (tC (.str "of")) (tCons te (tCons (tVar i) tNil))) σ H Q :=
  t_tup (a_cons (t_c (a_cons (hk _ (a_cons (t_var hv (a_nil ⟨le3, fun y hy => q _ _ (same_new hy) (by rw [tD_gt]; exact dp_newT kn hy (.cons (.str _) (.cons (.int _) (.cons dh .nil))))⟩)))))))
def spTree (K : PySem.W.Frag) : Sp := fun vs H Q _ => ∃ (S : Addr → Prop) (p : Addr) (n : Nat), vs = [.ref p, .int (n : Nat)] ∧ Kn S H ∧ S p ∧ PotAt H p ∧ 1 ≤ n ∧ n ≤ 5 ∧
  ∀ u H' t, SameBut p H H' → PotAt H' p → GdT n t → Dp K (off S H') u (tD t) → Q u H'
theorem ok__law_tree (T : Txt K mg a fd C tk) : FnOk P w K mg base CX0 7 (a 41) (fd 41) ["_law_pot_here", "_law_many"] (spTree K) := by
  have G__law_shape := ok__law_shape (P := P) (w := w) (base := base) T 3
  have G__law_draw := ok__law_draw (P := P) (w := w) (base := base) T
  have G__law_pick := ok__law_pick (P := P) (w := w) (base := base) T
  refine T.F__law_tree.ok sc__law_tree (fun vs H Q E h => by obtain ⟨_, _, _, rfl, _⟩ := h; rfl) (fun cdv A outer s H vs Q E hr h => ?_)
  obtain ⟨S, p, n, rfl, kn, hS, hp, n1, n5, q⟩ := h
  refine ⟨_, (pss_cons (ps_set (i := 2) sc__law_tree.nd rfl (Or.inl rfl) (pe_listRg rfl (by rfl) T.z_list (prg_1 (by rfl) T.z_range (pv 1))))
      (pss_cons (ps_set (i := 3) sc__law_tree.nd rfl (Or.inl rfl) (pe_lst (pa_cons (pe_tup (pa_cons pe_str (pa_cons (pe_op op_add (pe_op op_fdivW (pv 1) pe_int) pe_int) (pa_cons (pv 2) pa_nil)))) (pa_cons (pe_tup (pa_cons pe_str (pa_cons (pe_op op_add (pe_op op_fdivW (pv 1) pe_int) pe_int) (pa_cons (pv 2) pa_nil)))) (pa_cons (pe_tup (pa_cons pe_str (pa_cons (pv 1) (pa_cons (pv 2) pa_nil)))) (pa_cons (pe_tup (pa_cons pe_str (pa_cons pe_int (pa_cons (pv 2) pa_nil)))) pa_nil))))))
      (pss_cons (ps_set (i := 3) sc__law_tree.nd rfl (Or.inl rfl) (pe_op (k_catS (K := K)) (pv 3) (pe_lst (pa_cons (pe_tup (pa_cons pe_str (pa_cons (pe_op op_fdivW (pe_op op_add (pv 1) pe_int) pe_int) (pa_cons (pv 2) pa_nil)))) (pa_cons (pe_call G__law_draw (hr.mono (by omega)) (by rfl) T.m__law_draw T.F__law_draw.kp T.b__law_draw .nil pass0 (pa_cons (pv 0) (pa_cons (pv 1) pa_nil))) pa_nil)))))
      (pss_one (ps_ret (pe_ifExp (pt_cmpR op_gt (pe_call G__law_draw (hr.mono (by omega)) (by rfl) T.m__law_draw T.F__law_draw.kp T.b__law_draw .nil pass0 (pa_cons (pv 0) (pa_cons pe_int pa_nil))) pe_int (nomark _)) (pe_call G__law_pick (hr.mono (by omega)) (by rfl) T.m__law_pick T.F__law_pick.kp T.b__law_pick .nil pass0 (pa_cons (pv 0) (pa_cons (pv 3) pa_nil))) (pe_call G__law_shape (hr.mono (by omega)) (by rfl) T.m__law_shape T.F__law_shape.kp T.b__law_shape .nil pass0 (pa_cons (pv 0) (pa_cons (pv 1) (pa_cons pe_int pa_nil)))))))))), ?_⟩
  refine s_seq (s_set (t_lrg1 (t_var rfl ⟨_, rfl, rg_ok (by omega), fun lV hV => nx_of ?_⟩)))
  rw [rg_val]
  have s1 := same_new (o := HO.lst (ivs (List.range n))) hV
  have dV : Dp K (off S (upd H lV (.lst (ivs (List.range n))))) (.ref lV) (nL (List.range n)) := dp_newL (K := K) kn hV (nats_dpa (List.range n))
  generalize upd H lV (.lst (ivs (List.range n))) = H1 at *
  have kn1 := kn.same s1
  have half : ∀ {H' : Hp} {Q : VK}, Q (.int ((n / 2 + 1 : Nat) : Int)) H' → Q (.int (((n : Nat) : Int) / 2 + 1)) H' := fun {H' Q} q => by
    have e : ((n : Nat) : Int) / 2 + 1 = ((n / 2 + 1 : Nat) : Int) := by omega
    rw [e]; exact q
  have half2 : ∀ {H' : Hp} {Q : VK}, Q (.int (((n + 1) / 2 : Nat) : Int)) H' → Q (.int ((((n : Nat) : Int) + 1) / 2)) H' := fun {H' Q} q => by
    have e : (((n : Nat) : Int) + 1) / 2 = (((n + 1) / 2 : Nat) : Int) := by omega
    rw [e]; exact q
  have dv : ∀ {i : Int}, CDivW i 2 := fun {i} => ⟨by decide, by decide +kernel⟩
  refine s_seq (s_set (t_lst (a_cons (t_gt (n := n) (k := n / 2 + 1) kn1 (fun Q q => t_op (t_op (t_var rfl (t_c ⟨_, _, rfl, rfl, dv, t_c ⟨_, _, rfl, rfl, half q⟩⟩)))) rfl dV fun u1 H2 s2 d1 => ?_))))
  have kn2 := kn1.same s2
  have dV2 := dp_same (off_same s2) _ _ dV
  refine a_cons (t_gt (n := n) (k := n / 2 + 1) kn2 (fun Q q => t_op (t_op (t_var rfl (t_c ⟨_, _, rfl, rfl, dv, t_c ⟨_, _, rfl, rfl, half q⟩⟩)))) rfl dV2 fun u2 H3 s3 d2 => ?_)
  have kn3 := kn2.same s3
  have dV3 := dp_same (off_same s3) _ _ dV2
  refine a_cons (t_gt (n := n) (k := n) kn3 (fun Q q => t_var rfl q) rfl dV3 fun u3 H4 s4 d3 => ?_)
  have kn4 := kn3.same s4
  have dV4 := dp_same (off_same s4) _ _ dV3
  refine a_cons (t_gt (n := n) (k := 1) kn4 (fun Q q => t_c q) rfl dV4 fun u4 H5 s5 d4 => a_nil ⟨le4, fun M hM => nx_of ?_⟩)
  have kn5 := kn4.same s5
  have dV5 := dp_same (off_same s5) _ _ dV4
  have s45 := s4.trans s5
  have s35 := s3.trans s45
  have dM := dp_newL (K := K) kn5 hM (.cons (dp_same (off_same s35) _ _ d1) (.cons (dp_same (off_same s45) _ _ d2) (.cons (dp_same (off_same s5) _ _ d3) (.cons d4 .nil))))
  have sM := same_new (o := HO.lst [u1, u2, u3, u4]) hM
  have kn6 := kn5.same sM
  have dV6 := dp_same (off_same sM) _ _ dV5
  have s16 := (s1.trans (s2.trans s35)).trans sM
  generalize upd H5 M (.lst [u1, u2, u3, u4]) = H6 at *
  have pt6 := hp.same s16
  refine s_seq (s_set (t_op (t_var rfl (t_lst (a_cons (t_gt (n := n) (k := (n + 1) / 2) kn6 (fun Q q => t_op (t_op (t_var rfl (t_c ⟨_, _, rfl, rfl, t_c ⟨_, _, rfl, rfl, dv, half2 q⟩⟩)))) rfl dV6 fun u5 H7 s7 d5 => ?_))))))
  have pt7 := pt6.same s7
  refine a_cons (t_call2 (t_var rfl (t_var rfl ⟨p, n, rfl, pt7, by omega, by omega, fun r H8 hr8 sb8 pt8 => a_nil ⟨le2, fun N hN => ?_⟩⟩)))
  have kn7 := kn6.same s7
  have kn8 := kn_bt kn7 sb8 pt8.some
  have dN := dp_newL (K := K) kn8 hN (.cons (dp_same (off_bt hS sb8) _ _ d5) (.cons (.int (r : Nat)) .nil))
  have sN := same_new (o := HO.lst [u5, V.int (r : Nat)]) hN
  have dM9 := dp_same (off_same sN) _ _ (dp_same (off_bt hS sb8) _ _ (dp_same (off_same s7) _ _ dM))
  have kn9 := kn8.same sN
  have pt9 := pt8.same sN
  have sb9 : SameBut p H (upd H8 N (.lst [u5, V.int (r : Nat)])) := sb_trans (sbut (s16.trans s7)) (sb_trans sb8 (sbut sN))
  generalize upd H8 N (.lst [u5, V.int (r : Nat)]) = H9 at *
  refine cat_d kn9 dM9 dN (by show 4 + 2 ≤ 100000; decide) fun L Hz sz dL => nx_of ?_
  have menu : Dp K (off S Hz) L (.list ([gt n (n / 2 + 1), gt n (n / 2 + 1), gt n n, gt n 1, gt n ((n + 1) / 2), .leaf r].map tD)) := by
    have := dL
    simp only [List.map_cons, List.map_nil, tD_leaf]
    exact this
  have knz := kn9.same sz
  have ptz := pt9.same sz
  have sbz := sb_trans sb9 (sbut sz)
  refine s_ret (t_if (b_test (t_op (t_call2 (t_var rfl (t_c ⟨p, 3, rfl, ptz, by decide, by decide, fun d Ha hda sba pta => t_c ⟨_, _, rfl, rfl, ?_⟩⟩))))))
  have kna := kn_bt knz sba pta.some
  have sbA := sb_trans sbz sba
  refine ⟨_, rfl, if_b (fun c => ?_) (fun c => ?_)⟩
  · have menuA := dp_same (off_bt hS sba) _ _ menu
    obtain ⟨tl, txs, rfl, hts, hta⟩ := list_at menuA
    have hl := dpa_len hta
    refine t_call2 (t_var rfl (t_var rfl ⟨p, tl, _, rfl, pta, fun H' sb' => off_sub.seq ((off_bt hS sb').seq hts), by rw [hl, List.length_map]; show 0 < 6; decide, by rw [hl, List.length_map]; show 6 < 1000; decide, fun d x H2 hx sb2 pt2 => ?_⟩))
    obtain ⟨dd, hdd, dx⟩ := dpa_at hta hx
    rw [List.getElem?_map] at hdd
    obtain ⟨t, ht, rfl⟩ := Option.map_eq_some_iff.mp hdd
    refine q _ H2 t (sb_trans sbA sb2) pt2 ?_ (dp_same (off_bt hS sb2) _ _ dx)
    have hm := List.mem_of_getElem? ht
    simp only [List.mem_cons, List.not_mem_nil, or_false] at hm
    rcases hm with rfl | rfl | rfl | rfl | rfl | rfl
    · exact gd_gt (by omega) (by omega) n5
    · exact gd_gt (by omega) (by omega) n5
    · exact gd_gt (by omega) (by omega) n5
    · exact gd_gt (by omega) (by omega) n5
    · exact gd_gt (by omega) (by omega) n5
    · exact gd_leaf hr8 n5
  · exact t_call3 (t_var rfl (t_var rfl (t_c ⟨S, p, n, 2, rfl, kna, hS, pta, n1, by omega, by decide, fun u Hb t sb pt sh du => q u Hb t (sb_trans sbA sb) pt (gd_sh sh (by omega)) du⟩)))
end
end K31

set_option maxRecDepth 100000
set_option maxHeartbeats 4000000
namespace K31
open PySem PySem.Spec PyProof.Rows L2 Kh
theorem k_catA {X : Cx} {K : PySem.W.Frag} (h : X.K = K := by rfl) : OpR X (binaryOp .Add) (rCatA K) := by subst h; exact op_catA
theorem alike_nT (a b : List Nat) : PySem.W.alike (nT a) (nT b) = true := by
  have h : PySem.W.alikeAll (a.map nD) (b.map nD) = true := by
    rw [nD_map, nD_map]; exact PySem.W.alike_ints _ _
  simp only [PySem.W.alike, h]
theorem depth_nT (m : List Nat) : (nT m).depth ≤ 60 := by
  have h : PyData.depthAll (m.map nD) = 0 := by rw [nD_map]; exact PySem.W.depth_ints _
  simp only [PyData.depth, h]
  decide
theorem leT_eq (p q : List Nat) : leL p q = leD (nT p) (nT q) := by
  unfold leL leD nL
  simp only [PySem.W.dataLe, PySem.W.sortLe, PySem.W.keyToks]
def dPair (m : List Nat) : PyData := .tuple [.int (m.length : Nat), nT m]
theorem alike_pair (m l : List Nat) : PySem.W.alike (dPair m) (dPair l) = true := by
  have h := alike_nT m l
  unfold dPair
  simp only [PySem.W.alike, PySem.W.alikeAll] at h ⊢
  simp only [h, Bool.and_true]
theorem depth_pair (m : List Nat) : (dPair m).depth ≤ 60 := by
  have h : PyData.depthAll (m.map nD) = 0 := by rw [nD_map]; exact PySem.W.depth_ints _
  unfold dPair
  simp only [PyData.depth, PyData.depthAll, h]
  decide
abbrev leP (m l : List Nat) : Bool := leD (dPair m) (dPair l)
theorem leP_total : PySem.W.TotalLe leP := ⟨fun a b c => leD_total.trans _ _ _, fun a b => leD_total.total _ _⟩
theorem leP_len {m l : List Nat} (h : leP m l = true) : m.length ≤ l.length := by
  refine Classical.byContradiction fun hc => ?_
  have e : leP m l = !PySem.W.dataLt (dPair l) (dPair m) := rfl
  rw [e] at h
  unfold dPair at h
  rw [PySem.W.dataLt_pair (by simp [PySem.W.alike]) (alike_nT l m)] at h
  have ne : PyData.eqv (.int ((l.length : Nat) : Int)) (.int ((m.length : Nat) : Int)) = false := by
    rw [PyData.eqv]; exact beq_eq_false_iff_ne.mpr (by omega)
  rw [ne, if_neg Bool.false_ne_true, PySem.W.dataLt_int] at h
  have : decide (((l.length : Nat) : Int) < ((m.length : Nat) : Int)) = true := decide_eq_true (by omega)
  rw [this] at h
  cases h
def llists (ns : List Nat) : List (List Nat) := (lists ns).mergeSort leP
theorem llists_perm (ns : List Nat) : (llists ns).Perm (lists ns) := List.mergeSort_perm _ _
theorem llists_mem {ns m : List Nat} : m ∈ llists ns ↔ m.Sublist ns := by rw [(llists_perm ns).mem_iff, lists_mem]
theorem llists_len8 {ns : List Nat} (h : ns.length ≤ 8) : (llists ns).length ≤ 256 := by rw [(llists_perm ns).length_eq]; exact lists_len8 h
theorem fold_take {t : Kh.T} {L : List (List Nat)} {i : Nat} {m : List Nat} (h : L[i]? = some m) : (L.take (i + 1)).foldl (lawStep t) [] = lawStep t ((L.take i).foldl (lawStep t) []) m := by
  rw [take_snoc' h, List.foldl_append]; rfl
theorem lawStep_len (t : Kh.T) (f : List (List Nat)) (m : List Nat) : (lawStep t f m).length ≤ f.length + 1 := by
  unfold lawStep; split <;> simp
theorem fold_len (t : Kh.T) : ∀ (L f : List (List Nat)), (L.foldl (lawStep t) f).length ≤ f.length + L.length
  | [], f => Nat.le_refl _
  | m :: L, f => by
    have h1 := fold_len t L (lawStep t f m)
    have h2 := lawStep_len t f m
    rw [List.foldl_cons, List.length_cons]; omega
theorem fold_sub (t : Kh.T) (ns : List Nat) : ∀ (L f : List (List Nat)), (∀ m ∈ f, m.Sublist ns) → (∀ m ∈ L, m.Sublist ns) → ∀ m ∈ L.foldl (lawStep t) f, m.Sublist ns
  | [], f, h1, _, m, hm => h1 m hm
  | l :: L, f, h1, h2, m, hm => by
    rw [List.foldl_cons] at hm
    refine fold_sub t ns L _ (fun x hx => ?_) (fun x hx => h2 x (List.mem_cons_of_mem _ hx)) m hm
    unfold lawStep at hx
    split at hx
    · rcases List.mem_append.mp hx with hx | hx
      · exact h1 x hx
      · rw [List.mem_singleton.mp hx]; exact h2 l List.mem_cons_self
    · exact h1 x hx
/-- the law's meetings, out of all lists below n, are the meetings -/
theorem law_perm {t : Kh.T} {n : Nat} (wf : Wf t) (lt : ∀ m ∈ mem t, m < n) : ((llists (List.range n)).foldl (lawStep t) []).Perm (meets t) := by
  have rs : (List.range n).Pairwise (· < ·) := List.pairwise_lt_range
  have nd : (List.range n).Nodup := List.nodup_range
  rw [law_meets rs _ (fun m hm => llists_mem.mp hm) (fun m hm => llists_mem.mpr hm) ((llists_perm _).nodup_iff.mpr (lists_nodup _ nd)) ((PySem.W.sort_pairwise leP_total _).imp fun h => leP_len h)]
  refine ((llists_perm _).filter _).trans ?_
  unfold meets
  refine (List.perm_ext_iff_of_nodup (List.Pairwise.filter _ (lists_nodup _ nd)) (List.Pairwise.filter _ (lists_nodup _ (mem_nodup t)))).mpr fun m => ?_
  rw [List.mem_filter, List.mem_filter, lists_mem, lists_mem]
  refine and_congr_left fun hb => ⟨fun h => ?_, fun h => ?_⟩
  · obtain ⟨b1, b2⟩ := barely_iff.mp hb
    refine rise_sub m (mem t) (rs.sublist h) (mem_rise t) fun k hk => (mem_iff wf k).mpr ?_
    refine Classical.byContradiction fun hc => ?_
    have e := b2 k hk
    rw [st_same (s' := m) fun x hx => ⟨fun z => (less_mem.mp z).1, fun z => less_mem.mpr ⟨z, fun e => hc (by rw [← e]; exact hx)⟩⟩, b1] at e
    cases e
  · exact rise_sub m (List.range n) ((mem_rise t).sublist h) rs fun k hk => List.mem_range.mpr (lt k (h.subset hk))
theorem any_isE {f : List (List Nat)} {m : List Nat} : (f.map fun l => (l.map fun n => decide (n ∈ m)).all id).any id = !decide ((f.filter fun l => (l.map fun n => decide (n ∈ m)).all id) = []) := by
  induction f with
  | nil => rfl
  | cons l f ih =>
    rw [List.map_cons, List.any_cons, ih, List.filter_cons]
    cases h : (l.map fun n => decide (n ∈ m)).all id with
    | true => rw [if_pos rfl]; simp
    | false => rw [if_neg Bool.false_ne_true]; simp
section
variable {P : Program} {w : World} {K : PySem.W.Frag} {mg : Str → Option Value} {base : Heap} {a : Nat → Addr} {fd : Nat → FuncData} {C : Addr} {tk : Nat → Tok}
theorem sort_tt {S : Addr → Prop} {H : Hp} {x : V} {L : List (List Nat)} {t : Kh.T} {Q : VK} (kn : Kn S H) (hx : Dp K (off S H) x (nTT L)) (hne : ∀ m ∈ L, m ≠ []) (hp : L.Perm (meets t))
    (q : ∀ u H', Same H H' → Dp K (off S H') u (nTT (smeets t)) → Q u H') : rSortM K [x] H Q :=
  sort_m (le := leL) (f := nT) (fun a _ b _ => leT_eq a b) kn hx (fun a _ b _ => alike_nT a b) (.inl fun d hd => by
    obtain ⟨m, hm, rfl⟩ := List.mem_map.mp hd
    cases m with
    | nil => exact (hne _ hm rfl).elim
    | cons z r => exact ⟨_, _, rfl⟩) (fun a _ => depth_nT a) fun u H' s' d => q u H' s' (by rw [smeets_of hp] at d; exact d)
theorem catA_d {S : Addr → Prop} {H : Hp} {x y : V} {m l : List Nat} {Q : VK} (kn : Kn S H) (hx : Dp K (off S H) x (nT m)) (hy : Dp K (off S H) y (nT l)) (hz : m.length + l.length ≤ 100000)
    (q : ∀ u H', Same H H' → Dp K (off S H') u (nT (m ++ l)) → Q u H') : rCatA K x y H Q := by
  obtain ⟨a1, xs, rfl, h1, d1⟩ := tup_at hx
  obtain ⟨a2, ys, rfl, h2, d2⟩ := tup_at hy
  have l1 := dpa_len d1
  have l2 := dpa_len d2
  rw [List.length_map] at l1 l2
  refine ⟨a1, a2, xs, ys, rfl, rfl, same_t off_sub h1, same_t off_sub h2, Nat.le_trans (show xs.length + ys.length ≤ 100000 by omega) (by decide), fun e => ?_, fun _ e => ?_, fun _ _ p hp => ?_⟩
  · subst e
    have : m = [] := List.eq_nil_of_length_eq_zero l1.symm
    subst this
    exact q _ _ (Same.refl _) hy
  · subst e
    have : l = [] := List.eq_nil_of_length_eq_zero l2.symm
    subst this
    exact q _ _ (Same.refl _) (by rw [List.append_nil]; exact hx)
  · refine q _ _ (same_new hp) ?_
    have := dp_newT (K := K) kn hp (dpa_app d1 d2)
    rw [← List.map_append] at this
    exact this
def spMeet (K : PySem.W.Frag) : Sp := fun vs H Q _ => ∃ (S : Addr → Prop) (v : V) (t : Kh.T) (n : Nat), vs = [v, .int (n : Nat)] ∧ Kn S H ∧ Dp K (off S H) v (tD t) ∧ GdT n t ∧ n ≤ 6 ∧
  ∀ u H', Same H H' → Dp K (off S H') u (nTT (smeets t)) → Q u H'
theorem ok__law_meetings (T : Txt K mg a fd C tk) : FnOk P w K mg base CX0 8 (a 43) (fd 43) ["_law_shape_here", "_law_many"] (spMeet K) := by
  have G__law_stands := ok__law_stands (P := P) (w := w) (base := base) T 6
  have G__law_is_within := ok__law_is_within (P := P) (w := w) (base := base) T
  refine T.F__law_meetings.ok sc__law_meetings (fun vs H Q E h => by obtain ⟨_, _, _, _, rfl, _⟩ := h; rfl) (fun cdv A outer s H vs Q E hr h => ?_)
  obtain ⟨S, v, t, n, rfl, kn, hd, gd, n6, q⟩ := h
  refine ⟨_, (pss_cons (ps_par (i := 2) (j := 3) (by rfl) sc__law_meetings.nd rfl rfl (by decide) rfl rfl (pa_cons (pe_lst (pa_cons (pe_tup pa_nil) pa_nil)) (pa_cons (pe_lst pa_nil) pa_nil)) (by rfl))
      (pss_cons (ps_for PassesOwn.never rfl (pi_range1 (by rfl) T.z_range (pa_cons (pv 1) pa_nil)) (pg_name (i := 4) sc__law_meetings.nd rfl (Or.inr rfl))
        (pss_one (ps_set (i := 2) sc__law_meetings.nd rfl (Or.inl rfl) (pe_op (k_catS (K := K)) (pv 2) (pe_lc (own := [("_law_lot", 5)]) (g := gName 5) (tt := tYes) rfl sc__law_meetings.nd (k_pi (K := K) (pv 2)) (blkOk_by (own := [("_law_lot", 5)]) (N := _law_meetings_N) (sc := defScope _law_meetings_s) (by decide +kernel)) (fun _ _ _ _ _ => (pg_name (i := 5) sc__law_meetings.nd rfl (Or.inl rfl))) (fun _ _ _ _ _ => pts_nil) (fun _ _ _ _ _ => (pe_op (k_catA (K := K)) (pv 5) (pe_tup (pa_cons (pv 4) pa_nil)))))))))
      (pss_cons (ps_for PassesOwn.never rfl (k_pi (K := K) (pe_callB (k_sortM (K := K) hr.units) (by rfl) T.z_sorted (by decide +kernel) (pa_cons (pe_lc (own := [("_law_lot", 5)]) (g := gName 5) (tt := tYes) rfl sc__law_meetings.nd (k_pi (K := K) (pv 2)) (blkOk_by (own := [("_law_lot", 5)]) (N := _law_meetings_N) (sc := defScope _law_meetings_s) (by decide +kernel)) (fun _ _ _ _ _ => (pg_name (i := 5) sc__law_meetings.nd rfl (Or.inl rfl))) (fun _ _ _ _ _ => pts_nil) (fun _ _ _ _ _ => (pe_tup (pa_cons (pe_callB (k_len (K := K)) (by rfl) T.z_len (by decide +kernel) (pa_cons (pv 5) pa_nil)) (pa_cons (pv 5) pa_nil))))) pa_nil))) (pg_name (i := 5) sc__law_meetings.nd rfl (Or.inr rfl))
        (pss_one (ps_if (PW.pt (pw_and (pt_val (pe_call G__law_stands (hr.mono (by omega)) (by rfl) T.m__law_stands T.F__law_stands.kp T.b__law_stands .nil pass0 (pa_cons (pv 0) (pa_cons (pe_ix (k_ix (K := K)) (pv 5) pe_int (fun _ _ => rfl)) pa_nil)))) (pw_and1 (pt_not (pt_val (pe_callB (k_any (K := K) rfl) (by rfl) T.z_any (by decide +kernel) (pa_cons (pe_lc (own := [("_law_one", 6)]) (g := gName 6) (tt := tYes) rfl sc__law_meetings.nd (k_pi (K := K) (pv 3)) (blkOk_by (own := [("_law_one", 6)]) (N := _law_meetings_N) (sc := defScope _law_meetings_s) (by decide +kernel)) (fun _ _ _ _ _ => (pg_name (i := 6) sc__law_meetings.nd rfl (Or.inl rfl))) (fun _ _ _ _ _ => pts_nil) (fun _ _ _ _ _ => (pe_call G__law_is_within (hr.mono (by omega)) (by rfl) T.m__law_is_within T.F__law_is_within.kp T.b__law_is_within .nil pass0 (pa_cons (pv 6) (pa_cons (pe_ix (k_ix (K := K)) (pv 5) pe_int (fun _ _ => rfl)) pa_nil))))) pa_nil)))))))
          (pss_one (ps_expr (pe_bm PySem.F.plainAttrs_list PySem.F.slot_list_append PySem.F.type_list_append mt_append (pv 3) (pa_cons (pe_ix (k_ix (K := K)) (pv 5) pe_int (fun _ _ => rfl)) pa_nil)))) pss_nil)))
      (pss_one (ps_ret (pe_callB (k_sortM (K := K) hr.units) (by rfl) T.z_sorted (by decide +kernel) (pa_cons (pv 3) pa_nil))))))), ?_⟩
  refine s_seq (a_cons (t_lst (a_cons (t_tup (a_nil ⟨Nat.zero_le _, fun E0 hE => a_nil ⟨le1, fun F hF => ?_⟩⟩)))))
  have sE := same_new (o := HO.tup []) hE
  have dE : Dp K (off S (upd H E0 (.tup []))) (.ref E0) (nT []) := dp_newT (K := K) kn hE .nil
  have dF := dp_newL (kn.same sE) hF (.cons dE .nil)
  have sF := sE.trans (same_new (o := HO.lst [V.ref E0]) hF)
  generalize upd (upd H E0 (.tup [])) F (.lst [.ref E0]) = H1 at *
  have kn1 := kn.same sF
  refine a_cons (t_lst0 fun D hD => a_nil ⟨_, _, rfl, nx_of ?_⟩)
  have s0 := same_new (o := HO.lst []) hD
  have kn0 : Kn (plus S D) (upd H1 D (.lst [])) := (kn1.same s0).plus (some_ne (upd_same (o := HO.lst [])))
  have hU : (upd H1 D (.lst [])) D = some (.lst []) := upd_same
  have dF0 := dp_same (off_plus hD s0) _ _ dF
  have hd0 := dp_same (off_plus hD s0) _ _ (dp_same (off_same sF) _ _ hd)
  generalize upd H1 D (.lst []) = H2 at *
  have rl : ∀ i, (List.range i).length = i := fun i => List.length_range
  refine s_seq ?_
  show iRng1 (tCons (tVar 1) tNil) _ _ _
  refine r_rng (a_cons (t_var rfl (a_nil ⟨n, rfl, by omega, by omega, ?_⟩)))
  refine for_it walk_range (fun i σ' H' => ∃ (F : V) (x4 x5 : Option V), σ' = [some v, some (.int (n : Nat)), some F, some (.ref D), x4, x5, none] ∧ Same H2 H' ∧ Dp K (off (plus S D) H') F (nTT (lists (List.range i)))) ⟨_, _, _, rfl, Same.refl _, dF0⟩ (fun _ _ _ _ _ => trivial) ?_ ?_
  · rintro i x0 σ' Ha Hb hi ⟨F', x4, x5, rfl, sa, da⟩ ⟨rfl, rfl⟩
    have hi' : i < n := by simpa using hi
    have l256 := lists_len8 (ns := List.range i) (by rw [rl]; omega)
    have kna := kn0.same sa
    show gName 4 (V.int (0 + ((i : Nat) : Int))) _ _ _
    rw [Int.zero_add]
    refine g_name (s_set (t_op (t_var rfl (lcM false (lists (List.range i)) nT (fun m => nT (m ++ [i])) kna (fun Q q => t_var rfl (q _ _ (Same.refl _) da)) (by omega) (fun _ => rfl) (fun m hm x H3 S3 s3 kn3 dx hS ho Q q => ?_) fun L H3 ys hL s3 hL3 h3 => ?_))))
    · refine t_op (t_var rfl (t_tup (a_cons (t_var rfl (a_nil ⟨le1, fun p hp => ?_⟩)))))
      have ml := ((lists_mem _ m).mp hm).length_le
      rw [rl] at ml
      have sp := same_new (o := HO.tup [V.int (i : Nat)]) hp
      exact catA_d (l := [i]) (kn3.same sp) (dp_same (off_same sp) _ _ dx) (dp_newT kn3 hp (.cons (.int _) .nil)) (by show m.length + 1 ≤ 100000; omega) fun u H5 s5 d5 => q u H5 (sp.trans s5) d5
    · refine cat_d (ds := (lists (List.range i)).map nT) (es := (lists (List.range i)).map fun m => nT (m ++ [i])) (kna.same s3) (dp_same (off_same s3) _ _ da) h3 (by rw [List.length_map, List.length_map]; omega) fun u H5 s5 d5 => nx_of ⟨u, _, _, rfl, sa.trans (s3.trans s5), ?_⟩
      have e : nTT (lists (List.range (i + 1))) = .list ((lists (List.range i)).map nT ++ (lists (List.range i)).map fun m => nT (m ++ [i])) := by
        show PyData.list ((lists (List.range (i + 1))).map nT) = _
        rw [List.range_succ, lists_snoc, List.map_append, List.map_map]; rfl
      rw [e]; exact d5
  rintro σ' H3 ⟨F', x4, x5, rfl, s3, dL⟩
  have hD3 := s3 _ _ hU
  have kn3 := kn0.same s3
  have hd3 := dp_same (off_same s3) _ _ hd0
  have l256 := lists_len8 (ns := List.range n) (by rw [rl]; omega)
  have ll256 := llists_len8 (ns := List.range n) (by rw [rl]; omega)
  refine nx_of (s_seq (forM (S := plus S D) false (llists (List.range n)) dPair kn3 (fun Q q => ?_) fun H4 s4 kn4 => ?_))
  · refine t_cb1 (lcM false (lists (List.range n)) nT dPair kn3 (fun Q q => t_var rfl (q _ _ (Same.refl _) dL)) (by omega) (fun _ => rfl) (fun m hm x H4 S4 s4 kn4 dx hS ho Q q => ?_) fun L H4 ys hL s4 hL4 h4 => ?_)
    · refine t_tup (a_cons (t_cb1 (t_var rfl (len_d off_sub dx (ds := m.map nD) rfl (a_cons (t_var rfl (a_nil ⟨le2, fun p hp => q _ _ (same_new hp) ?_⟩)))))))
      rw [List.length_map]
      exact dp_newT kn4 hp (.cons (.int _) (.cons dx .nil))
    · refine sort_m (le := leP) (fun _ _ _ _ => rfl) (kn3.same s4) h4 (fun a _ b _ => alike_pair a b) (.inl fun d hd => ?_) (fun a _ => depth_pair a) fun u H5 s5 d5 => q u H5 (s4.trans s5) d5
      obtain ⟨m, _, rfl⟩ := List.mem_map.mp hd
      exact ⟨_, _, rfl⟩
  refine ⟨fun i σ' H' => ∃ vs x4 x5, σ' = [some v, some (.int (n : Nat)), some F', some (.ref D), x4, x5, none] ∧ H' D = some (.lst vs) ∧ DpAll K (off (plus S D) H') vs ((((llists (List.range n)).take i).foldl (lawStep t) []).map nT) ∧ SameBut D H4 H', ⟨[], _, _, rfl, s4 _ _ hD3, .nil, sbut (Same.refl _)⟩, fun i σ' H' ⟨_, _, _, _, _, _, sb⟩ => off_sb sb, ?_, ?_⟩
  · rintro i m x σ' H' mi hi hm dx ⟨vs, x4', x5', rfl, hv, dv, sb⟩
    have knH : Kn (plus S D) H' := fun c z => by
      by_cases e : c = D
      · subst e; exact some_ne hv
      · cases h : H4 c with
        | none => exact (kn4 c z h).elim
        | some o => rw [sb c o e h]; exact fun z => nomatch z
    have dx' := dp_same (off_but sb) _ _ dx
    have hd' := dp_same (off_but sb) _ _ (dp_same (off_same s4) _ _ hd3)
    have stp := fold_take (t := t) mi
    have fl := fold_len t ((llists (List.range n)).take i) []
    have fs := fold_sub t (List.range n) ((llists (List.range n)).take i) [] (fun _ h => nomatch h) (fun m hm => llists_mem.mp (List.mem_of_mem_take hm))
    have ml := (llists_mem.mp hm).length_le
    rw [rl] at ml
    rw [List.length_take, List.length_nil] at fl
    refine g_name (s_if (b_and (b_val (t_call2 (t_var rfl (t_op (t_var rfl (t_c (ix_d (i := 1) off_sub dx' rfl rfl fun u1 du1 => ⟨plus S D, (t, true, m), knH, .cons hd' (.cons du1 .nil), preOf gd.ok, fun b H5 s5 db => ?_⟩)))))))))
    replace db : Dp K (off (plus S D) H5) b (.bool (st m t)) := db
    cases db
    have sb5 : SameBut D H4 H5 := fun c o n h => s5 c o (sb c o n h)
    have hv5 := s5 _ _ hv
    have dv5 := dpa_same (off_same s5) _ _ dv
    cases est : st m t with
    | false =>
      refine ⟨_, rfl, ifF rfl (ifF rfl (s_next ⟨vs, _, _, rfl, hv5, ?_, sb5⟩))⟩
      rw [stp]
      unfold lawStep
      rw [if_neg (by rw [est]; exact fun z => nomatch z.1)]
      exact dv5
    | true =>
      generalize hf : ((llists (List.range n)).take i).foldl (lawStep t) [] = f at *
      have kn5 : Kn S H5 := fun c hc => (knH.same s5) c (.inl hc)
      have nD' : ¬ S D := (kn.same sF).new hD
      have dD : Dp K (off S H5) (.ref D) (nTT f) := dp_lst nD' hv5 (dpa_same off_fin _ _ dv5)
      have dm5 : Dp K (off S H5) x (dPair m) := dp_same off_fin _ _ (dp_same (off_same s5) _ _ dx')
      refine ⟨_, rfl, ifT rfl (b_not (b_val (t_cb1 (lcM false f nT (fun l => .bool ((l.map fun n => decide (n ∈ m)).all id)) kn5 (fun Q q => t_var rfl (q _ _ (Same.refl _) dD)) (by omega) (fun _ => rfl) (fun l hl y H6 S6 s6 kn6 dy hS ho Q q => ?_) fun L H6 ys hL s6 hL6 h6 => ?_))))⟩
      · have ll := (fs l hl).length_le
        rw [rl] at ll
        exact t_call2 (t_var rfl (t_op (t_var rfl (t_c (ix_d (i := 1) off_sub (dp_same ho _ _ dm5) rfl rfl fun u2 du2 => ⟨S6, (l, m), kn6, .cons dy (.cons du2 .nil), (by show l.length ≤ 1000; omega), fun b Hb sb db => q b Hb sb db⟩)))))
      · have hv6 := s6 _ _ hv5
        have sb6 : SameBut D H4 H6 := fun c o n h => s6 c o (sb5 c o n h)
        refine any_d (bs := f.map fun l => (l.map fun n => decide (n ∈ m)).all id) off_sub (by rw [List.map_map]; exact h6) ⟨_, rfl, ?_⟩
        rw [any_isE]
        have lvs := dpa_len dv5
        rw [List.length_map] at lvs
        by_cases em : (f.filter fun l => (l.map fun n => decide (n ∈ m)).all id) = []
        · have stp2 : lawStep t f m = f ++ [m] := by
            unfold lawStep
            rw [if_pos ⟨est, em⟩]
          refine ifT (by rw [decide_eq_true em]; rfl) ?_
          refine s_drop (t_bm (t_var rfl ⟨.inl ⟨rfl, _, sqL hv6⟩, a_cons (t_op (t_var rfl (t_c (ix_d (i := 1) off_sub (dp_same (off_same (s5.trans s6)) _ _ dx') rfl rfl fun u2 du2 => a_nil ⟨D, _, _, rfl, rfl, hv6, Nat.lt_of_le_of_lt (show vs.length ≤ 1000 by omega) (by decide), nx_of ⟨vs ++ [u2], _, _, rfl, upd_same, ?_, bmut sb6⟩⟩))))⟩))
          rw [off_mut (show plus S D D from .inr rfl), stp, stp2, List.map_append]
          exact dpa_app (dpa_same (off_same s6) _ _ dv5) (.cons du2 .nil)
        · have stp2 : lawStep t f m = f := by
            unfold lawStep
            rw [if_neg fun z => em z.2]
          refine ifF (by rw [decide_eq_false em]; rfl) (s_next ⟨vs, _, _, rfl, hv6, ?_, sb6⟩)
          rw [stp, stp2]
          exact dpa_same (off_same s6) _ _ dv5
  · rintro σ' H' ⟨vs, x4', x5', rfl, hv, dv, sb⟩
    rw [List.take_length] at dv
    have sH : Same H H' := fun c o h => sb c o (ne_of_none (sF c o h) hD) (s4 c o (s3 c o (s0 c o (sF c o h))))
    have pm := law_perm gd.ok.1 gd.lt
    exact nx_of (s_ret (t_cb1 (t_var rfl (sort_tt (kn.same sH) (dp_lst ((kn.same sF).new hD) hv (dpa_same off_fin _ _ dv)) (fun m hm e => by
      have hb := (meets_mem.mp (pm.mem_iff.mp hm)).2
      rw [e] at hb
      have := (barely_iff.mp hb).1
      rw [st_nil t gd.ok.1] at this
      cases this) pm fun u H6 s6 d6 => q u H6 (sH.trans s6) d6))))
end
end K31

set_option maxRecDepth 100000
set_option maxHeartbeats 4000000
namespace K31
open PySem PySem.Spec PyProof.Rows L2 Kh
theorem val_at {k : Key} {u : V} {post : List (Key × V)} : ∀ {pre : List (Key × V)}, k ∉ pre.map Prod.fst → valV (pre ++ (k, u) :: post) k = some u
  | [], _ => valV_pos rfl
  | p :: r, h => by
    rw [List.map_cons, List.mem_cons, not_or] at h
    rw [List.cons_append, valV_neg fun e => h.1 e.symm]
    exact val_at h.2
theorem val_none {k : Key} : ∀ {kvs : List (Key × V)}, k ∉ kvs.map Prod.fst → valV kvs k = none
  | [], _ => rfl
  | p :: r, h => by
    rw [List.map_cons, List.mem_cons, not_or] at h
    rw [valV_neg fun e => h.1 e.symm]
    exact val_none h.2
theorem put_at {k : Key} {u v : V} {pre post : List (Key × V)} (h1 : k ∉ pre.map Prod.fst) (h2 : k ∉ post.map Prod.fst) : putK (pre ++ (k, u) :: post) k v = pre ++ (k, v) :: post := by
  have same : ∀ l : List (Key × V), k ∉ l.map Prod.fst → (l.map fun kv => if kv.1 = k then (kv.1, v) else kv) = l := fun l h =>
    (List.map_congr_left fun p hp => if_neg fun e => h (by rw [← e]; exact List.mem_map_of_mem hp)).trans (List.map_id _)
  unfold putK
  rw [if_pos (by simp), List.map_append, List.map_cons, same _ h1, same _ h2]
  simp
theorem merge_nd : ∀ {more kvs : List (Key × V)}, ((kvs ++ more).map Prod.fst).Nodup → mergeK kvs more = kvs ++ more
  | [], kvs, _ => by rw [List.append_nil]; rfl
  | p :: r, kvs, h => by
    have h2 : p.1 ∉ kvs.map Prod.fst := by
      rw [List.map_append, List.nodup_append] at h
      exact fun z => h.2.2 _ z p.1 (by rw [List.map_cons]; exact List.mem_cons_self) rfl
    show mergeK (putK kvs p.1 p.2) r = _
    rw [putK_new p.2 (val_none h2), merge_nd (by rw [List.append_assoc]; exact h), List.append_assoc]
    rfl
theorem merge_snoc {kvs : List (Key × V)} {k : Key} {v : V} (h : (kvs.map Prod.fst).Nodup) : mergeK [] (kvs ++ [(k, v)]) = putK kvs k v := by
  have e := merge_nd (more := kvs) (kvs := []) h
  unfold mergeK at e ⊢
  rw [List.foldl_append, e]; rfl
theorem nin {l : List Key} {k : Key} (h : (l ++ [k]).Nodup) : k ∉ l := fun z => (List.nodup_append.mp h).2.2 k z k List.mem_cons_self rfl
abbrev k5 (x1 x2 x3 x4 x5 : V) : List (Key × V) := [(.inr "many", x1), (.inr "reading", x2), (.inr "writing", x3), (.inr "writers", x4), (.inr "back", x5)]
theorem merge5 {x1 x2 x3 x4 x5 : V} : mergeK [] (k5 x1 x2 x3 x4 x5) = k5 x1 x2 x3 x4 x5 := merge_nd (kvs := []) (show ([.inr "many", .inr "reading", .inr "writing", .inr "writers", .inr "back"] : List Key).Nodup by decide +kernel)
/-- what a model holds -/
def kM (n : Nat) (xr xw : V) (wr bk : Str) (xa xp : V) : List (Key × V) := [(.inr "many", .int (n : Nat)), (.inr "reading", xr), (.inr "writing", xw), (.inr "writers", .str wr), (.inr "back", .str bk), (.inr "asks", xa), (.inr "puts", xp)]
abbrev keysM : List Key := [.inr "many", .inr "reading", .inr "writing", .inr "writers", .inr "back", .inr "asks", .inr "puts"]
theorem keysM_nd : keysM.Nodup := by decide +kernel
theorem kM_nd {n : Nat} {xr xw : V} {wr bk : Str} {xa xp : V} : ((kM n xr xw wr bk xa xp).map Prod.fst).Nodup := keysM_nd
section
variable {H : Hp} {x : Addr} {n : Nat} {xr xw : V} {wr bk : Str} {xa xp : V} {σ : L2.St} {i : Nat} {Q : VK}
theorem get_M {k : Key} {u : V} (e : H x = some (.dK (kM n xr xw wr bk xa xp))) (h : valV (kM n xr xw wr bk xa xp) k = some u) : DGet H x (kV k) (some u) := by
  have g := DGet.k (k := k) e
  rw [h] at g; exact g
theorem v_many : valV (kM n xr xw wr bk xa xp) (.inr "many") = some (.int (n : Nat)) := val_at (pre := []) (nin (l := []) (k := .inr "many") (by decide +kernel))
theorem v_reading : valV (kM n xr xw wr bk xa xp) (.inr "reading") = some xr := val_at (pre := [(.inr "many", .int (n : Nat))]) (nin (l := [.inr "many"]) (k := .inr "reading") (by decide +kernel))
theorem v_writing : valV (kM n xr xw wr bk xa xp) (.inr "writing") = some xw := val_at (pre := [(.inr "many", .int (n : Nat)), (.inr "reading", xr)]) (nin (l := [.inr "many", .inr "reading"]) (k := .inr "writing") (by decide +kernel))
theorem v_writers : valV (kM n xr xw wr bk xa xp) (.inr "writers") = some (.str wr) := val_at (pre := [(.inr "many", .int (n : Nat)), (.inr "reading", xr), (.inr "writing", xw)]) (nin (l := [.inr "many", .inr "reading", .inr "writing"]) (k := .inr "writers") (by decide +kernel))
theorem v_back : valV (kM n xr xw wr bk xa xp) (.inr "back") = some (.str bk) := val_at (pre := [(.inr "many", .int (n : Nat)), (.inr "reading", xr), (.inr "writing", xw), (.inr "writers", .str wr)]) (nin (l := [.inr "many", .inr "reading", .inr "writing", .inr "writers"]) (k := .inr "back") (by decide +kernel))
theorem v_asks : valV (kM n xr xw wr bk xa xp) (.inr "asks") = some xa := val_at (pre := [(.inr "many", .int (n : Nat)), (.inr "reading", xr), (.inr "writing", xw), (.inr "writers", .str wr), (.inr "back", .str bk)]) (nin (l := [.inr "many", .inr "reading", .inr "writing", .inr "writers", .inr "back"]) (k := .inr "asks") (by decide +kernel))
theorem v_puts : valV (kM n xr xw wr bk xa xp) (.inr "puts") = some xp := val_at (pre := [(.inr "many", .int (n : Nat)), (.inr "reading", xr), (.inr "writing", xw), (.inr "writers", .str wr), (.inr "back", .str bk), (.inr "asks", xa)]) (nin (l := [.inr "many", .inr "reading", .inr "writing", .inr "writers", .inr "back", .inr "asks"]) (k := .inr "puts") (by decide +kernel))
theorem t_dg {s : Str} {u : V} (hv : σ[i]? = some (some (.ref x))) (e : H x = some (.dK (kM n xr xw wr bk xa xp))) (h : valV (kM n xr xw wr bk xa xp) (.inr s) = some u) (q : Q u H) : tDGet (tVar i) (tC (.str s)) σ H Q :=
  t_var hv (t_c ⟨x, u, rfl, get_M (k := .inr s) e h, q⟩)
end
/-- a model: a rule's five things; six houses for some that are put away again -/
structure Md (v : Rul) : Prop where
  pos : 1 ≤ v.n
  six : v.n ≤ 6
  gr : GdT v.n v.r
  gw : GdT v.n v.w
  wr : v.wr = "one" ∨ v.wr = "many" ∨ v.wr = "blind"
  bk : v.bk = "never" ∨ v.bk = "always" ∨ v.bk = "if unlike"
theorem Md.okr {v : Rul} (h : Md v) (h5 : v.n ≤ 5) : OkR v := ⟨h.pos, h5, h.gr.ok, h.gw.ok, h.gr.lt, h.gw.lt, h.gr.pre, h.gw.pre, h.wr, h.bk⟩
def MdAt (K : PySem.W.Frag) (H : Hp) (v : Rul) (la lp : List (List Nat)) (x : Addr) : Prop := ∃ xr xw xa xp, H x = some (.dK (kM v.n xr xw v.wr v.bk xa xp)) ∧ Dp K H xr (tD v.r) ∧ Dp K H xw (tD v.w) ∧ Dp K H xa (nTT la) ∧ Dp K H xp (nTT lp)
theorem MdAt.same {K : PySem.W.Frag} {H H' : Hp} {v : Rul} {la lp : List (List Nat)} {x : Addr} (h : MdAt K H v la lp x) (e : Same H H') : MdAt K H' v la lp x := by
  obtain ⟨xr, xw, xa, xp, h0, h1, h2, h3, h4⟩ := h
  exact ⟨xr, xw, xa, xp, e _ _ h0, dp_same e _ _ h1, dp_same e _ _ h2, dp_same e _ _ h3, dp_same e _ _ h4⟩
section
variable {P : Program} {w : World} {K : PySem.W.Frag} {mg : Str → Option Value} {base : Heap} {a : Nat → Addr} {fd : Nat → FuncData} {C R : Addr} {tk : Nat → Tok} {aW aB : Addr}
def spRuleOf (K : PySem.W.Frag) : Sp := fun vs H Q _ => ∃ (S : Addr → Prop) (v : Rul) (xr xw : V), vs = [.int (v.n : Nat), xr, xw, .str v.wr, .str v.bk] ∧ Kn S H ∧ Dp K (off S H) xr (tD v.r) ∧ Dp K (off S H) xw (tD v.w) ∧ Md v ∧
  ∀ x H', Same H H' → MdAt K (off S H') v (smeets v.r) (smeets v.w) x → Q (.ref x) H'
theorem ok__law_rule_of (T : Txt K mg a fd C tk) : FnOk P w K mg base CX0 9 (a 46) (fd 46) ["_law_many", "_law_reading", "_law_writing", "_law_writers", "_law_back"] (spRuleOf K) := by
  have G__law_meetings := ok__law_meetings (P := P) (w := w) (base := base) T
  refine T.F__law_rule_of.ok sc__law_rule_of (fun vs H Q E h => by obtain ⟨_, _, _, _, rfl, _⟩ := h; rfl) (fun cdv A outer s H vs Q E hr h => ?_)
  obtain ⟨S, v, xr, xw, rfl, kn, dr, dw, md, q⟩ := h
  have n6 := md.six
  refine ⟨_, (pss_cons (ps_set (i := 5) sc__law_rule_of.nd rfl (Or.inl rfl) (pe_disp (pps_cons pe_str (pv 0) (pps_cons pe_str (pv 1) (pps_cons pe_str (pv 2) (pps_cons pe_str (pv 3) (pps_cons pe_str (pv 4) pps_nil))))) (by rfl) (by rfl) (by intro h; cases h) (by decide)))
      (pss_cons (ps_asg (pe_tup (pa_cons (pe_call G__law_meetings (hr.mono (by omega)) (by rfl) T.m__law_meetings T.F__law_meetings.kp T.b__law_meetings .nil pass0 (pa_cons (pv 1) (pa_cons (pv 0) pa_nil))) (pa_cons (pe_call G__law_meetings (hr.mono (by omega)) (by rfl) T.m__law_meetings T.F__law_meetings.kp T.b__law_meetings .nil pass0 (pa_cons (pv 2) (pa_cons (pv 0) pa_nil))) pa_nil))) (pg_tup rfl (pgs_cons (pg_sub (pv 5) pe_str (set_dict (Nat.lt_of_le_of_lt (Nat.add_le_add_left (show 1 ≤ 64 by decide) _) hr.units))) (pgs_cons (pg_sub (pv 5) pe_str (set_dict (Nat.lt_of_le_of_lt (Nat.add_le_add_left (show 1 ≤ 64 by decide) _) hr.units))) pgs_nil))))
      (pss_one (ps_ret (pv 5))))), ?_⟩
  refine s_seq (s_set (fun p hp => ?_))
  have s0 := same_new (o := HO.dK []) hp
  refine t_c (t_var rfl (t_c (t_var rfl (t_c (t_var rfl (t_c (t_var rfl (t_c (t_var rfl ⟨upd_same, k5 (.int (v.n : Nat)) xr xw (.str v.wr) (.str v.bk), rfl, (show 5 ≤ 15 by decide), nx_of ?_⟩)))))))))
  rw [merge5]
  have s1 : Same H (upd (upd H p (.dK [])) p (.dK (k5 (.int (v.n : Nat)) xr xw (.str v.wr) (.str v.bk)))) := fun b o h => by rw [upd_ne (ne_of_none h hp)]; exact s0 b o h
  have hU : (upd (upd H p (.dK [])) p (.dK (k5 (.int (v.n : Nat)) xr xw (.str v.wr) (.str v.bk)))) p = some (.dK (k5 (.int (v.n : Nat)) xr xw (.str v.wr) (.str v.bk))) := upd_same
  generalize upd (upd H p (.dK [])) p (.dK (k5 (.int (v.n : Nat)) xr xw (.str v.wr) (.str v.bk))) = H1 at *
  have kn1 : Kn (plus S p) H1 := (kn.same s1).plus (some_ne hU)
  have dr1 := dp_same (off_plus hp s1) _ _ dr
  have dw1 := dp_same (off_plus hp s1) _ _ dw
  refine s_seq (t_tup (a_cons (t_call2 (t_var rfl (t_var rfl ⟨plus S p, xr, v.r, v.n, rfl, kn1, dr1, md.gr, n6, fun ua H2 s2 da => ?_⟩)))))
  refine a_cons (t_call2 (t_var rfl (t_var rfl ⟨plus S p, xw, v.w, v.n, rfl, kn1.same s2, dp_same (off_same s2) _ _ dw1, md.gw, n6, fun up H3 s3 dp' => a_nil ⟨le2, fun r hr0 => ?_⟩⟩)))
  have sr := same_new (o := HO.tup [ua, up]) hr0
  have s13 := (s2.trans s3).trans sr
  have hU3 := s13 _ _ hU
  have s23 := s3.trans sr
  have da3 := dp_same (off_same s23) _ _ da
  have dp3 := dp_same (off_same sr) _ _ dp'
  have dr3 := dp_same (off_same s13) _ _ dr1
  have dw3 := dp_same (off_same s13) _ _ dw1
  have hrt : (upd H3 r (.tup [ua, up])) r = some (.tup [ua, up]) := upd_same
  generalize upd H3 r (.tup [ua, up]) = H4 at *
  have p1 : putK (k5 (.int (v.n : Nat)) xr xw (.str v.wr) (.str v.bk)) (.inr "asks") ua = k5 (.int (v.n : Nat)) xr xw (.str v.wr) (.str v.bk) ++ [(.inr "asks", ua)] := putK_new _ (val_none (nin (l := [.inr "many", .inr "reading", .inr "writing", .inr "writers", .inr "back"]) (k := .inr "asks") (by decide +kernel)))
  have p2 : putK (k5 (.int (v.n : Nat)) xr xw (.str v.wr) (.str v.bk) ++ [(.inr "asks", ua)]) (.inr "puts") up = kM v.n xr xw v.wr v.bk ua up := putK_new _ (val_none (nin (l := [.inr "many", .inr "reading", .inr "writing", .inr "writers", .inr "back", .inr "asks"]) (k := .inr "puts") (by decide +kernel)))
  refine ⟨r, _, rfl, sqT hrt, rfl, _, _, rfl, ?_⟩
  refine t_var rfl (t_c ⟨p, _, rfl, DPut.k (k := .inr "asks") hU3 (Nat.lt_of_le_of_lt (show 5 ≤ 1000 by decide) (by decide)), ?_⟩)
  rw [p1]
  refine ⟨_, _, rfl, t_var rfl (t_c ⟨p, _, rfl, DPut.k (k := .inr "puts") upd_same (Nat.lt_of_le_of_lt (show 6 ≤ 1000 by decide) (by decide)), ⟨rfl, ?_⟩⟩)⟩
  rw [p2]
  refine nx_of (s_ret (t_var rfl (q p _ ?_ ?_)))
  · exact fun b o h => by rw [upd_ne (ne_of_none h hp), upd_ne (ne_of_none h hp)]; exact s13 b o (s1 b o h)
  · have so : off (plus S p) (upd (upd H4 p (.dK (k5 (.int (v.n : Nat)) xr xw (.str v.wr) (.str v.bk) ++ [(.inr "asks", ua)]))) p (.dK (kM v.n xr xw v.wr v.bk ua up))) = off (plus S p) H4 := by rw [off_mut (show plus S p p from .inr rfl), off_mut (show plus S p p from .inr rfl)]
    have mv : Same (off (plus S p) H4) (off S (upd (upd H4 p (.dK (k5 (.int (v.n : Nat)) xr xw (.str v.wr) (.str v.bk) ++ [(.inr "asks", ua)]))) p (.dK (kM v.n xr xw v.wr v.bk ua up)))) := by rw [← so]; exact off_fin
    exact ⟨xr, xw, ua, up, by rw [off_out (kn.new hp)]; exact upd_same, dp_same mv _ _ dr3, dp_same mv _ _ dw3, dp_same mv _ _ da3, dp_same mv _ _ dp3⟩
end
end K31

set_option maxRecDepth 100000
set_option maxHeartbeats 4000000
namespace K31
open PySem PySem.Spec PyProof.Rows L2 Kh
section
variable {P : Program} {w : World} {K : PySem.W.Frag} {mg : Str → Option Value} {base : Heap} {a : Nat → Addr} {fd : Nat → FuncData} {C R : Addr} {tk : Nat → Tok} {aW aB : Addr}
theorem t_mk {sp : Sp} {ta : TA} {dvs : List V} {σ : L2.St} {H : Hp} {Q : VK} (h : ta σ H fun vs H1 => ∀ x dx, H1 x = none → H1 dx = none → dx ≠ x → sp (.ref x :: (vs ++ dvs)) (upd (upd H1 dx (.own x)) x (.ins C dx [])) (fun v H2 => v = .non ∧ Q (.ref x) H2) E0) : tMake C sp dvs E0 ta σ H Q := h
/-- a rule is made: what the parameters are bound to -/
theorem bind_rule {S : Addr → Prop} {H1 : Hp} {x1 x2 x dx : Addr} {Q : VK} (v : Rul) (ok : OkR v) (kn : Kn S H1) (t1 : TreeAt K C (off S H1) v.r x1) (t2 : TreeAt K C (off S H1) v.w x2) (hx : H1 x = none) (hdx : H1 dx = none) (ne : dx ≠ x)
    (q : ∀ y H', Same H1 H' → RuleAt K C R (off S H') v y → H1 y = none → (∀ z1 z2 dy fs, H' y = some (.ins R dy fs) → fs = fldR v.n z1 z2 v.wr v.bk → z1 = x1 → True) → Q (.ref y) H') :
    spRInit K C R (.ref x :: [.int (v.n : Nat), .ref x1, .ref x2, .str v.wr, .str v.bk]) (upd (upd H1 dx (.own x)) x (.ins R dx [])) (fun u H2 => u = .non ∧ Q (.ref x) H2) E0 := by
  have sm := same_ins (o := HO.own x) (o' := HO.ins R dx []) hx hdx
  have hup : (upd (upd H1 dx (.own x)) x (.ins R dx [])) x = some (.ins R dx []) := upd_same
  refine ⟨plus S x, x, dx, x1, x2, v, rfl, (kn.same sm).plus (some_ne hup), .inr rfl, hup, t1.same (off_plus hx sm), t2.same (off_plus hx sm), ok, fun H' sb hx' => ⟨rfl, q x H' (fun b o h => sb b o (ne_of_none h hx) (sm b o h)) ⟨dx, x1, x2, ?_, ?_, ?_⟩ hx fun _ _ _ _ _ _ _ => trivial⟩⟩
  · rw [off_out (kn.new hx)]; exact hx'
  all_goals
    have mv : Same (off S H1) (off S H') := off_same fun b o h => sb b o (ne_of_none h hx) (sm b o h)
  · exact t1.same mv
  · exact t2.same mv
def spRule (K : PySem.W.Frag) (C R : Addr) : Sp := fun vs H Q _ => ∃ (S : Addr → Prop) (v : Rul) (la lp : List (List Nat)) (x : Addr), vs = [.ref x] ∧ Kn S H ∧ MdAt K (off S H) v la lp x ∧ Md v ∧ v.n ≤ 5 ∧
  ∀ y H', Same H H' → RuleAt K C R (off S H') v y → Q (.ref y) H'
theorem ok__law_rule (T : Txt K mg a fd C tk) (U : TxC K mg a C) (D : TxD K C) (W : TxR K mg a C R) (Y : TxV K mg aW aB) : FnOk P w K mg base CX0 10 (a 47) (fd 47) ["_law_model_here"] (spRule K C R) := by
  have G_Tree_init := ok_Tree_init (P := P) (w := w) (base := base) T U
  have G_Rule_init := ok_Rule_init (P := P) (w := w) (base := base) T U D W Y
  refine T.F__law_rule.ok sc__law_rule (fun vs H Q E h => by obtain ⟨_, _, _, _, _, rfl, _⟩ := h; rfl) (fun cdv A outer s H vs Q E hr h => ?_)
  obtain ⟨S, v, la, lp, x, rfl, kn, ⟨xr, xw, xa, xp, hx, dr, dw, da, dp'⟩, md, h5, q⟩ := h
  refine ⟨_, (pss_one (ps_ret (pe_make W.M_Rule G_Rule_init (hr.mono (by omega)) (by rfl) W.m_Rule T.b_Rule_init .nil pass0 (pa_cons (pe_dget (Nat.lt_of_le_of_lt (Nat.add_le_add_left (show 1 ≤ 64 by decide) _) hr.units) (pv 0) pe_str (fun _ _ => rfl)) (pa_cons (pe_make U.M_Tree G_Tree_init (hr.mono (by omega)) (by rfl) U.m_Tree T.b_Tree_init .nil pass0 (pa_cons (pe_dget (Nat.lt_of_le_of_lt (Nat.add_le_add_left (show 1 ≤ 64 by decide) _) hr.units) (pv 0) pe_str (fun _ _ => rfl)) pa_nil)) (pa_cons (pe_make U.M_Tree G_Tree_init (hr.mono (by omega)) (by rfl) U.m_Tree T.b_Tree_init .nil pass0 (pa_cons (pe_dget (Nat.lt_of_le_of_lt (Nat.add_le_add_left (show 1 ≤ 64 by decide) _) hr.units) (pv 0) pe_str (fun _ _ => rfl)) pa_nil)) (pa_cons (pe_dget (Nat.lt_of_le_of_lt (Nat.add_le_add_left (show 1 ≤ 64 by decide) _) hr.units) (pv 0) pe_str (fun _ _ => rfl)) (pa_cons (pe_dget (Nat.lt_of_le_of_lt (Nat.add_le_add_left (show 1 ≤ 64 by decide) _) hr.units) (pv 0) pe_str (fun _ _ => rfl)) pa_nil)))))))), ?_⟩
  have fx : ∀ {H' : Hp}, Same H H' → H' x = some (.dK (kM v.n xr xw v.wr v.bk xa xp)) := fun s => s _ _ (off_some hx).2
  refine s_ret (t_mk (a_cons (t_dg rfl (fx (Same.refl _)) v_many (a_cons (mk_tree v.r md.gr.ok kn (fun Q q => t_dg rfl (fx (Same.refl _)) v_reading (q _ _ (Same.refl _) dr)) fun x1 H1 s1 t1 => ?_)))))
  refine a_cons (mk_tree v.w md.gw.ok (kn.same s1) (fun Q q => t_dg rfl (fx s1) v_writing (q _ _ (Same.refl _) (dp_same (off_same s1) _ _ dw))) fun x2 H2 s2 t2 => ?_)
  have s12 := s1.trans s2
  refine a_cons (t_dg rfl (fx s12) v_writers (a_cons (t_dg rfl (fx s12) v_back (a_nil fun y dy hy hdy ne => ?_))))
  exact bind_rule v (md.okr h5) (kn.same s12) (t1.same (off_same s2)) t2 hy hdy ne fun z H' s' rz _ _ => q z H' (s12.trans s') rz
def spModel (K : PySem.W.Frag) : Sp := fun vs H Q _ => ∃ (S : Addr → Prop) (p : Addr), vs = [.ref p, .int 5] ∧ Kn S H ∧ S p ∧ PotAt H p ∧
  ∀ x H' v, SameBut p H H' → PotAt H' p → Md v → v.n ≤ 5 → MdAt K (off S H') v (smeets v.r) (smeets v.w) x → Q (.ref x) H'
theorem ok__law_model (T : Txt K mg a fd C tk) : FnOk P w K mg base CX0 10 (a 45) (fd 45) ["_law_pot_here", "_law_most"] (spModel K) := by
  have G__law_draw := ok__law_draw (P := P) (w := w) (base := base) T
  have G__law_pick := ok__law_pick (P := P) (w := w) (base := base) T
  have G__law_tree := ok__law_tree (P := P) (w := w) (base := base) T
  have G__law_rule_of := ok__law_rule_of (P := P) (w := w) (base := base) T
  refine T.F__law_model.ok sc__law_model (fun vs H Q E h => by obtain ⟨_, _, rfl, _⟩ := h; rfl) (fun cdv A outer s H vs Q E hr h => ?_)
  obtain ⟨S, p, rfl, kn, hS, hp, q⟩ := h
  refine ⟨_, (pss_cons (ps_set (i := 2) sc__law_model.nd rfl (Or.inl rfl) (pe_op op_add pe_int (pe_call G__law_draw (hr.mono (by omega)) (by rfl) T.m__law_draw T.F__law_draw.kp T.b__law_draw .nil pass0 (pa_cons (pv 0) (pa_cons (pv 1) pa_nil)))))
      (pss_cons (ps_set (i := 3) sc__law_model.nd rfl (Or.inl rfl) (pe_call G__law_pick (hr.mono (by omega)) (by rfl) T.m__law_pick T.F__law_pick.kp T.b__law_pick .nil pass0 (pa_cons (pv 0) (pa_cons (pe_lst (pa_cons pe_str (pa_cons pe_str (pa_cons pe_str (pa_cons pe_str (pa_cons pe_str pa_nil)))))) pa_nil))))
      (pss_cons (ps_set (i := 4) sc__law_model.nd rfl (Or.inl rfl) (pe_call G__law_pick (hr.mono (by omega)) (by rfl) T.m__law_pick T.F__law_pick.kp T.b__law_pick .nil pass0 (pa_cons (pv 0) (pa_cons (pe_lst (pa_cons pe_str (pa_cons pe_str (pa_cons pe_str pa_nil)))) pa_nil))))
      (pss_one (ps_ret (pe_call G__law_rule_of (hr.mono (by omega)) (by rfl) T.m__law_rule_of T.F__law_rule_of.kp T.b__law_rule_of .nil pass0 (pa_cons (pv 2) (pa_cons (pe_call G__law_tree (hr.mono (by omega)) (by rfl) T.m__law_tree T.F__law_tree.kp T.b__law_tree .nil pass0 (pa_cons (pv 0) (pa_cons (pv 2) pa_nil))) (pa_cons (pe_call G__law_tree (hr.mono (by omega)) (by rfl) T.m__law_tree T.F__law_tree.kp T.b__law_tree .nil pass0 (pa_cons (pv 0) (pa_cons (pv 2) pa_nil))) (pa_cons (pv 3) (pa_cons (pv 4) pa_nil))))))))))), ?_⟩
  refine s_seq (s_set (t_op (t_c (t_call2 (t_var rfl (t_var rfl ⟨p, 5, rfl, hp, by decide, by decide, fun r H1 hr5 sb1 pt1 => ⟨_, _, rfl, rfl, nx_of ?_⟩⟩))))))
  have e1 : (1 : Int) + ((r : Nat) : Int) = ((1 + r : Nat) : Int) := by omega
  refine s_seq (s_set (t_call2 (t_var rfl (t_lst (a_cons (t_c (a_cons (t_c (a_cons (t_c (a_cons (t_c (a_cons (t_c (a_nil ⟨le5, fun L hL => ?_⟩)))))))))))))))
  have nL : L ≠ p := fun e => pt1.some (e ▸ hL)
  refine ⟨p, L, [.str "one", .str "many", .str "one", .str "many", .str "blind"], rfl, pt1.same (same_new hL), fun H' sb => sqL (sb _ _ nL upd_same), (by decide), (by decide), fun d x H2 hx sb2 pt2 => nx_of ?_⟩
  obtain ⟨wr, rfl, hwr⟩ : ∃ wr : Str, x = .str wr ∧ (wr = "one" ∨ wr = "many" ∨ wr = "blind") := by
    have hm := List.mem_of_getElem? hx
    simp only [List.mem_cons, List.not_mem_nil, or_false] at hm
    rcases hm with rfl | rfl | rfl | rfl | rfl
    · exact ⟨_, rfl, .inl rfl⟩
    · exact ⟨_, rfl, .inr (.inl rfl)⟩
    · exact ⟨_, rfl, .inl rfl⟩
    · exact ⟨_, rfl, .inr (.inl rfl)⟩
    · exact ⟨_, rfl, .inr (.inr rfl)⟩
  have sb12 : SameBut p H H2 := sb_trans (sb_trans sb1 (sbut (same_new hL))) sb2
  refine s_seq (s_set (t_call2 (t_var rfl (t_lst (a_cons (t_c (a_cons (t_c (a_cons (t_c (a_nil ⟨le3, fun M hM => ?_⟩)))))))))))
  have nM : M ≠ p := fun e => pt2.some (e ▸ hM)
  refine ⟨p, M, [.str "never", .str "always", .str "if unlike"], rfl, pt2.same (same_new hM), fun H' sb => sqL (sb _ _ nM upd_same), (by decide), (by decide), fun d2 x2 H3 hx2 sb3 pt3 => nx_of ?_⟩
  obtain ⟨bk, rfl, hbk⟩ : ∃ bk : Str, x2 = .str bk ∧ (bk = "never" ∨ bk = "always" ∨ bk = "if unlike") := by
    have hm := List.mem_of_getElem? hx2
    simp only [List.mem_cons, List.not_mem_nil, or_false] at hm
    rcases hm with rfl | rfl | rfl
    · exact ⟨_, rfl, .inl rfl⟩
    · exact ⟨_, rfl, .inr (.inl rfl)⟩
    · exact ⟨_, rfl, .inr (.inr rfl)⟩
  have sb13 : SameBut p H H3 := sb_trans (sb_trans sb12 (sbut (same_new hM))) sb3
  have kn3 := kn_bt kn sb13 pt3.some
  refine s_ret (t_call (a_cons (t_var rfl (a_cons (t_call2 (t_var rfl (t_var rfl ⟨S, p, 1 + r, (by show [V.ref p, V.int ((1 : Int) + ((r : Nat) : Int))] = _; rw [e1]), kn3, hS, pt3, by omega, by omega, fun xr H4 tr sb4 pt4 gr dr => ?_⟩)))))))
  refine a_cons (t_call2 (t_var rfl (t_var rfl ⟨S, p, 1 + r, (by show [V.ref p, V.int ((1 : Int) + ((r : Nat) : Int))] = _; rw [e1]), kn_bt kn3 sb4 pt4.some, hS, pt4, by omega, by omega, fun xw H5 tw sb5 pt5 gw dw => ?_⟩)))
  refine a_cons (t_var rfl (a_cons (t_var rfl (a_nil ⟨S, ⟨1 + r, tr, tw, wr, bk⟩, xr, xw, (by show [V.int ((1 : Int) + ((r : Nat) : Int)), xr, xw, V.str wr, V.str bk] = _; rw [e1]), kn_bt (kn_bt kn3 sb4 pt4.some) sb5 pt5.some, dp_same (off_bt hS sb5) _ _ dr, dw, ⟨by show 1 ≤ 1 + r; omega, by show 1 + r ≤ 6; omega, gr, gw, hwr, hbk⟩, fun x6 H6 s6 m6 => ?_⟩))))
  exact q x6 H6 ⟨1 + r, tr, tw, wr, bk⟩ (sb_trans (sb_trans (sb_trans sb13 sb4) sb5) (sbut s6)) (pt5.same s6) ⟨by show 1 ≤ 1 + r; omega, by show 1 + r ≤ 6; omega, gr, gw, hwr, hbk⟩ (by show 1 + r ≤ 5; omega) m6
end
end K31

set_option maxRecDepth 100000
set_option maxHeartbeats 4000000
namespace K31
open PySem PySem.Spec PyProof.Rows L2 Kh
def parts (u v : Rul) : List (Str × PyData × PyData) := [("many", nD u.n, nD v.n), ("reading", tD u.r, tD v.r), ("writing", tD u.w, tD v.w), ("writers", .str u.wr, .str v.wr), ("back", .str u.bk, .str v.bk)]
open Classical in
theorem sameT_flg {t u : Kh.T} (h1 : flg false t = t) (h2 : flg false u = u) : sameT (flg true t) (flg true u) = sameT t u := by
  unfold sameT
  refine decide_eq_decide.mpr ⟨fun h => ?_, fun h => by rw [h]⟩
  have := congrArg (flg false) h
  rwa [flg_flg, flg_flg, h1, h2] at this
theorem eqv_strs (x y : Str) : PyData.eqv (.str x) (.str y) = decide (x = y) := by
  rw [PyData.eqv]
  by_cases h : x = y
  · subst h; simp
  · rw [decide_eq_false h]; exact beq_eq_false_iff_ne.mpr h
theorem parts_all {u v : Rul} (hu : Md u) (hv : Md v) : ((parts u v).map fun z => PyData.eqv z.2.1 z.2.2).all id = sameR u v := by
  unfold parts sameR
  rw [sameT_flg hu.gr.fl hv.gr.fl, sameT_flg hu.gw.fl hv.gw.fl]
  have e0 : PyData.eqv (nD u.n) (nD v.n) = decide (u.n = v.n) := by
    show PyData.eqv (.int ((u.n : Nat) : Int)) (.int ((v.n : Nat) : Int)) = _
    rw [PyData.eqv]
    by_cases h : u.n = v.n
    · rw [h]; simp
    · rw [decide_eq_false h]; exact beq_eq_false_iff_ne.mpr (by omega)
  simp only [List.map_cons, List.map_nil, List.all_cons, List.all_nil, id, e0, eqv_sameT, eqv_strs, Bool.and_true, Bool.and_assoc]
open Classical in
theorem sameR_comm (u v : Rul) : sameR u v = sameR v u := by
  unfold sameR sameT
  congr 1
  · congr 1
    · congr 1
      · congr 1
        · exact decide_eq_decide.mpr ⟨Eq.symm, Eq.symm⟩
        · exact decide_eq_decide.mpr ⟨Eq.symm, Eq.symm⟩
      · exact decide_eq_decide.mpr ⟨Eq.symm, Eq.symm⟩
    · exact decide_eq_decide.mpr ⟨Eq.symm, Eq.symm⟩
  · exact decide_eq_decide.mpr ⟨Eq.symm, Eq.symm⟩
section
variable {P : Program} {w : World} {K : PySem.W.Frag} {mg : Str → Option Value} {base : Heap} {a : Nat → Addr} {fd : Nat → FuncData} {C R : Addr} {tk : Nat → Tok} {aW aB : Addr}
theorem sh_wr {v : Rul} (h : Md v) : SeqAt.shaped (.str v.wr) = true := by
  rcases h.wr with h | h | h <;> rw [h] <;> decide +kernel
theorem sh_bk {v : Rul} (h : Md v) : SeqAt.shaped (.str v.bk) = true := by
  rcases h.bk with h | h | h <;> rw [h] <;> decide +kernel
theorem t_dgj {H : Hp} {σ : L2.St} {i j n : Nat} {x : Addr} {xr xw xa xp u : V} {wr bk s : Str} {Q : VK} (hv : σ[i]? = some (some (.ref x))) (hj : σ[j]? = some (some (.str s))) (e : H x = some (.dK (kM n xr xw wr bk xa xp))) (h : valV (kM n xr xw wr bk xa xp) (.inr s) = some u) (q : Q u H) : tDGet (tVar i) (tVar j) σ H Q :=
  t_var hv (t_var hj ⟨x, u, rfl, get_M (k := .inr s) e h, q⟩)
def spSame (K : PySem.W.Frag) : Sp := fun vs H Q _ => ∃ (S : Addr → Prop) (v u : Rul) (la lp lb lq : List (List Nat)) (x y : Addr), vs = [.ref x, .ref y] ∧ Kn S H ∧ MdAt K (off S H) v la lp x ∧ MdAt K (off S H) u lb lq y ∧ Md v ∧ Md u ∧
  ∀ H', Same H H' → Q (.bl (sameR u v)) H'
theorem ok__law_is_same (T : Txt K mg a fd C tk) : FnOk P w K mg base CX0 2 (a 50) (fd 50) ["_law_model_here", "_law_other"] (spSame K) := by
  refine T.F__law_is_same.ok sc__law_is_same (fun vs H Q E h => by obtain ⟨_, _, _, _, _, _, _, _, _, rfl, _⟩ := h; rfl) (fun cdv A outer s H vs Q E hr h => ?_)
  obtain ⟨S, v, u, la, lp, lb, lq, x, y, rfl, kn, ⟨xr, xw, xa, xp, hx, dr, dw, da, dp'⟩, ⟨yr, yw, ya, yp, hy, er, ew, ea, ep⟩, mv, mu, q⟩ := h
  refine ⟨_, (pss_one (ps_ret (pe_callB (k_all (K := K) rfl) (by rfl) T.z_all (by decide +kernel) (pa_cons (pe_lc (own := [("_law_part", 2)]) (g := gName 2) (tt := tYes) rfl sc__law_is_same.nd (k_pi (K := K) (pe_lst (pa_cons pe_str (pa_cons pe_str (pa_cons pe_str (pa_cons pe_str (pa_cons pe_str pa_nil))))))) (blkOk_by (own := [("_law_part", 2)]) (N := _law_is_same_N) (sc := defScope _law_is_same_s) (by decide +kernel)) (fun _ _ _ _ _ => (pg_name (i := 2) sc__law_is_same.nd rfl (Or.inl rfl))) (fun _ _ _ _ _ => pts_nil) (fun _ _ _ _ _ => (pe_cmpR (k_eqD (K := K) hr.units) (pe_dget (Nat.lt_of_le_of_lt (Nat.add_le_add_left (show 1 ≤ 64 by decide) _) hr.units) (pv 1) (pv 2) (fun _ _ => rfl)) (pe_dget (Nat.lt_of_le_of_lt (Nat.add_le_add_left (show 1 ≤ 64 by decide) _) hr.units) (pv 0) (pv 2) (fun _ _ => rfl)) (nomark _)))) pa_nil)))), ?_⟩
  have fx : ∀ {H' : Hp}, Same H H' → H' x = some (.dK (kM v.n xr xw v.wr v.bk xa xp)) := fun s => s _ _ (off_some hx).2
  have fy : ∀ {H' : Hp}, Same H H' → H' y = some (.dK (kM u.n yr yw u.wr u.bk ya yp)) := fun s => s _ _ (off_some hy).2
  have sh : ∀ {n : Nat} {t : Kh.T}, GdT n t → SeqAt.shaped (tD t) = true := fun g => (nice_of g.ok).shaped (by decide)
  refine s_ret (t_cb1 (lcM (S := S) false (parts u v) (fun z => .str z.1) (fun z => .bool (PyData.eqv z.2.1 z.2.2)) kn (fun Q q => ?_) (show 5 ≤ 100000 by decide) (fun _ => rfl) (fun z hz x2 H1 S1 s1 kn1 dx hS ho Q q => ?_) fun L H1 ys hL s1 hL1 d1 => ?_))
  · refine t_lst (a_cons (t_c (a_cons (t_c (a_cons (t_c (a_cons (t_c (a_cons (t_c (a_nil ⟨le5, fun L hL => q _ _ (same_new hL) ?_⟩)))))))))))
    exact dp_newL kn hL (.cons (.str _) (.cons (.str _) (.cons (.str _) (.cons (.str _) (.cons (.str _) .nil)))))
  · have dA : ∀ {v : V} {d : PyData}, Dp K (off S H) v d → Dp K H1 v d := fun h => dp_same (ho.trans off_sub) _ _ h
    unfold parts at hz
    simp only [List.mem_cons, List.not_mem_nil, or_false] at hz
    rcases hz with rfl | rfl | rfl | rfl | rfl <;> cases dx
    · exact t_op (t_dgj rfl rfl (fy s1) v_many (t_dgj rfl rfl (fx s1) v_many ⟨_, _, .int _, .int _, rfl, rfl, q _ _ (Same.refl _) (.bl _)⟩))
    · exact t_op (t_dgj rfl rfl (fy s1) v_reading (t_dgj rfl rfl (fx s1) v_reading ⟨_, _, dA er, dA dr, sh mu.gr, sh mv.gr, q _ _ (Same.refl _) (.bl _)⟩))
    · exact t_op (t_dgj rfl rfl (fy s1) v_writing (t_dgj rfl rfl (fx s1) v_writing ⟨_, _, dA ew, dA dw, sh mu.gw, sh mv.gw, q _ _ (Same.refl _) (.bl _)⟩))
    · exact t_op (t_dgj rfl rfl (fy s1) v_writers (t_dgj rfl rfl (fx s1) v_writers ⟨_, _, .str _, .str _, sh_wr mu, sh_wr mv, q _ _ (Same.refl _) (.bl _)⟩))
    · exact t_op (t_dgj rfl rfl (fy s1) v_back (t_dgj rfl rfl (fx s1) v_back ⟨_, _, .str _, .str _, sh_bk mu, sh_bk mv, q _ _ (Same.refl _) (.bl _)⟩))
  · refine all_d (bs := (parts u v).map fun z => PyData.eqv z.2.1 z.2.2) off_sub (by rw [List.map_map]; exact d1) ?_
    rw [parts_all mu mv]
    exact q H1 s1
end
end K31

set_option maxRecDepth 100000
set_option maxHeartbeats 4000000
namespace K31
open PySem PySem.Spec PyProof.Rows L2 Kh
def rDictP (K : PySem.W.Frag) : List V → Hp → VK → Prop := fun xs H Q => ∃ (a : Addr) (ps : List Addr) (kvs : List (Key × V)), xs = [.ref a] ∧ SqL K H a (ps.map V.ref) ∧ Paired (fun p kv => SqT K H p [kV kv.1, kv.2]) ps kvs ∧
    ∀ p, H p = none → Q (.ref p) (upd H p (.dK (mergeK [] kvs)))
theorem k_dictP {X : Cx} {K : PySem.W.Frag} (hc : X.calm = true) (h : X.K = K := by rfl) : CallR X (.type "dict") (rDictP K) := by subst h; exact call_dictP hc
/-- what becomes of a model when y is put at s -/
def RepM (K : PySem.W.Frag) (H : Hp) (v u : Rul) (s : Str) (y : V) : Prop := Md u ∧ ∀ xr xw xa xp, ∃ xr' xw', putK (kM v.n xr xw v.wr v.bk xa xp) (.inr s) y = kM u.n xr' xw' u.wr u.bk xa xp ∧ ((xr' = xr ∧ u.r = v.r) ∨ Dp K H xr' (tD u.r)) ∧ ((xw' = xw ∧ u.w = v.w) ∨ Dp K H xw' (tD u.w))
theorem GdT.mono {n m : Nat} {t : Kh.T} (h : GdT n t) (hm : n ≤ m) : GdT m t := ⟨h.fl, h.ok, fun k hk => Nat.lt_of_lt_of_le (h.lt k hk) hm, h.pre⟩
theorem rep_many {K : PySem.W.Frag} {H : Hp} {v : Rul} (h : Md v) (h5 : v.n ≤ 5) : RepM K H v { v with n := v.n + 1 } "many" (.int ((v.n + 1 : Nat) : Int)) := by
  refine ⟨⟨by show 1 ≤ v.n + 1; omega, by show v.n + 1 ≤ 6; omega, h.gr.mono (by show v.n ≤ v.n + 1; omega), h.gw.mono (by show v.n ≤ v.n + 1; omega), h.wr, h.bk⟩, fun xr xw xa xp => ⟨xr, xw, ?_, .inl ⟨rfl, rfl⟩, .inl ⟨rfl, rfl⟩⟩⟩
  exact put_at (pre := []) (nin (l := []) (k := .inr "many") (by decide +kernel)) (nin (l := [.inr "reading", .inr "writing", .inr "writers", .inr "back", .inr "asks", .inr "puts"]) (k := .inr "many") (by decide +kernel))
theorem rep_back {K : PySem.W.Frag} {H : Hp} {v : Rul} (h : Md v) {b : Str} (hb : b = "never" ∨ b = "always" ∨ b = "if unlike") : RepM K H v { v with bk := b } "back" (.str b) := by
  refine ⟨⟨h.pos, h.six, h.gr, h.gw, h.wr, hb⟩, fun xr xw xa xp => ⟨xr, xw, ?_, .inl ⟨rfl, rfl⟩, .inl ⟨rfl, rfl⟩⟩⟩
  exact put_at (pre := [(.inr "many", .int (v.n : Nat)), (.inr "reading", xr), (.inr "writing", xw), (.inr "writers", .str v.wr)]) (nin (l := [.inr "many", .inr "reading", .inr "writing", .inr "writers"]) (k := .inr "back") (by decide +kernel)) (nin (l := [.inr "asks", .inr "puts"]) (k := .inr "back") (by decide +kernel))
theorem rep_writers {K : PySem.W.Frag} {H : Hp} {v : Rul} (h : Md v) {b : Str} (hb : b = "one" ∨ b = "many" ∨ b = "blind") : RepM K H v { v with wr := b } "writers" (.str b) := by
  refine ⟨⟨h.pos, h.six, h.gr, h.gw, hb, h.bk⟩, fun xr xw xa xp => ⟨xr, xw, ?_, .inl ⟨rfl, rfl⟩, .inl ⟨rfl, rfl⟩⟩⟩
  exact put_at (pre := [(.inr "many", .int (v.n : Nat)), (.inr "reading", xr), (.inr "writing", xw)]) (nin (l := [.inr "many", .inr "reading", .inr "writing"]) (k := .inr "writers") (by decide +kernel)) (nin (l := [.inr "back", .inr "asks", .inr "puts"]) (k := .inr "writers") (by decide +kernel))
theorem rep_reading {K : PySem.W.Frag} {H : Hp} {v : Rul} (h : Md v) {t : Kh.T} {y : V} (g : GdT v.n t) (d : Dp K H y (tD t)) : RepM K H v { v with r := t } "reading" y := by
  refine ⟨⟨h.pos, h.six, g, h.gw, h.wr, h.bk⟩, fun xr xw xa xp => ⟨y, xw, ?_, .inr d, .inl ⟨rfl, rfl⟩⟩⟩
  exact put_at (pre := [(.inr "many", .int (v.n : Nat))]) (nin (l := [.inr "many"]) (k := .inr "reading") (by decide +kernel)) (nin (l := [.inr "writing", .inr "writers", .inr "back", .inr "asks", .inr "puts"]) (k := .inr "reading") (by decide +kernel))
theorem rep_writing {K : PySem.W.Frag} {H : Hp} {v : Rul} (h : Md v) {t : Kh.T} {y : V} (g : GdT v.n t) (d : Dp K H y (tD t)) : RepM K H v { v with w := t } "writing" y := by
  refine ⟨⟨h.pos, h.six, h.gr, g, h.wr, h.bk⟩, fun xr xw xa xp => ⟨xr, y, ?_, .inl ⟨rfl, rfl⟩, .inr d⟩⟩
  exact put_at (pre := [(.inr "many", .int (v.n : Nat)), (.inr "reading", xr)]) (nin (l := [.inr "many", .inr "reading"]) (k := .inr "writing") (by decide +kernel)) (nin (l := [.inr "writers", .inr "back", .inr "asks", .inr "puts"]) (k := .inr "writing") (by decide +kernel))
section
variable {P : Program} {w : World} {K : PySem.W.Frag} {mg : Str → Option Value} {base : Heap} {a : Nat → Addr} {fd : Nat → FuncData} {C R : Addr} {tk : Nat → Tok} {aW aB : Addr}
theorem t_li {te : TE} {σ : L2.St} {H : Hp} {Q : VK} (h : te σ H fun x H1 => LiI.rItemsL x H1 Q) : LiI.tListItems te σ H Q := h
/-- dict(list(model.items()) + [(s, y)]) -/
theorem dict_oth {S : Addr → Prop} {p x : Addr} {H : Hp} {σ : L2.St} {tk tv : TE} {s : Str} {v : Rul} {la lp : List (List Nat)} {Q : VK} (hS : S p) (kn : Kn S H) (hp : PotAt H p) (hm : σ[1]? = some (some (.ref x))) (md : MdAt K (off S H) v la lp x)
    (hk : ∀ H' (Q : VK), Q (.str s) H' → tk σ H' Q)
    (hv : ∀ H' (Q : VK), Same H H' → (∀ y H2 u, SameBut p H' H2 → PotAt H2 p → RepM K (off S H2) v u s y → Q y H2) → tv σ H' Q)
    (q : ∀ z H3 u, SameBut p H H3 → PotAt H3 p → MdAt K (off S H3) u la lp z → Md u → Q (.ref z) H3) :
    tCB (rDictP K) (tCons (tOp (rCatS K) (LiI.tListItems (tVar 1)) (tLst (tCons (tTup (tCons tk (tCons tv tNil))) tNil))) tNil) σ H Q := by
  obtain ⟨xr, xw, xa, xp, hx, dr, dw, da, dp'⟩ := md
  refine t_cb1 (t_op (t_li (t_var hm ⟨x, _, rfl, (off_some hx).2, fun H1 l ts s1 hl hts lts hl1 pr => ?_⟩)))
  refine t_lst (a_cons (t_tup (a_cons (hk _ _ (a_cons (hv H1 _ s1 fun y H2 u sb pt rep => ?_))))))
  obtain ⟨mu, rp⟩ := rep
  obtain ⟨xr', xw', eput, hr', hw'⟩ := rp xr xw xa xp
  have np : ∀ {b : Addr}, H b = none → b ≠ p := fun h e => hp.some (e ▸ h)
  refine a_nil ⟨le2, fun r2 hr2 => ?_⟩
  have sr := same_new (o := HO.tup [V.str s, y]) hr2
  have hrt : (upd H2 r2 (.tup [V.str s, y])) r2 = some (.tup [V.str s, y]) := upd_same
  generalize upd H2 r2 (.tup [V.str s, y]) = H3 at *
  refine a_nil ⟨le1, fun l2 hl2 => ?_⟩
  have sl := same_new (o := HO.lst [V.ref r2]) hl2
  have hlt : (upd H3 l2 (.lst [V.ref r2])) l2 = some (.lst [V.ref r2]) := upd_same
  generalize upd H3 l2 (.lst [V.ref r2]) = H4 at *
  have s24 := sr.trans sl
  have hl4 : H4 l = some (.lst (ts.map V.ref)) := s24 _ _ (sb _ _ (np hl) hl1)
  have len : ts.length = 7 := Paired.length pr
  refine ⟨l, l2, _, _, rfl, rfl, sqL hl4, sqL hlt, Nat.le_trans (show (ts.map V.ref).length + 1 ≤ 100 by rw [List.length_map]; omega) (by decide), fun c hc => ?_⟩
  have sc := same_new (o := HO.lst (ts.map V.ref ++ [V.ref r2])) hc
  have hct : (upd H4 c (.lst (ts.map V.ref ++ [V.ref r2]))) c = some (.lst (ts.map V.ref ++ [V.ref r2])) := upd_same
  generalize upd H4 c (.lst (ts.map V.ref ++ [V.ref r2])) = H5 at *
  have s25 := s24.trans sc
  refine ⟨c, ts ++ [r2], kM v.n xr xw v.wr v.bk xa xp ++ [(.inr s, y)], rfl, sqL (by rw [hct, List.map_append]; rfl), ?_, fun z hz => ?_⟩
  · refine Paired.snoc ?_ (sqT (sl.trans sc _ _ hrt))
    have go : ∀ {ts : List Addr} {kvs : List (Key × V)}, (∀ t ∈ ts, H t = none) → Paired (fun (t : Addr) (q : Key × V) => H1 t = some (.tup [kV q.1, q.2])) ts kvs → Paired (fun t q => SqT K H5 t [kV q.1, q.2]) ts kvs := by
      intro ts kvs hts pr
      induction pr with
      | nil => exact .nil
      | cons h t ih => exact .cons (sqT (s25 _ _ (sb _ _ (np (hts _ List.mem_cons_self)) h))) (ih fun t ht => hts t (List.mem_cons_of_mem _ ht))
    exact go hts pr
  · rw [merge_snoc kM_nd, eput]
    have sz := same_new (o := HO.dK (kM u.n xr' xw' u.wr u.bk xa xp)) hz
    have hzt : (upd H5 z (.dK (kM u.n xr' xw' u.wr u.bk xa xp))) z = some (.dK (kM u.n xr' xw' u.wr u.bk xa xp)) := upd_same
    generalize upd H5 z (.dK (kM u.n xr' xw' u.wr u.bk xa xp)) = H6 at *
    have s26 := s25.trans sz
    have kn2 := kn_bt (kn.same s1) sb pt.some
    have kn5 := kn2.same s25
    have m2 : Same (off S H2) (off S H6) := off_same s26
    have m0 : Same (off S H) (off S H6) := (off_same s1).trans ((off_bt hS sb).trans m2)
    refine q z H6 u (sb_trans (sbut s1) (sb_trans sb (sbut s26))) (pt.same s26) ⟨xr', xw', xa, xp, by rw [off_out (kn5.new hz)]; exact hzt, ?_, ?_, dp_same m0 _ _ da, dp_same m0 _ _ dp'⟩ mu
    · rcases hr' with ⟨e1, e2⟩ | h
      · rw [e1, e2]; exact dp_same m0 _ _ dr
      · exact dp_same m2 _ _ h
    · rcases hw' with ⟨e1, e2⟩ | h
      · rw [e1, e2]; exact dp_same m0 _ _ dw
      · exact dp_same m2 _ _ h
end
end K31

set_option maxRecDepth 100000
set_option maxHeartbeats 4000000
namespace K31
open PySem PySem.Spec PyProof.Rows L2 Kh
/-- a model that is told -/
def OthAt (K : PySem.W.Frag) (k : Nat) (H : Hp) (la lp : List (List Nat)) (z : V) : Prop := ∃ b u, z = .ref b ∧ MdAt K H u la lp b ∧ Md u ∧ u.n ≤ k
theorem OthAt.same {K : PySem.W.Frag} {k : Nat} {H H' : Hp} {la lp : List (List Nat)} {z : V} (h : OthAt K k H la lp z) (e : Same H H') : OthAt K k H' la lp z := by
  obtain ⟨b, u, rfl, m, r⟩ := h
  exact ⟨b, u, rfl, m.same e, r⟩
section
variable {P : Program} {w : World} {K : PySem.W.Frag} {mg : Str → Option Value} {base : Heap} {a : Nat → Addr} {fd : Nat → FuncData} {C R : Addr} {tk : Nat → Tok} {aW aB : Addr}
def spOthers (K : PySem.W.Frag) : Sp := fun vs H Q _ => ∃ (S : Addr → Prop) (p x : Addr) (v : Rul) (la lp : List (List Nat)), vs = [.ref p, .ref x] ∧ Kn S H ∧ S p ∧ PotAt H p ∧ MdAt K (off S H) v la lp x ∧ Md v ∧ v.n ≤ 5 ∧
  ∀ l H' xs, SameBut p H H' → PotAt H' p → H' l = some (.lst xs) → H l = none → (∀ z ∈ xs, OthAt K 5 (off S H') la lp z) → Q (.ref l) H'
def itemsO (n : Nat) : List (Str × PyData) := [("many", .int (((n : Nat) : Int) + 1)), ("back", .str "never"), ("back", .str "always"), ("writers", .str "blind")]
abbrev dO (z : Str × PyData) : PyData := .tuple [.str z.1, z.2]
theorem rep_item {H Hd : Hp} {v : Rul} (md : Md v) (h5 : v.n ≤ 5) {m : Str × PyData} (hm : m ∈ itemsO v.n) {y : V} (d : Dp K Hd y m.2) : ∃ u, RepM K H v u m.1 y := by
  unfold itemsO at hm
  simp only [List.mem_cons, List.not_mem_nil, or_false] at hm
  rcases hm with rfl | rfl | rfl | rfl <;> cases d
  · have e : ((v.n : Nat) : Int) + 1 = ((v.n + 1 : Nat) : Int) := by omega
    rw [e]; exact ⟨_, rep_many md h5⟩
  · exact ⟨_, rep_back md (.inl rfl)⟩
  · exact ⟨_, rep_back md (.inr (.inl rfl))⟩
  · exact ⟨_, rep_writers md (.inr (.inr rfl))⟩
theorem ok__law_others (T : Txt K mg a fd C tk) : FnOk P w K mg base CX0 8 (a 49) (fd 49) ["_law_pot_here", "_law_model_here"] (spOthers K) := by
  have G__law_tree := ok__law_tree (P := P) (w := w) (base := base) T
  refine T.F__law_others.ok sc__law_others (fun vs H Q E h => by obtain ⟨_, _, _, _, _, _, rfl, _⟩ := h; rfl) (fun cdv A outer s H vs Q E hr h => ?_)
  obtain ⟨S, p, x, v, la, lp, rfl, kn, hS, hp, mdx, md, h5, q⟩ := h
  have fx : ∀ {S' : Addr → Prop} {H' : Hp}, MdAt K (off S' H') v la lp x → ∃ xr xw xa xp, H' x = some (.dK (kM v.n xr xw v.wr v.bk xa xp)) := fun h => by
    obtain ⟨xr, xw, xa, xp, h, _⟩ := h
    exact ⟨xr, xw, xa, xp, (off_some h).2⟩
  refine ⟨_, (pss_cons (ps_set (i := 2) sc__law_others.nd rfl (Or.inl rfl) (pe_lst pa_nil))
      (pss_cons (ps_for PassesOwn.never rfl (k_pi (K := K) (pe_lst (pa_cons (pe_tup (pa_cons pe_str (pa_cons (pe_op op_add (pe_dget (Nat.lt_of_le_of_lt (Nat.add_le_add_left (show 1 ≤ 64 by decide) _) hr.units) (pv 1) pe_str (fun _ _ => rfl)) pe_int) pa_nil))) (pa_cons (pe_tup (pa_cons pe_str (pa_cons pe_str pa_nil))) (pa_cons (pe_tup (pa_cons pe_str (pa_cons pe_str pa_nil))) (pa_cons (pe_tup (pa_cons pe_str (pa_cons pe_str pa_nil))) pa_nil)))))) (pg_tup rfl (pgs_cons (pg_name (i := 3) sc__law_others.nd rfl (Or.inl rfl)) (pgs_cons (pg_name (i := 4) sc__law_others.nd rfl (Or.inl rfl)) pgs_nil)))
        (pss_one (ps_expr (pe_bm PySem.F.plainAttrs_list PySem.F.slot_list_append PySem.F.type_list_append mt_append (pv 2) (pa_cons (pe_callTy (k_dictP (K := K) rfl) (by rfl) T.z_dict (by decide +kernel) (pa_cons (pe_op (k_catS (K := K)) (LiI.pe_listItems rfl (pv 1) (by rfl) T.z_list (by decide +kernel)) (pe_lst (pa_cons (pe_tup (pa_cons (pv 3) (pa_cons (pv 4) pa_nil))) pa_nil))) pa_nil)) pa_nil)))))
      (pss_cons (ps_expr (pe_bm PySem.F.plainAttrs_list PySem.F.slot_list_append PySem.F.type_list_append mt_append (pv 2) (pa_cons (pe_callTy (k_dictP (K := K) rfl) (by rfl) T.z_dict (by decide +kernel) (pa_cons (pe_op (k_catS (K := K)) (LiI.pe_listItems rfl (pv 1) (by rfl) T.z_list (by decide +kernel)) (pe_lst (pa_cons (pe_tup (pa_cons pe_str (pa_cons (pe_call G__law_tree (hr.mono (by omega)) (by rfl) T.m__law_tree T.F__law_tree.kp T.b__law_tree .nil pass0 (pa_cons (pv 0) (pa_cons (pe_dget (Nat.lt_of_le_of_lt (Nat.add_le_add_left (show 1 ≤ 64 by decide) _) hr.units) (pv 1) pe_str (fun _ _ => rfl)) pa_nil))) pa_nil))) pa_nil))) pa_nil)) pa_nil)))
      (pss_cons (ps_expr (pe_bm PySem.F.plainAttrs_list PySem.F.slot_list_append PySem.F.type_list_append mt_append (pv 2) (pa_cons (pe_callTy (k_dictP (K := K) rfl) (by rfl) T.z_dict (by decide +kernel) (pa_cons (pe_op (k_catS (K := K)) (LiI.pe_listItems rfl (pv 1) (by rfl) T.z_list (by decide +kernel)) (pe_lst (pa_cons (pe_tup (pa_cons pe_str (pa_cons (pe_call G__law_tree (hr.mono (by omega)) (by rfl) T.m__law_tree T.F__law_tree.kp T.b__law_tree .nil pass0 (pa_cons (pv 0) (pa_cons (pe_dget (Nat.lt_of_le_of_lt (Nat.add_le_add_left (show 1 ≤ 64 by decide) _) hr.units) (pv 1) pe_str (fun _ _ => rfl)) pa_nil))) pa_nil))) pa_nil))) pa_nil)) pa_nil)))
      (pss_one (ps_ret (pe_lc (own := [("_law_other", 5)]) (g := gName 5) (tt := _) rfl sc__law_others.nd (k_pi (K := K) (pv 2)) (blkOk_by (own := [("_law_other", 5)]) (N := _law_others_N) (sc := defScope _law_others_s) (by decide +kernel)) (fun _ _ _ _ _ => (pg_name (i := 5) sc__law_others.nd rfl (Or.inl rfl))) (fun _ _ _ _ _ => (pts_one (pt_cmpR op_lt (pe_dget (Nat.lt_of_le_of_lt (Nat.add_le_add_left (show 1 ≤ 64 by decide) _) hr.units) (pv 5) pe_str (fun _ _ => rfl)) pe_int (nomark _)))) (fun _ _ _ _ _ => (pv 5))))))))), ?_⟩
  refine s_seq (s_set (t_lst0 fun D hD => nx_of ?_))
  have s0 := same_new (o := HO.lst []) hD
  have hU : (upd H D (.lst [])) D = some (.lst []) := upd_same
  have Dnp : D ≠ p := fun e => hp.some (e ▸ hD)
  have kn0 : Kn (plus S D) (upd H D (.lst [])) := (kn.same s0).plus (some_ne hU)
  have md0 := mdx.same (off_plus hD s0)
  have hp0 := hp.same s0
  generalize upd H D (.lst []) = H0 at *
  have hS1 : plus S D p := .inl hS
  have fm : ∀ {H' : Hp}, SameBut p H0 H' → H' D = some (.lst []) := fun sb => sb _ _ Dnp hU
  refine s_seq (forM (S := plus S D) false (itemsO v.n) dO kn0 (fun Q q => ?_) fun H1 s1 kn1 => ?_)
  · obtain ⟨yr, yw, ya, yp, hx0⟩ := fx md0
    refine t_lst (a_cons (t_tup (a_cons (t_c (a_cons (t_op (t_dg rfl hx0 v_many (t_c ⟨_, _, rfl, rfl, a_nil ⟨le2, fun r1 hr1 => ?_⟩⟩))))))))
    refine a_cons (t_tup (a_cons (t_c (a_cons (t_c (a_nil ⟨le2, fun r2 hr2 => ?_⟩))))))
    refine a_cons (t_tup (a_cons (t_c (a_cons (t_c (a_nil ⟨le2, fun r3 hr3 => ?_⟩))))))
    refine a_cons (t_tup (a_cons (t_c (a_cons (t_c (a_nil ⟨le2, fun r4 hr4 => a_nil ⟨le4, fun r5 hr5 => ?_⟩⟩))))))
    have s1 := same_new (o := HO.tup [V.str "many", V.int (((v.n : Nat) : Int) + 1)]) hr1
    have s2 := same_new (o := HO.tup [V.str "back", V.str "never"]) hr2
    have s3 := same_new (o := HO.tup [V.str "back", V.str "always"]) hr3
    have s4 := same_new (o := HO.tup [V.str "writers", V.str "blind"]) hr4
    have k1 := kn0.same s1
    have k2 := k1.same s2
    have k3 := k2.same s3
    have k4 := k3.same s4
    refine q _ _ ((s1.trans (s2.trans (s3.trans s4))).trans (same_new hr5)) (dp_newL k4 hr5 (.cons ?_ (.cons ?_ (.cons ?_ (.cons ?_ .nil)))))
    · exact dp_same (off_same (s2.trans (s3.trans s4))) _ _ (dp_newT kn0 hr1 (.cons (.str _) (.cons (.int _) .nil)))
    · exact dp_same (off_same (s3.trans s4)) _ _ (dp_newT k1 hr2 (.cons (.str _) (.cons (.str _) .nil)))
    · exact dp_same (off_same s4) _ _ (dp_newT k2 hr3 (.cons (.str _) (.cons (.str _) .nil)))
    · exact dp_newT k3 hr4 (.cons (.str _) (.cons (.str _) .nil))
  have frm : ∀ {H' : Hp}, (∀ b o, b ≠ p → b ≠ D → H1 b = some o → H' b = some o) → Same (off (plus S D) H1) (off (plus S D) H') := fun f b o h => by
    obtain ⟨n, h⟩ := off_some h
    rw [off_out n]
    exact f b o (fun e => n (.inl (e ▸ hS))) (fun e => n (.inr e)) h
  have knf : ∀ {H' : Hp} {xs : List V}, (∀ b o, b ≠ p → b ≠ D → H1 b = some o → H' b = some o) → PotAt H' p → H' D = some (.lst xs) → Kn (plus S D) H' := fun f pt hd b z => by
    by_cases e1 : b = p
    · subst e1; exact pt.some
    · by_cases e2 : b = D
      · subst e2; exact some_ne hd
      · cases h : H1 b with
        | none => exact (kn1 b z h).elim
        | some o => rw [f b o e1 e2 h]; exact fun z => nomatch z
  have md1 := md0.same (off_same s1)
  -- one more
  have more : ∀ {H' : Hp} {xs : List V} {z : Addr} {H3 : Hp} {u : Rul}, (∀ b o, b ≠ p → b ≠ D → H1 b = some o → H' b = some o) → H' D = some (.lst xs) → (∀ z ∈ xs, OthAt K 6 (off (plus S D) H') la lp z) → SameBut p H' H3 → PotAt H3 p → MdAt K (off (plus S D) H3) u la lp z → Md u →
      H3 D = some (.lst xs) ∧ (upd H3 D (.lst (xs ++ [.ref z]))) D = some (.lst (xs ++ [.ref z])) ∧ PotAt (upd H3 D (.lst (xs ++ [.ref z]))) p ∧ (∀ b o, b ≠ p → b ≠ D → H1 b = some o → (upd H3 D (.lst (xs ++ [.ref z]))) b = some o) ∧ ∀ y ∈ xs ++ [.ref z], OthAt K 6 (off (plus S D) (upd H3 D (.lst (xs ++ [.ref z])))) la lp y := by
    intro H' xs z H3 u f hd al sb pt mz mu
    refine ⟨sb _ _ Dnp hd, upd_same, ?_, fun b o n1 n2 h => by rw [upd_ne n2]; exact sb b o n1 (f b o n1 n2 h), fun y hy => ?_⟩
    · obtain ⟨i, j, h, hj⟩ := pt
      exact ⟨i, j, by rw [upd_ne (Ne.symm Dnp)]; exact h, hj⟩
    · rw [off_mut (show plus S D D from .inr rfl)]
      rcases List.mem_append.mp hy with hy | hy
      · exact (al y hy).same (off_bt hS1 sb)
      · rw [List.mem_singleton.mp hy]; exact ⟨z, u, rfl, mz, mu, mu.six⟩
  refine ⟨fun i σ' H' => ∃ xs x3 x4, σ' = [some (.ref p), some (.ref x), some (.ref D), x3, x4, none] ∧ H' D = some (.lst xs) ∧ xs.length = i ∧ PotAt H' p ∧ (∀ b o, b ≠ p → b ≠ D → H1 b = some o → H' b = some o) ∧ (∀ z ∈ xs, OthAt K 6 (off (plus S D) H') la lp z), ⟨[], _, _, rfl, s1 _ _ hU, rfl, hp0.same s1, fun b o _ _ h => h, fun z h => nomatch h⟩, fun i σ' H' ⟨_, _, _, _, _, _, _, f, _⟩ => (frm f).trans off_sub, ?_, ?_⟩
  · rintro i m y σ' H' mi hi hm dy ⟨xs, x3, x4, rfl, hd, hl, pt, f, al⟩
    have i4 : i < 4 := hi
    obtain ⟨r, ys, rfl, hr0, dys⟩ := tup_at dy
    obtain - | ⟨d1, - | ⟨d2, ⟨⟩⟩⟩ := dys
    rename_i y1 y2
    cases d1
    have knH := knf f pt hd
    have mdH := md1.same (frm f)
    refine ⟨r, _, rfl, same_t ((frm f).trans off_sub) hr0, rfl, _, _, rfl, g_name ⟨_, _, rfl, g_name ⟨rfl, ?_⟩⟩⟩
    refine s_drop (t_bm (t_var rfl ⟨.inl ⟨rfl, _, sqL hd⟩, a_cons (dict_oth (S := plus S D) (p := p) (s := m.1) (v := v) (la := la) (lp := lp) hS1 knH pt rfl mdH (fun H' Q q => t_var rfl q) (fun H2 Q s k => ?_) fun z H3 u sb pt3 mz mu => ?_)⟩))
    · obtain ⟨u, rep⟩ := rep_item (H := off (plus S D) H2) md h5 hm d2
      exact t_var rfl (k _ _ u (sbut (Same.refl _)) (pt.same s) rep)
    · obtain ⟨h1, h2, h3, h4, h5'⟩ := more f hd al sb pt3 mz mu
      exact a_nil ⟨D, xs, _, rfl, rfl, h1, Nat.lt_of_le_of_lt (show xs.length ≤ 1000 by omega) (by decide), nx_of ⟨_, _, _, rfl, h2, by rw [List.length_append, hl]; rfl, h3, h4, h5'⟩⟩
  · rintro σ' H' ⟨xs, x3, x4, rfl, hd, hl, pt, f, al⟩
    replace hl : xs.length = 4 := hl
    have mdH := md1.same (frm f)
    obtain ⟨yr, yw, ya, yp, hx⟩ := fx mdH
    refine nx_of (s_seq (s_drop (t_bm (t_var rfl ⟨.inl ⟨rfl, _, sqL hd⟩, a_cons (dict_oth (S := plus S D) (p := p) (s := "reading") (v := v) (la := la) (lp := lp) hS1 (knf f pt hd) pt rfl mdH (fun H' Q q => t_c q) (fun H2 Q s k => t_call2 (t_var rfl (t_dg rfl (s _ _ hx) v_many ⟨plus S D, p, v.n, rfl, (knf f pt hd).same s, hS1, pt.same s, md.pos, h5, fun y H3 t sb pt3 gd dy => k y H3 _ sb pt3 (rep_reading md gd dy)⟩))) fun z H3 u sb pt3 mz mu => ?_)⟩))))
    obtain ⟨h1, hd2, pt2, f2, al2⟩ := more f hd al sb pt3 mz mu
    refine a_nil ⟨D, xs, _, rfl, rfl, h1, Nat.lt_of_le_of_lt (show xs.length ≤ 1000 by omega) (by decide), nx_of ?_⟩
    generalize upd H3 D (.lst (xs ++ [.ref z])) = H4 at *
    have hl2 : (xs ++ [V.ref z]).length = 5 := by rw [List.length_append, hl]; rfl
    generalize xs ++ [V.ref z] = xs2 at *
    have mdH4 := md1.same (frm f2)
    obtain ⟨zr, zw, za, zp, hx4⟩ := fx mdH4
    refine s_seq (s_drop (t_bm (t_var rfl ⟨.inl ⟨rfl, _, sqL hd2⟩, a_cons (dict_oth (S := plus S D) (p := p) (s := "writing") (v := v) (la := la) (lp := lp) hS1 (knf f2 pt2 hd2) pt2 rfl mdH4 (fun H' Q q => t_c q) (fun H2 Q s k => t_call2 (t_var rfl (t_dg rfl (s _ _ hx4) v_many ⟨plus S D, p, v.n, rfl, (knf f2 pt2 hd2).same s, hS1, pt2.same s, md.pos, h5, fun y H3 t sb pt3 gd dy => k y H3 _ sb pt3 (rep_writing md gd dy)⟩))) fun z2 H5 u2 sb5 pt5 mz5 mu5 => ?_)⟩)))
    obtain ⟨h5a, hd6, pt6, f6, al6⟩ := more f2 hd2 al2 sb5 pt5 mz5 mu5
    refine a_nil ⟨D, xs2, _, rfl, rfl, h5a, Nat.lt_of_le_of_lt (show xs2.length ≤ 1000 by omega) (by decide), nx_of ?_⟩
    generalize upd H5 D (.lst (xs2 ++ [.ref z2])) = H6 at *
    have hl6 : (xs2 ++ [V.ref z2]).length = 6 := by rw [List.length_append, hl2]; rfl
    generalize xs2 ++ [V.ref z2] = xs6 at *
    have kn6 := knf f6 pt6 hd6
    refine s_ret (Or.inl (i_lst (t_var rfl ⟨D, rfl, ⟨_, sqL hd6⟩, fun E hE => ?_⟩)))
    have Hnone : ∀ {b : Addr}, H6 b = none → H b = none := fun {b} h => by
      cases e : H b with
      | none => rfl
      | some o =>
        by_cases e1 : b = p
        · subst e1; exact (pt6.some h).elim
        · by_cases e2 : b = D
          · subst e2; rw [hD] at e; cases e
          · rw [f6 b o e1 e2 (s1 b o (s0 b o e))] at h; cases h
    refine lc_it (walk_list (K := K) (a := D) (xs := xs6)) (Pv := fun i H' => ∃ ys, H' E = some (.lst ys) ∧ ys.length ≤ i ∧ Same H6 H' ∧ ∀ z ∈ ys, OthAt K 5 (off (plus S D) H6) la lp z) ⟨[], upd_same, Nat.le_refl _, same_new hE, fun z h => nomatch h⟩ (fun i H' _ ⟨_, _, _, s, _⟩ => sqL (s _ _ hd6)) ?_ ?_
    · rintro i y Ha Hb hi ⟨ys, he, hyl, sa, ay⟩ ⟨rfl, hy⟩
      obtain ⟨b, u, rfl, mb, mu, u6⟩ := al6 y (List.mem_of_getElem? hy)
      obtain ⟨br, bw, ba, bp, hb, _⟩ := id mb
      refine g_name ⟨rfl, b_test (t_op (t_dg rfl (sa _ _ (off_some hb).2) v_many (t_c ⟨_, _, rfl, rfl, bl_if (fun c => ?_) (fun c => ?_)⟩)))⟩
      · have c6 : u.n ≤ 5 := by have := of_decide_eq_true c; omega
        refine t_var rfl ⟨ys, he, Nat.lt_of_le_of_lt (show ys.length ≤ 1000 by omega) (by decide), ys ++ [.ref b], upd_same, by rw [List.length_append]; show ys.length + 1 ≤ i + 1; omega, fun b' o h => by rw [upd_ne (ne_of_none h hE)]; exact sa b' o h, fun z hz => ?_⟩
        rcases List.mem_append.mp hz with hz | hz
        · exact ay z hz
        · rw [List.mem_singleton.mp hz]; exact ⟨b, u, rfl, mb, mu, c6⟩
      · exact ⟨ys, he, by omega, sa, ay⟩
    · rintro H7 ⟨ys, he, hyl, sa, ay⟩
      refine q E H7 ys (fun b o n h => sa b o (f6 b o n (fun e => by rw [e, hD] at h; cases h) (s1 b o (s0 b o h)))) (pt6.same sa) he (Hnone hE) fun z hz => ((ay z hz).same off_fin).same (off_same sa)
end
end K31

set_option maxRecDepth 100000
set_option maxHeartbeats 2000000
/-! x != y of two lists whose items have an own == -/
namespace GQ
open PySem PySem.SeqAt
open AutoSeq1 (wpAny_loadPart')
open MeetsSeq MeetsSeq2 MeetsSeq3 SeqRoads2
section
variable {prog : Program} {w : World} {A : Around} {R : Result → Shared → Prop}
theorem kh_neLoop (l b : Addr) (N : Nat) (J : Nat → Shared → Prop) (hJ : ListI prog w A (fun e s' => R (.error e) s') l b N J) (fin : ∀ s, J N s → R (.ok (.ret (.bool false))) s) (k : Nat) :
    ∀ i : Nat, N - i = k → i ≤ N → ∀ s, J i s → wpAny (model prog w) A.in1 (Builtin.«list.__eq__.loop» ⟨[.ref l, .ref b, rawInt i, rawInt 3], []⟩) (FinOf prog w A R) (fun e s' => R (.error e) s') s := by
  induction k with
  | zero =>
    intro i hk hi s h
    obtain ⟨us, vs, n, m, gl, gb, zu, zv, _⟩ := hJ _ _ h
    have ei : i = N := by omega
    have last : R (.ok (.ret (.bool false))) s := fin s (ei ▸ h)
    obtain ⟨hp, g, d, tk, os⟩ := s
    wp_walk using wpAny_loadPart' gl, wpAny_loadPart' gb
    have n1 : us[((i : Nat) : Int).toNat]? = none := by simp; omega
    have n2 : vs[((i : Nat) : Int).toNat]? = none := by simp; omega
    rw [n1, n2]
    wp_walk using wpAny_loadPart' gl, wpAny_loadPart' gb
    show R (.ok (.ret (.bool (us.size != vs.size)))) _
    rw [zu, zv]
    simpa using last
  | succ k ih =>
    intro i hk hi s h
    obtain ⟨us, vs, n, m, gl, gb, zu, zv, turn⟩ := hJ _ _ h
    have c1 : i < us.size := by omega
    have c2 : i < vs.size := by omega
    have here := turn c1 c2
    obtain ⟨hp, g, d, tk, os⟩ := s
    wp_walk using wpAny_loadPart' gl, wpAny_loadPart' gb
    have n1 : us[((i : Nat) : Int).toNat]? = some us[i] := by simp [c1]
    have n2 : vs[((i : Nat) : Int).toNat]? = some vs[i] := by simp [c2]
    have up : ((i : Int) + 1) = ((i + 1 : Nat) : Int) := by omega
    rw [n1, n2]
    refine wpAny_bind (wpAny_mono here (fun r s2 h2 => ?_) fun _ _ x => x)
    obtain ⟨er, h2⟩ := h2
    subst er
    have next := ih (i + 1) (by omega) (by omega) s2 h2
    obtain ⟨hp2, g2, d2, tk2, os2⟩ := s2
    wp_walk
    rw [up]
    exact ⟨plainId_quiet plain_eq_loop _, codeAny_builtin entry_eq_loop (by rw [Around.under_plainId plain_eq_loop _]; exact next)⟩
theorem kh_listNe (l b : Addr) (N : Nat) (J : Nat → Shared → Prop) (hJ : ListI prog w A (fun e s' => R (.error e) s') l b N J) (fin : ∀ s, J N s → R (.ok (.ret (.bool false))) s) {s : Shared} (h : J 0 s) :
    wpAny (model prog w) A.in1 (Builtin.«list.__ne__» ⟨[.ref l, .ref b], []⟩) (FinOf prog w A R) (fun e s' => R (.error e) s') s := by
  obtain ⟨us, vs, n, m, gl, gb, zu, zv, _⟩ := hJ _ _ h
  have next := kh_neLoop (A := A) (R := R) l b N J hJ fin _ 0 rfl (Nat.zero_le _) s h
  obtain ⟨hp, g, d, tk, os⟩ := s
  have f3 := AutoSeq1.sub_list_list
  have hne : ¬ (us.size != vs.size) = true := by simp [zu, zv]
  wp_walk using wpAny_loadPart' gl, wpAny_loadPart' gb
  exact ⟨plainId_quiet plain_eq_loop _, codeAny_builtin entry_eq_loop (by rw [Around.under_plainId plain_eq_loop _]; exact next)⟩
end
section
variable {prog : Program} {w : World} {A : Around} {E : Value → Shared → Prop} {s : Shared}
theorem kh_rcNe {l b : Addr} {N : Nat} {Q : Value → Shared → Prop} (hu : A.units < cLine) (J : Nat → Shared → Prop) (hJ : ListI prog w A E l b N J) (fin : ∀ s, J N s → Q (.bool false) s) (h : J 0 s) : wpAny (model prog w) A (richCompare .NotEq (.ref l) (.ref b)) Q E s := by
  obtain ⟨us, vs, n, m, gl, gb, _, _, _⟩ := hJ _ _ h
  refine wpAny_richCompare_same_room (op := .NotEq) ⟨_, gl, rfl⟩ ⟨_, gb, rfl⟩ F.slot_list_ne (call_here F.slot_list_ne ⟨_, gl, rfl⟩ F.entry_list_ne (F.args_list_ne_2 _ _) ?_) hu
  exact kh_listNe (R := wants (fun v s' => v ≠ .notImplemented ∧ Q v s') E) l b N J hJ (fun s' q => ⟨(fun x => nomatch x), fin s' q⟩) h
end
end GQ
namespace Kh
open PySem PySem.Spec PyProof.Rows L2
section
variable {X : Cx} {n : Nat} {D : Eqv}
def rNeGL (D : Eqv) : R2 := fun x y H Q => DList D x y H ∧ ∀ H', Same H H' → Q (.bl false) H'
theorem op_neGL (hD : Mon D) (h : EqG X n D) (hr : Room (n + 1) X.A) : OpR X (compareOp .NotEq) (rNeGL D) := by
  intro pins s σ H x y v u Q I rx ry hq
  obtain ⟨⟨a, b, xs, ys, rfl, rfl, ha, hb, p⟩, q⟩ := hq
  cases rx
  cases ry
  have sb : Sub X (n + 1) X.A := ⟨hr, rfl⟩
  refine GQ.kh_rcNe (N := xs.length) sb.room.units0 (fun _ s' => LoopI X pins σ H s') (fun i s' z => ?_) (fun s' z => ?_) ⟨H, I, Ext.rfl'⟩
  · obtain ⟨H1, I1, e1⟩ := id z
    obtain ⟨_, its, k, r, e⟩ := I1.hok a _ (e1 _ _ ha)
    obtain ⟨_, its2, k2, r2, e2⟩ := I1.hok b _ (e1 _ _ hb)
    exact ⟨its.toArray, its2.toArray, k, k2, e, e2, by rw [List.size_toArray, ← r.length], by rw [List.size_toArray, ← r2.length, ← p.1], fun h1 h2 => turnG hD h sb p r r2 i h1 h2 s' z⟩
  · obtain ⟨H1, I1, e1⟩ := z
    exact ⟨.bl false, H1, I1, rfl, q H1 e1⟩
end
end Kh

set_option maxRecDepth 100000
set_option maxHeartbeats 4000000
namespace K31
open PySem PySem.Spec PyProof.Rows L2 Kh
def rReprS : List V → Hp → VK → Prop := fun xs H Q => ∃ x : Str, xs = [.str x] ∧ (reprText x).length ≤ sizeLine ∧ Q (.str (reprText x)) H
theorem call_reprS {X : Cx} : CallR X (.builtin "repr") rReprS := by
  intro pins s σ H xs us Q I r h
  obtain ⟨x, rfl, hz, q⟩ := h
  obtain ⟨u, rfl, ru⟩ := r.one
  obtain ⟨t, rfl⟩ := ru
  exact PySem.P.repr_of_str ⟨.str _, H, I.tok _, ⟨_, rfl⟩, q⟩ hz
def rReprX (K : PySem.W.Frag) (C : Addr) (sp : Sp) : List V → Hp → VK → Prop := fun xs H Q => rReprD K xs H Q ∨ rReprI C sp xs H Q ∨ rReprS xs H Q
theorem k_reprX {X : Cx} {K : PySem.W.Frag} {k : Nat} {f C : Addr} {sp : Sp} (hg : X.A.guards = some []) (hu : X.A.units + 64 < cLine) (R : Runs X k f sp) (hr : Room (k + 1) X.A) (M : Meth X.K C "__repr__" f) (h : X.K = K := by rfl) : CallR X (.builtin "repr") (rReprX K C sp) := by
  subst h
  intro pins s σ H xs us Q I r h
  rcases h with h | h | h
  · exact cr_reprD hg hu pins s σ H xs us Q I r h
  · exact call_reprI R hr M pins s σ H xs us Q I r h
  · exact call_reprS pins s σ H xs us Q I r h
theorem nice_nT {ms : List Nat} (h : ∀ n ∈ ms, n < 256) (hl : ms.length ≤ 8) : Nice 808 1 (nT ms) := by
  have q := nice_tup (niceA_map (f := nD) (g := fun _ => 100) (m := 0) ms fun n hn => nice_int (h n hn))
  have e : ∀ l : List Nat, (l.map fun _ => 100 + 1).sum = 101 * l.length := by
    intro l
    induction l with
    | nil => rfl
    | cons x l ih => rw [List.map_cons, List.sum_cons, ih, List.length_cons]; omega
  rw [e] at q
  exact q.mono (by omega) (Nat.le_refl _)
theorem nice_nL {ms : List Nat} (h : ∀ n ∈ ms, n < 256) (hl : ms.length ≤ 8) : Nice 808 2 (nL ms) := by
  have q := nice_list (niceA_map (f := nD) (g := fun _ => 100) (m := 0) ms fun n hn => nice_int (h n hn))
  have e : ∀ l : List Nat, (l.map fun _ => 100 + 1).sum = 101 * l.length := by
    intro l
    induction l with
    | nil => rfl
    | cons x l ih => rw [List.map_cons, List.sum_cons, ih, List.length_cons]; omega
  rw [e] at q
  exact q.mono (by omega) (by omega)
theorem nice_nTT {L : List (List Nat)} {c : Nat} (h : ∀ m ∈ L, (∀ n ∈ m, n < 256) ∧ m.length ≤ 8) (hl : L.length ≤ c) : Nice (809 * c) 2 (nTT L) := by
  have q := nice_list (niceA_map (f := nT) (g := fun _ => 808) (m := 1) L fun m hm => nice_nT (h m hm).1 (h m hm).2)
  have e : ∀ l : List (List Nat), (l.map fun _ => 808 + 1).sum = 809 * l.length := by
    intro l
    induction l with
    | nil => rfl
    | cons x l ih => rw [List.map_cons, List.sum_cons, ih, List.length_cons]; omega
  rw [e] at q
  exact q.mono (Nat.mul_le_mul_left _ hl) (Nat.le_refl _)
theorem smeet_small {t : Kh.T} (h : preW t) {m : List Nat} (hm : m ∈ smeets t) : (∀ n ∈ m, n < 256) ∧ m.length ≤ 8 :=
  ⟨fun n hn => by
    have := (smeets_mem.mp hm).1.subset hn
    unfold mem at this
    have := List.mem_range.mp (List.mem_filter.mp this).1
    omega, by have := smeet_few h hm; omega⟩
/-- what the three lists tell -/
def tld (v : Rul) : PyData := .list [nTT (smeets v.r), nTT (smeets v.w), nL (wrt v)]
theorem nice_tld {v : Rul} (ok : OkR v) : ∃ n m, Nice n m (tld v) ∧ n ≤ 1000000 ∧ m ≤ 60 := by
  have h1 := nice_nTT (c := 128) (fun m hm => smeet_small ok.prr hm) (smeets_few ok.prr)
  have h2 := nice_nTT (c := 128) (fun m hm => smeet_small ok.prw hm) (smeets_few ok.prw)
  have n5 := ok.few
  have h3 : Nice 808 2 (nL (wrt v)) := nice_nL (fun n hn => by
    have := List.mem_range.mp (List.mem_filter.mp hn).1
    omega) (by
      have := List.length_filter_le (fun h => (smeets v.w).any fun m => decide (h ∈ m)) (List.range v.n)
      rw [List.length_range] at this
      exact Nat.le_trans this (by omega))
  have h4 : NiceA 0 2 [] := niceA_nil.mono (Nat.le_refl _) (Nat.zero_le _)
  exact ⟨_, _, nice_list (niceA_cons h1 (niceA_cons h2 (niceA_cons h3 h4))), by decide, by decide⟩
theorem tells_tld {K : PySem.W.Frag} {H : Hp} {v : V} {u : Rul} (ok : OkR u) (h : Dp K H v (tld u)) : Tells K H v (tld u) := ⟨h, nice_tld ok, .inr ⟨_, rfl⟩⟩
/-- the words -/
def wText (v : Rul) : Str := (toString ((v.n : Nat) : Int) : Str) ++ (", " : Str) ++ (tText v.r ++ (", " : Str) ++ (tText v.w ++ (", " : Str) ++ (reprText v.wr ++ (", " : Str) ++ reprText v.bk)))
def texts (v : Rul) : List Str := [(toString ((v.n : Nat) : Int) : Str), tText v.r, tText v.w, reprText v.wr, reprText v.bk]
theorem join_w (v : Rul) : Txt.join (", " : Str) (texts v) = wText v := by
  rw [TL.join_eq]; rfl
theorem r_w {v : Rul} (md : Md v) : rText v = ("Rule(" : Str) ++ wText v ++ (")" : Str) := by
  unfold rText wText
  rw [md.gr.fl, md.gw.fl]
  simp only [PySem.Str.append_assoc]
theorem wText_len {v : Rul} (md : Md v) (h5 : v.n ≤ 5) : (wText v).length ≤ 1300000 := by
  have ok := md.okr h5
  have l1 := len_n ok
  have l2 := text_len _ ok.okr
  have l3 := text_len _ ok.okw
  have l4 := len_wr ok
  have l5 := len_bk ok
  have c2 : (", " : Str).length = 2 := by decide
  unfold wText
  simp only [strLen_append]
  omega
end K31

set_option maxRecDepth 100000
set_option maxHeartbeats 4000000
namespace K31
open PySem PySem.Spec PyProof.Rows L2 Kh
open Classical in
theorem sameT_refl (t : Kh.T) : sameT t t = true := by unfold sameT; exact decide_eq_true rfl
section
variable {P : Program} {w : World} {K : PySem.W.Frag} {mg : Str → Option Value} {base : Heap} {a : Nat → Addr} {fd : Nat → FuncData} {C : Addr} {tk : Nat → Tok}
/-- [e for x in xs], any items, any results -/
theorem lc_genL {S : Addr → Prop} {H : Hp} {σ : L2.St} {t te : TE} {sl : Nat} {vs : List Nat} {Q : VK} {ra : Addr} {xs : List V} (Pj : Nat → V → Hp → Prop) (mono : ∀ j y H H', Same H H' → Pj j y H → Pj j y H') (kn : Kn S H)
    (hev : ∀ Q : VK, Q (.ref ra) H → t σ H Q) (hsq : SqL K (off S H) ra xs) (hn : xs.length ≤ 100000) (hw : ∀ x, wipe ((wipe σ vs).set sl (some x)) vs = wipe σ vs)
    (body : ∀ j x H1 S', xs[j]? = some x → Same H H1 → Kn S' H1 → Same (off S H) (off S' H1) → ∀ Q : VK, (∀ y H', Same H1 H' → Pj j y (off S' H') → Q y H') → te ((wipe σ vs).set sl (some x)) H1 Q)
    (done : ∀ D H1 ys, H D = none → Same H H1 → H1 D = some (.lst ys) → ys.length = xs.length → (∀ (j : Nat) y, ys[j]? = some y → Pj j y (off S H1)) → Q (.ref D) H1) :
    tLc (fun σ H R => iList K t σ H R ∨ iTup K t σ H R) (gName sl) tYes te vs σ H Q := by
  refine .inl (hev _ ⟨ra, rfl, ⟨xs, off_sub.seq hsq⟩, fun D hD => ?_⟩)
  refine lc_map (Qd := Q (.ref D)) (walk_list (K := K) (a := ra) (xs := xs)) (fun j x => xs[j]? = some x) (fun i H x H' _ y => y) (fun j y H => Pj j y (off (plus S D) H)) (fun H' s => (off_sub.trans s).seq hsq) hD hn hw (fun j y H H' e h => mono _ _ _ _ (off_but e) h) (fun j x H1 hj xj s hd Q q => ?_) (fun ys H1 hl py s hd => ?_)
  · exact body j x H1 (plus S D) xj s ((kn.same s).plus hd) (off_plus hD s) Q q
  · exact done D H1 ys hD s hd hl fun j y hy => mono _ _ _ _ off_fin (py j y hy)
/-- two equal trees -/
def EqR (K : PySem.W.Frag) (C : Addr) (x y : Addr) (H : Hp) : Prop := ∃ S t u, Kn S H ∧ TreeAt K C (off S H) t x ∧ TreeAt K C (off S H) u y ∧ Okt t ∧ Okt u ∧ flg true t = flg true u
theorem eqR_mon {x y : Addr} {H H' : Hp} (e : Same H H') (h : EqR K C x y H) : EqR K C x y H' := by
  obtain ⟨S, t, u, kn, h1, h2, r⟩ := h
  exact ⟨S, t, u, kn.same e, h1.same (off_same e), h2.same (off_same e), r⟩
theorem ok_eqR {n : Nat} (F : FnOk P w K mg base CX0 n (a 15) (fd 15) ["self", "other"] (spEqT K C)) : FnOk P w K mg base CX0 n (a 15) (fd 15) ["self", "other"] (spEq (EqR K C)) := F.imp fun vs H Q E h => by
  obtain ⟨x, y, rfl, ⟨S, t, u, kn, h1, h2, o1, o2, e⟩, q⟩ := h
  exact ⟨S, t, x, .ref y, rfl, kn, h1, o1, .inl ⟨u, y, rfl, h2, o2, fun H' s => by rw [e, sameT_refl]; exact q H' s⟩⟩end
section
variable {P : Program} {w : World} {K : PySem.W.Frag} {mg : Str → Option Value} {base : Heap} {a : Nat → Addr} {fd : Nat → FuncData} {C R : Addr} {tk : Nat → Tok} {aW aB : Addr}
/-- as lc_dat, with the length -/
theorem lc_datL {K : PySem.W.Frag} {S : Addr → Prop} {H1 : Hp} {σ : L2.St} {te : TE} {sl : Nat} {vs : List Nat} {Qd : VK} {J : It} {xs : List V} {ds : List PyData} (f : Nat → PyData)
    (w : Walk J xs.length (fun H' => Same (off S H1) H') (YAt xs)) (ha : DpAll K (off S H1) xs ds) (kn : Kn S H1) (hn : ds.length ≤ 100000) (hw : ∀ x, wipe ((wipe σ vs).set sl (some x)) vs = wipe σ vs)
    (body : ∀ j x d H S', ds[j]? = some d → Same H1 H → Kn S' H → Dp K (off S' H) x d → (∀ a, S a → S' a) → Same (off S H1) (off S' H) → ∀ Q : VK, (∀ y H', Same H H' → Dp K (off S' H') y (f j) → Q y H') → te ((wipe σ vs).set sl (some x)) H Q)
    (done : ∀ D H ys, H1 D = none → Same H1 H → H D = some (.lst ys) → ys.length = ds.length → Dp K (off S H) (.ref D) (.list ((List.range ds.length).map f)) → Qd (.ref D) H) :
    ∀ D, H1 D = none → ∃ W : Nat → Nat → Hp → Prop, (∃ m, W 0 m (upd H1 D (.lst []))) ∧ ∀ i m H, W i m H →
      (J.stop i H ∧ Qd (.ref D) H) ∨ (J.go i H ∧ ∃ Nx : Hp → Prop, (∀ H', Nx H' → ∃ m', m' < m ∧ W (i + 1) m' H') ∧ ∀ x H', J.yld i H x H' → gName sl x (wipe σ vs) H' fun σ2 H2 => wipe σ2 vs = wipe σ vs ∧ tYes σ2 H2 fun b H3 =>
        if b = true then te σ2 H3 fun y H4 => ∃ acc, H4 D = some (.lst acc) ∧ acc.length < sizeLine ∧ Nx (upd H4 D (.lst (acc ++ [y]))) else Nx H3) := by
  intro D hD
  have ln := dpa_len ha
  refine lc_map (Qd := Qd (.ref D)) w (fun j x => xs[j]? = some x) (fun i H x H' _ y => y) (fun j y H => Dp K (off (plus S D) H) y (f j)) (fun H s => off_sub.trans s) hD (by omega) hw (fun j y H H' e h => dp_same (off_but e) _ _ h) (fun j x H hj xj s hd Q q => ?_) (fun ys H hl py s hd => ?_)
  · obtain ⟨d, dj, dx⟩ := dpa_at ha xj
    exact body j x d H (plus S D) dj s ((kn.same s).plus hd) (dp_same (off_plus hD s) _ _ dx) (fun _ h => .inl h) (off_plus hD s) Q q
  · refine done D H ys hD s hd (by rw [hl, ln]) (dp_lst (kn.new hD) hd ?_)
    refine dpa_same (off_fin (D := D)) _ _ (dpa_of (by simp [hl, ln]) fun i v d h1 h2 => ?_)
    have hi : i < ds.length := by
      have := (List.getElem?_eq_some_iff.mp h1).1
      omega
    rw [List.getElem?_map, List.getElem?_range hi] at h2
    cases h2
    exact py i v h1
theorem t_tupsL {S : Addr → Prop} {H : Hp} {σ : L2.St} {t : TE} {sl : Nat} {vs : List Nat} {L : List (List Nat)} {Q : VK} (kn : Kn S H) (hev : ∀ Q : VK, (∀ u H1, Same H H1 → Dp K (off S H1) u (nLL L) → Q u H1) → t σ H Q) (hn : L.length ≤ 1000)
    (hw : ∀ x, wipe ((wipe σ vs).set sl (some x)) vs = wipe σ vs) (hs : ∀ x, ((wipe σ vs).set sl (some x))[sl]? = some (some x))
    (done : ∀ D H1 ys, H D = none → Same H H1 → H1 D = some (.lst ys) → ys.length ≤ 1000 → Dp K (off S H1) (.ref D) (nTT L) → Q (.ref D) H1) :
    tLc (fun σ H R => iList K t σ H R ∨ iTup K t σ H R) (gName sl) tYes (tCB (rTupOf K) (tCons (tVar sl) tNil)) vs σ H Q :=
  it_any (b := false) (ds := L.map nL) hev fun J xs H1 s ha w => lc_datL (fun j => nT ((L[j]?).getD [])) w ha (kn.same s) (by rw [List.length_map]; omega) hw (fun j x d H2 S' dj s2 kn2 dx hS hoff Q q => by
    obtain ⟨m, hj, hm, rfl⟩ := at_map dj
    exact t_cb1 (t_var (hs x) (tup_d (ds := m.map nD) kn2 dx rfl fun z H3 s3 d3 => q z H3 s3 (by rw [hj]; exact d3)))) fun D H2 ys hD s2 hd hl h => done D H2 ys (s.free hD) (s.trans s2) hd (by rw [hl, List.length_map]; exact hn) (by
      rw [List.length_map, range_map (l := L) (g := nT) fun i x e => by rw [e]; rfl] at h
      exact h)
/-- what is told is a new list, not long -/
def spRL (K : PySem.W.Frag) (C R : Addr) (f : Rul → PyData) : Sp := fun vs H Q _ => ∃ (S : Addr → Prop) (v : Rul) (x : Addr), vs = [.ref x] ∧ Kn S H ∧ RuleAt K C R (off S H) v x ∧ OkR v ∧ ∀ z H' ys, Same H H' → H z = none → H' z = some (.lst ys) → ys.length ≤ 1000 → Dp K (off S H') (.ref z) (f v) → Q (.ref z) H'
theorem ok_Rule_reading_meetingsL (T : Txt K mg a fd C tk) (U : TxC K mg a C) (W : TxR K mg a C R) : FnOk P w K mg base CX0 33 (a 32) (fd 32) ["self"] (spRL K C R fun v => nTT (smeets v.r)) := by
  have G_meetings := ok_meetings (P := P) (w := w) (base := base) T U
  refine T.F_Rule_reading_meetings.ok sc_Rule_reading_meetings (fun vs H Q E h => by obtain ⟨_, _, _, rfl, _⟩ := h; rfl) (fun cdv A outer s H vs Q E hr h => ?_)
  obtain ⟨S, v, x, rfl, kn, ⟨dx, x1, x2, hx, t1, t2⟩, ok, q⟩ := h
  refine ⟨_, (pss_one (ps_ret (pe_lc (own := [("houses", 1)]) (g := gName 1) (tt := tYes) rfl sc_Rule_reading_meetings.nd (k_pi (K := K) (pe_call G_meetings (hr.mono (by omega)) (by rfl) T.m_meetings T.F_meetings.kp T.b_meetings .nil pass0 (pa_cons (k_fld (K := K) (pv 0) rfl) pa_nil))) (blkOk_by (own := [("houses", 1)]) (N := Rule_reading_meetings_N) (sc := defScope Rule_reading_meetings_s) (by decide +kernel)) (fun _ _ _ _ _ => (pg_name (i := 1) sc_Rule_reading_meetings.nd rfl (Or.inl rfl))) (fun _ _ _ _ _ => pts_nil) (fun _ _ _ _ _ => (pe_callTy (k_tup (K := K)) (by rfl) T.z_tuple (by decide +kernel) (pa_cons (pv 1) pa_nil)))))), ?_⟩
  refine s_ret (t_tupsL (S := S) (L := smeets v.r) kn (fun Q q => t_call1 (t_fld (t_var rfl ⟨x, R, dx, _, _, rfl, (off_some hx).2, W.cls, W.n_reading, rfl, S, v.r, x1, (), [], rfl, kn, t1, ok.okr, .nil, ok.prr, fun u H' s' du => q u H' s' du⟩))) (by have := smeets_few ok.prr; omega) (fun _ => rfl) (fun _ => rfl) fun D H1 ys hD s1 hd hl h1 => q D H1 ys s1 hD hd hl h1)
theorem t_m1 {r : V → List V → Hp → VK → Prop} {to te : TE} {σ : L2.St} {H : Hp} {Q : VK} (h : to σ H fun x H1 => (∃ a, x = .str a) ∧ te σ H1 fun y H2 => r x [y] H2 Q) : tM1 r to te σ H Q := h
theorem t_r0 {f : Rul → PyData} {S : Addr → Prop} {σ : L2.St} {H : Hp} {v : Rul} {y : Addr} {i : Nat} {Q : VK} (hi : σ[i]? = some (some (.ref y))) (kn : Kn S H) (hv : RuleAt K C R (off S H) v y) (ok : OkR v)
    (q : ∀ u H', Same H H' → Dp K (off S H') u (f v) → Q u H') : tProp R (spR0 K C R f) [] E0 (tVar i) σ H Q := by
  obtain ⟨dx, x1, x2, hx, _⟩ := id hv
  exact t_prop (t_var hi ⟨y, dx, _, rfl, (off_some hx).2, S, v, y, (), [], rfl, kn, hv, ok, .nil, trivial, q⟩)
theorem t_rt {f : Rul → Kh.T} {S : Addr → Prop} {σ : L2.St} {H : Hp} {v : Rul} {y : Addr} {i : Nat} {Q : VK} (hi : σ[i]? = some (some (.ref y))) (hv : RuleAt K C R (off S H) v y)
    (q : ∀ z, TreeAt K C (off S H) (f v) z → Q (.ref z) H) : tProp R (spRT K C R f) [] E0 (tVar i) σ H Q := by
  obtain ⟨dx, x1, x2, hx, _⟩ := id hv
  exact t_prop (t_var hi ⟨y, dx, _, rfl, (off_some hx).2, S, v, y, rfl, hv, q⟩)
def spTold (K : PySem.W.Frag) (C R : Addr) : Sp := fun vs H Q _ => ∃ (S : Addr → Prop) (v : Rul) (x y : Addr), vs = [.ref x, .ref y] ∧ Kn S H ∧ MdAt K (off S H) v (smeets v.r) (smeets v.w) x ∧ RuleAt K C R (off S H) v y ∧ Md v ∧ v.n ≤ 5 ∧
  ∀ H', Same H H' → Q (.bl true) H'
theorem ok__law_told_right (T : Txt K mg a fd C tk) (U : TxC K mg a C) (D : TxD K C) (W : TxR K mg a C R) : FnG P w K mg base 40 (a 48) (fd 48) ["_law_model_here", "_law_rule_here"] (spTold K C R) := by
  have G_Tree_init := ok_Tree_init (P := P) (w := w) (base := base) T U
  have G_Tree_eq := ok_Tree_eq (P := P) (w := w) (base := base) T U D
  have G_eqR := ok_eqR G_Tree_eq
  have G_Tree_repr := ok_Tree_repr (P := P) (w := w) (base := base) T U
  have G_Rule_repr := ok_Rule_repr (P := P) (w := w) (base := base) T U W
  have G_Rule_houses := ok_Rule_houses (P := P) (w := w) (base := base) T W
  have G_Rule_reading := ok_Rule_reading (P := P) (w := w) (base := base) T W
  have G_Rule_writing := ok_Rule_writing (P := P) (w := w) (base := base) T W
  have G_Rule_writers := ok_Rule_writers (P := P) (w := w) (base := base) T W
  have G_Rule_back := ok_Rule_back (P := P) (w := w) (base := base) T W
  have G_Rule_reading_meetings := ok_Rule_reading_meetingsL (P := P) (w := w) (base := base) T U W
  have G_Rule_writing_meetings := ok_Rule_writing_meetings (P := P) (w := w) (base := base) T U W
  have G_Rule_written := ok_Rule_written (P := P) (w := w) (base := base) T U W
  have hMon : ∀ x y H H', Ext H H' → EqR K C x y H → EqR K C x y H' := fun x y H H' e h => eqR_mon e h
  obtain ⟨_, hp_houses⟩ := W.p_houses
  obtain ⟨_, hp_reading⟩ := W.p_reading
  obtain ⟨_, hp_writing⟩ := W.p_writing
  obtain ⟨_, hp_writers⟩ := W.p_writers
  obtain ⟨_, hp_back⟩ := W.p_back
  refine fun_okG T.F__law_told_right sc__law_told_right (fun vs H Q E h => by obtain ⟨_, _, _, _, rfl, _⟩ := h; rfl) (fun cdv A outer s H vs Q E hg hr h => ?_)
  obtain ⟨S, v, x, y, rfl, kn, ⟨xr, xw, xa, xp, hx, dr, dw, da, dp'⟩, hv, md, h5, q⟩ := h
  have ok := md.okr h5
  have n1 := md.pos
  have fx : ∀ {H' : Hp}, Same H H' → H' x = some (.dK (kM v.n xr xw v.wr v.bk xa xp)) := fun s => s _ _ (off_some hx).2
  have dA : ∀ {H' : Hp} {u : V} {d : PyData}, Same H H' → Dp K (off S H) u d → Dp K (off S H') u d := fun s h => dp_same (off_same s) _ _ h
  have vA : ∀ {H' : Hp}, Same H H' → RuleAt K C R (off S H') v y := fun s => hv.same (off_same s)
  refine ⟨_, (pss_cons (ps_par (i := 2) (j := 3) (by rfl) sc__law_told_right.nd rfl rfl (by decide) rfl rfl (pa_cons (pe_make U.M_Tree G_Tree_init (hr.mono (by omega)) (by rfl) U.m_Tree T.b_Tree_init .nil pass0 (pa_cons (pe_dget (Nat.lt_of_le_of_lt (Nat.add_le_add_left (show 1 ≤ 64 by decide) _) hr.units) (pv 0) pe_str (fun _ _ => rfl)) pa_nil)) (pa_cons (pe_make U.M_Tree G_Tree_init (hr.mono (by omega)) (by rfl) U.m_Tree T.b_Tree_init .nil pass0 (pa_cons (pe_dget (Nat.lt_of_le_of_lt (Nat.add_le_add_left (show 1 ≤ 64 by decide) _) hr.units) (pv 0) pe_str (fun _ _ => rfl)) pa_nil)) pa_nil)) (by rfl))
      (pss_cons (ps_set (i := 4) sc__law_told_right.nd rfl (Or.inl rfl) (pe_lst (pa_cons (pe_dget (Nat.lt_of_le_of_lt (Nat.add_le_add_left (show 1 ≤ 64 by decide) _) hr.units) (pv 0) pe_str (fun _ _ => rfl)) (pa_cons (pv 2) (pa_cons (pv 3) (pa_cons (pe_dget (Nat.lt_of_le_of_lt (Nat.add_le_add_left (show 1 ≤ 64 by decide) _) hr.units) (pv 0) pe_str (fun _ _ => rfl)) (pa_cons (pe_dget (Nat.lt_of_le_of_lt (Nat.add_le_add_left (show 1 ≤ 64 by decide) _) hr.units) (pv 0) pe_str (fun _ _ => rfl)) pa_nil)))))))
      (pss_cons (ps_if (pt_cmpR (op_neGL (mon_flat.or (mon_ins hMon)) ((eqG_flat.mono (Nat.zero_le _)).or (eqG_ins G_eqR U.me_eq.at_ U.me_eq.fn T.b_Tree_eq pass0)) (hr.mono (by omega))) (pe_lst (pa_cons (pe_prop (pv 1) W.cls hp_houses G_Rule_houses (hr.mono (by omega)) T.b_Rule_houses .nil pass0 rfl) (pa_cons (pe_prop (pv 1) W.cls hp_reading G_Rule_reading (hr.mono (by omega)) T.b_Rule_reading .nil pass0 rfl) (pa_cons (pe_prop (pv 1) W.cls hp_writing G_Rule_writing (hr.mono (by omega)) T.b_Rule_writing .nil pass0 rfl) (pa_cons (pe_prop (pv 1) W.cls hp_writers G_Rule_writers (hr.mono (by omega)) T.b_Rule_writers .nil pass0 rfl) (pa_cons (pe_prop (pv 1) W.cls hp_back G_Rule_back (hr.mono (by omega)) T.b_Rule_back .nil pass0 rfl) pa_nil)))))) (pv 4) (nomark _))
        (pss_one (ps_ret pe_bl)) pss_nil)
      (pss_cons (ps_set (i := 5) sc__law_told_right.nd rfl (Or.inl rfl) (pe_join pe_str (pe_lc (own := [("_law_thing", 9)]) (g := gName 9) (tt := tYes) rfl sc__law_told_right.nd (k_pi (K := K) (pv 4)) (blkOk_by (own := [("_law_thing", 9)]) (N := _law_told_right_N) (sc := defScope _law_told_right_s) (by decide +kernel)) (fun _ _ _ _ _ => (pg_name (i := 9) sc__law_told_right.nd rfl (Or.inl rfl))) (fun _ _ _ _ _ => pts_nil) (fun _ _ _ _ _ => (pe_callB (k_reprX (K := K) hg hr.units (runsG G_Tree_repr hg T.b_Tree_repr) (hr.mono (by omega)) W.me_reprT) (by rfl) T.z_repr (by decide +kernel) (pa_cons (pv 9) pa_nil))))))
      (pss_cons (ps_if (pt_cmpR op_ne (pe_callB (call_reprI (runsG G_Rule_repr hg T.b_Rule_repr) (hr.mono (by omega)) W.me_repr) (by rfl) T.z_repr (by decide +kernel) (pa_cons (pv 1) pa_nil)) (pe_op op_add_str (pe_op op_add_str pe_str (pv 5)) pe_str) (nomark _))
        (pss_one (ps_ret pe_bl)) pss_nil)
      (pss_cons (ps_setLc (i := 6) (own := [("_law_house", 10)]) (g := gName 10) (tt := _) rfl sc__law_told_right.nd rfl rfl (sw_true rfl rfl rfl (by decide +kernel)) (pi_range1 (by rfl) T.z_range (pa_cons (pe_dget (Nat.lt_of_le_of_lt (Nat.add_le_add_left (show 1 ≤ 64 by decide) _) hr.units) (pv 0) pe_str (fun _ _ => rfl)) pa_nil)) (blkOk_by (own := [("_law_house", 10)]) (N := _law_told_right_N) (sc := defScope _law_told_right_s) (by decide +kernel)) (fun _ _ _ _ _ => (pg_name (i := 10) sc__law_told_right.nd rfl (Or.inr rfl))) (fun _ _ _ _ _ => (pts_one (pt_val (pe_callB (k_any (K := K) rfl) (by rfl) T.z_any (by decide +kernel) (pa_cons (pe_lc (own := [("_law_lot", 11)]) (g := gName 11) (tt := tYes) rfl sc__law_told_right.nd (k_pi (K := K) (pe_dget (Nat.lt_of_le_of_lt (Nat.add_le_add_left (show 1 ≤ 64 by decide) _) hr.units) (pv 0) pe_str (fun _ _ => rfl))) (show BlkOk _law_told_right_N (relS _ (defScope _law_told_right_s)) _ [("_law_lot", 11)] from blkOk_by (by decide +kernel)) (fun _ _ _ _ _ => (pg_name (i := 11) sc__law_told_right.nd rfl (Or.inl rfl))) (fun _ _ _ _ _ => pts_nil) (fun _ _ _ _ _ => (pe_cmpR (k_in (K := K)) (pv 10) (pv 11) (by rfl)))) pa_nil))))) (fun _ _ _ _ _ => (pv 10)))
      (pss_cons (ps_for PassesOwn.never rfl (pi_range1 (by rfl) T.z_range (pa_cons pe_int pa_nil)) (pg_name (i := 7) sc__law_told_right.nd rfl (Or.inl rfl))
        (pss_cons (ps_set (i := 8) sc__law_told_right.nd rfl (Or.inl rfl) (pe_lst (pa_cons (pe_meth0 (pv 1) W.cls W.me_reading_meetings G_Rule_reading_meetings (hr.mono (by omega)) T.b_Rule_reading_meetings .nil pass0) (pa_cons (pe_meth0 (pv 1) W.cls W.me_writing_meetings G_Rule_writing_meetings (hr.mono (by omega)) T.b_Rule_writing_meetings .nil pass0) (pa_cons (pe_meth0 (pv 1) W.cls W.me_written G_Rule_written (hr.mono (by omega)) T.b_Rule_written .nil pass0) pa_nil)))))
        (pss_cons (ps_if (pt_cmpR op_ne (pe_callB (cr_reprD hg hr.units) (by rfl) T.z_repr (by decide +kernel) (pa_cons (pv 8) pa_nil)) (pe_callB (cr_reprD hg hr.units) (by rfl) T.z_repr (by decide +kernel) (pa_cons (pe_lst (pa_cons (pe_dget (Nat.lt_of_le_of_lt (Nat.add_le_add_left (show 1 ≤ 64 by decide) _) hr.units) (pv 0) pe_str (fun _ _ => rfl)) (pa_cons (pe_dget (Nat.lt_of_le_of_lt (Nat.add_le_add_left (show 1 ≤ 64 by decide) _) hr.units) (pv 0) pe_str (fun _ _ => rfl)) (pa_cons (pv 6) pa_nil)))) pa_nil)) (nomark _))
          (pss_one (ps_ret pe_bl)) pss_nil)
        (pss_cons (ps_expr (pe_bm PySem.F.plainAttrs_list PySem.F.slot_list_append PySem.F.type_list_append mt_append (pe_ix (k_ix (K := K)) (pv 8) pe_int (fun _ _ => rfl)) (pa_cons pe_non pa_nil)))
        (pss_cons (ps_expr (pe_bm0 PySem.F.plainAttrs_list PySem.F.slot_list_reverse PySem.F.type_list_reverse mt_reverse (pe_ix (k_ix (K := K)) (pv 8) pe_int (fun _ _ => rfl))))
        (pss_one (ps_expr (pe_bm0 PySem.F.plainAttrs_list PySem.F.slot_list_clear PySem.F.type_list_clear mt_clear (pe_ix (k_ix (K := K)) (pv 8) pe_int (fun _ _ => rfl))))))))))
      (pss_one (ps_ret pe_bl))))))))), ?_⟩
  refine s_seq (a_cons (mk_tree v.r md.gr.ok kn (fun Q q => t_dg rfl (fx (Same.refl _)) v_reading (q _ _ (Same.refl _) dr)) fun x1 H1 s1 t1 => ?_))
  refine a_cons (mk_tree v.w md.gw.ok (kn.same s1) (fun Q q => t_dg rfl (fx s1) v_writing (q _ _ (Same.refl _) (dA s1 dw))) fun x2 H2 s2 t2 => a_nil ⟨_, _, rfl, nx_of ?_⟩)
  have s02 := s1.trans s2
  have t1' := t1.same (off_same s2)
  refine s_seq (s_set (t_lst (a_cons (t_dg rfl (fx s02) v_many (a_cons (t_var rfl (a_cons (t_var rfl (a_cons (t_dg rfl (fx s02) v_writers (a_cons (t_dg rfl (fx s02) v_back (a_nil ⟨le5, fun L hL => nx_of ?_⟩)))))))))))))
  have sL := same_new (o := HO.lst [V.int (v.n : Nat), .ref x1, .ref x2, .str v.wr, .str v.bk]) hL
  have hLt : (upd H2 L (.lst [V.int (v.n : Nat), .ref x1, .ref x2, .str v.wr, .str v.bk])) L = some (.lst [V.int (v.n : Nat), .ref x1, .ref x2, .str v.wr, .str v.bk]) := upd_same
  generalize upd H2 L (.lst [V.int (v.n : Nat), .ref x1, .ref x2, .str v.wr, .str v.bk]) = H3 at *
  have s03 := s02.trans sL
  have kn3 := kn.same s03
  have u1 := t1'.same (off_same sL)
  have u2 := t2.same (off_same sL)
  refine s_seq (s_if (b_test (t_op (t_lst (a_cons (t_r0 rfl kn3 (vA s03) ok fun uh H4 s4 dh => ?_))))))
  cases dh
  have kn4 := kn3.same s4
  refine a_cons (t_rt (S := S) rfl (vA (s03.trans s4)) fun z1 tz1 => a_cons (t_rt (S := S) rfl (vA (s03.trans s4)) fun z2 tz2 => a_cons (t_r0 rfl kn4 (vA (s03.trans s4)) ok fun uw H5 s5 dw5 => ?_)))
  cases dw5
  refine a_cons (t_r0 rfl (kn4.same s5) (vA (s03.trans (s4.trans s5))) ok fun ub H6 s6 db6 => a_nil ⟨le5, fun M hM => ?_⟩)
  cases db6
  have s46 := s4.trans (s5.trans s6)
  have sM := same_new (o := HO.lst [V.int (v.n : Nat), .ref z1, .ref z2, .str v.wr, .str v.bk]) hM
  have hMt : (upd H6 M (.lst [V.int (v.n : Nat), .ref z1, .ref z2, .str v.wr, .str v.bk])) M = some (.lst [V.int (v.n : Nat), .ref z1, .ref z2, .str v.wr, .str v.bk]) := upd_same
  generalize upd H6 M (.lst [V.int (v.n : Nat), .ref z1, .ref z2, .str v.wr, .str v.bk]) = H7 at *
  have s37 := s46.trans sM
  have s47 := (s5.trans s6).trans sM
  have s07 := s03.trans s37
  have kn7 := kn3.same s37
  have hL7 := s37 _ _ hLt
  have w1 := u1.same (off_same s37)
  have w2 := u2.same (off_same s37)
  have y1 := tz1.same (off_same s47)
  have y2 := tz2.same (off_same s47)
  have dins : ∀ {t : Kh.T} {b c : Addr}, Okt t → TreeAt K C (off S H7) t b → TreeAt K C (off S H7) t c → DIns C (EqR K C) (.ref b) (.ref c) H7 := fun ok h1 h2 => by
    obtain ⟨d1, _, _, _, g1, _⟩ := id h1
    obtain ⟨d2, _, _, _, g2, _⟩ := id h2
    exact ⟨_, _, d1, d2, _, _, rfl, rfl, (off_some g1).2, (off_some g2).2, S, _, _, kn7, h1, h2, ok, ok, rfl⟩
  refine t_var rfl ⟨⟨M, L, _, _, rfl, rfl, hMt, hL7, Prs.cons (.inl ⟨rfl, rfl, by simp [eqV]⟩) (Prs.cons (.inr (dins ok.okr y1 w1)) (Prs.cons (.inr (dins ok.okw y2 w2)) (Prs.cons (.inl ⟨rfl, rfl, by simp [eqV]⟩) (Prs.cons (.inl ⟨rfl, rfl, by simp [eqV]⟩) Prs.nil))))⟩, fun H8 s8 => ⟨_, rfl, ifF rfl (s_next ?_)⟩⟩
  have s08 := s07.trans s8
  have kn8 := kn7.same s8
  have hL8 := s8 _ _ hL7
  have w1' := w1.same (off_same s8)
  have w2' := w2.same (off_same s8)
  have nSL : ¬ S L := (kn.same s02).new hL
  refine s_seq (s_set (t_m1 (t_c ⟨⟨_, rfl⟩, lc_genL (S := S) (ra := L) (xs := [V.int (v.n : Nat), .ref x1, .ref x2, .str v.wr, .str v.bk]) (fun j y _ => ∃ s, (texts v)[j]? = some s ∧ y = .str s) (fun _ _ _ _ _ h => h) kn8 (fun Q q => t_var rfl q) (sqL (by rw [off_out nSL]; exact hL8)) (show 5 ≤ 100000 by decide) (fun _ => rfl) (fun j z H9 S9 hj s9 kn9 so Q q => ?_) fun D9 H9 ys hD s9 hd9 len pj => ?_⟩)))
  · have mv : Same (off S H8) (off S9 H9) := so
    match j, hj with
    | 0, hj =>
      simp at hj; subst hj
      refine t_cb1 (t_var rfl (.inl ⟨_, .int (v.n : Nat), rfl, ⟨.int _, ⟨_, _, nice_int (show v.n < 256 by omega), by decide, by decide⟩, .inl ⟨_, rfl⟩⟩, ?_⟩))
      exact q _ _ (Same.refl _) ⟨_, rfl, by rw [PyData.shown]⟩
    | 1, hj =>
      simp at hj; subst hj
      exact t_cb1 (t_var rfl (.inr (.inl ⟨.ref x1, rfl, isI_at (w1'.same mv), S9, v.r, x1, rfl, kn9, w1'.same mv, ok.okr, fun H' s' => ⟨_, rfl, q _ H' s' ⟨_, rfl, by rw [md.gr.fl]⟩⟩⟩)))
    | 2, hj =>
      simp at hj; subst hj
      exact t_cb1 (t_var rfl (.inr (.inl ⟨.ref x2, rfl, isI_at (w2'.same mv), S9, v.w, x2, rfl, kn9, w2'.same mv, ok.okw, fun H' s' => ⟨_, rfl, q _ H' s' ⟨_, rfl, by rw [md.gw.fl]⟩⟩⟩)))
    | 3, hj =>
      simp at hj; subst hj
      exact t_cb1 (t_var rfl (.inr (.inr ⟨v.wr, rfl, Nat.le_trans (len_wr ok) (by decide), q _ _ (Same.refl _) ⟨_, rfl, rfl⟩⟩)))
    | 4, hj =>
      simp at hj; subst hj
      exact t_cb1 (t_var rfl (.inr (.inr ⟨v.bk, rfl, Nat.le_trans (len_bk ok) (by decide), q _ _ (Same.refl _) ⟨_, rfl, rfl⟩⟩)))
    | j + 5, hj => simp at hj
  have s09 := s08.trans s9
  have kn9 := kn8.same s9
  have ey : ys = (texts v).map V.str := by
    refine List.ext_getElem? fun j => ?_
    rw [List.getElem?_map]
    by_cases hj : j < ys.length
    · obtain ⟨s, h1, h2⟩ := pj j ys[j] (List.getElem?_eq_getElem hj)
      rw [h1, List.getElem?_eq_getElem hj, h2]; rfl
    · rw [List.getElem?_eq_none (by omega), List.getElem?_eq_none (by rw [len] at hj; exact Nat.le_of_not_lt hj)]; rfl
  have l1 := len_n ok
  have l2 := text_len _ ok.okr
  have l3 := text_len _ ok.okw
  have l4 := len_wr ok
  have l5 := len_bk ok
  have c2 : (", " : Str).length = 2 := by decide
  have lsum : ((texts v).map (·.length)).sum + (texts v).length * (", " : Str).length ≤ 16777216 := by
    unfold texts
    simp only [List.map_cons, List.map_nil, List.sum_cons, List.sum_nil, List.length_cons, List.length_nil, c2]
    omega
  refine ⟨", ", D9, texts v, rfl, rfl, .inl (sqL (by rw [← ey]; exact hd9)), lsum, nx_of ?_⟩
  rw [join_w]
  have lw := wText_len md h5
  have cR : ("Rule(" : Str).length = 5 := by decide
  have cP : (")" : Str).length = 1 := by decide
  refine s_seq (s_if (b_test (t_op (t_cb1 (t_var rfl ⟨.ref y, rfl, isI_of (vA s09), S, v, y, rfl, kn9, vA s09, ok, fun H10 s10 => ⟨_, rfl, ?_⟩⟩)))))
  refine t_op (t_op (t_c (t_var rfl ⟨_, _, rfl, rfl, Nat.le_trans (show _ ≤ 1300005 by rw [cR]; omega) (by decide), t_c ⟨_, _, rfl, rfl, Nat.le_trans (show _ ≤ 1300006 by rw [strLen_append, cR, cP]; omega) (by decide), ⟨rfl, _, rfl, ifF (by rw [decide_eq_true (show V.str (rText v) = V.str (("Rule(" : Str) ++ wText v ++ (")" : Str)) by rw [r_w md])]; rfl) (s_next ?_)⟩⟩⟩)))
  have s0a := s09.trans s10
  have kna := kn9.same s10
  refine s_seq (s_set (lc_rngF (K := K) (S := S) (n := v.n) (fun h => (smeets v.w).any fun m => decide (h ∈ m)) nD kna (by omega) (fun q h => a_cons (t_dg rfl (fx s0a) v_many (a_nil (h _ (Same.refl _))))) (fun _ => rfl) (fun j Hb S' hj sb knb hSb ho Q q => ?_) (fun j Hb S' hj pj sb knb hSb ho Q q => t_var rfl (q _ _ (Same.refl _) (.int _))) fun Dw Hb ysb hDb sb hdb db => nx_of ?_))
  · refine b_val (t_cb1 (lcM (S := S') false (smeets v.w) nT (fun m => .bool (decide (j ∈ m))) knb (fun Q q => t_dg rfl (fx (s0a.trans sb)) v_puts (q _ _ (Same.refl _) (dp_same ((off_same s0a).trans ho) _ _ dp'))) (by have := smeets_few ok.prw; omega) (fun _ => rfl) (fun m hm z Hc Sc sc knc dz hSc hoc Qc qc => ?_) fun Dc Hc ysc hDc sc hdc hc => ?_))
    · exact t_op (t_var rfl (t_var rfl (in_nT dz (qc _ _ (Same.refl _) (.bl _)))))
    · refine any_d (bs := (smeets v.w).map fun m => decide (j ∈ m)) off_sub (by rw [List.map_map]; exact hc) ⟨_, rfl, ?_⟩
      have e : ((smeets v.w).map fun m => decide (j ∈ m)).any id = (smeets v.w).any fun m => decide (j ∈ m) := by rw [List.any_map]; rfl
      rw [e]; exact q _ sc
  have s0b := s0a.trans sb
  have knb := kna.same sb
  replace db : Dp K (off S Hb) (.ref Dw) (nL (wrt v)) := db
  refine s_seq ?_
  show iRng1 (tCons (tC (.int 2)) tNil) _ _ _
  refine r_rng (a_cons (t_c (a_nil ⟨2, rfl, by decide, by decide, ?_⟩)))
  refine for_it walk_range (fun i σ' H' => ∃ x7 x8 : Option V, σ' = [some (.ref x), some (.ref y), some (.ref x1), some (.ref x2), some (.ref L), some (.str (wText v)), some (.ref Dw), x7, x8, none, none, none] ∧ Same Hb H') ⟨_, _, rfl, Same.refl _⟩ (fun _ _ _ _ _ => trivial) ?_ ?_
  · rintro i x0 σ' Hx Hc hi ⟨x7, x8, rfl, sc⟩ ⟨rfl, rfl⟩
    refine g_name ?_
    have s0c := s0b.trans sc
    have knc := knb.same sc
    obtain ⟨dx, e1, e2, hy, _⟩ := id hv
    have fy : ∀ {H' : Hp}, Same H H' → H' y = some (.ins R dx (fldR v.n e1 e2 v.wr v.bk)) := fun s => s _ _ (off_some hy).2
    refine s_seq (s_set (t_lst (a_cons (t_meth0 (t_var rfl ⟨y, dx, _, rfl, fy s0c, rfl, S, v, y, rfl, knc, vA s0c, ok, fun z1 Hd ys1 sd hz1 hys1 hl1 dz1 => ?_⟩)))))
    refine a_cons (t_meth0 (t_var rfl ⟨y, dx, _, rfl, fy (s0c.trans sd), rfl, S, v, y, rfl, knc.same sd, vA (s0c.trans sd), ok, fun z2 He ys2 se hz2 hys2 dz2 => ?_⟩))
    refine a_cons (t_meth0 (t_var rfl ⟨y, dx, _, rfl, fy (s0c.trans (sd.trans se)), rfl, S, v, y, rfl, knc.same (sd.trans se), vA (s0c.trans (sd.trans se)), ok, fun z3 Hf ys3 sf hz3 hys3 dz3 => a_nil ⟨le3, fun N hN => nx_of ?_⟩⟩))
    have sN := same_new (o := HO.lst [V.ref z1, .ref z2, .ref z3]) hN
    have hNt : (upd Hf N (.lst [V.ref z1, .ref z2, .ref z3])) N = some (.lst [V.ref z1, .ref z2, .ref z3]) := upd_same
    have knf := knc.same (sd.trans (se.trans sf))
    have dN : Dp K (off S (upd Hf N (.lst [V.ref z1, .ref z2, .ref z3]))) (.ref N) (tld v) := dp_newL knf hN (.cons (dp_same (off_same (se.trans sf)) _ _ dz1) (.cons (dp_same (off_same sf) _ _ dz2) (.cons dz3 .nil)))
    generalize upd Hf N (.lst [V.ref z1, .ref z2, .ref z3]) = Hg at *
    have sdg := sd.trans (se.trans (sf.trans sN))
    have s0g := s0c.trans sdg
    have kng := knf.same sN
    refine s_seq (s_if (b_test (t_op (t_cb1 (t_var rfl ⟨_, tld v, rfl, tells_tld ok (dp_same off_sub _ _ dN), ?_⟩)))))
    refine t_cb1 (t_lst (a_cons (t_dg rfl (fx s0g) v_asks (a_cons (t_dg rfl (fx s0g) v_puts (a_cons (t_var rfl (a_nil ⟨le3, fun M2 hM2 => ?_⟩))))))))
    have sM2 := same_new (o := HO.lst [xa, xp, .ref Dw]) hM2
    have dM2 : Dp K (off S (upd Hg M2 (.lst [xa, xp, .ref Dw]))) (.ref M2) (tld v) := dp_newL kng hM2 (.cons (dA s0g da) (.cons (dA s0g dp') (.cons (dp_same (off_same (sc.trans sdg)) _ _ db) .nil)))
    generalize upd Hg M2 (.lst [xa, xp, .ref Dw]) = Hh at *
    refine ⟨_, tld v, rfl, tells_tld ok (dp_same off_sub _ _ dM2), ⟨rfl, _, rfl, ifF (by rw [decide_eq_true rfl]; rfl) (s_next ?_)⟩⟩
    have hN2 := sM2 _ _ hNt
    have a1 : Hh z1 = some (.lst ys1) := (se.trans (sf.trans (sN.trans sM2))) _ _ hys1
    have a2 : Hh z2 = some (.lst ys2) := (sf.trans (sN.trans sM2)) _ _ hys2
    have a3 : Hh z3 = some (.lst ys3) := (sN.trans sM2) _ _ hys3
    have b1 : Hc z1 = none := hz1
    have b2 : Hc z2 = none := by
      cases e : Hc z2 with
      | none => rfl
      | some o => rw [sd _ _ e] at hz2; cases hz2
    have b3 : Hc z3 = none := by
      cases e : Hc z3 with
      | none => rfl
      | some o => rw [(sd.trans se) _ _ e] at hz3; cases hz3
    have ne (z : Addr) (h : Hf z ≠ none) : N ≠ z := fun e => h (e ▸ hN)
    have n1' : N ≠ z1 := ne z1 (some_ne ((se.trans sf) _ _ hys1))
    have n2' : N ≠ z2 := ne z2 (some_ne (sf _ _ hys2))
    have n12 : z2 ≠ z1 := fun e => by rw [e, hys1] at hz2; cases hz2
    have n13 : z3 ≠ z1 := fun e => by rw [e, se _ _ hys1] at hz3; cases hz3
    have n23 : z3 ≠ z2 := fun e => by rw [e, hys2] at hz3; cases hz3
    have at_ : ∀ {H' : Hp} {j : Nat} {u : V} {Q' : VK}, H' N = some (.lst [V.ref z1, .ref z2, .ref z3]) → [V.ref z1, .ref z2, .ref z3][j]? = some u → Q' u H' → rIx K (.ref N) (.int (j : Nat)) H' Q' := fun {H' j u Q'} h hj q => .inl ⟨N, _, ((j : Nat) : Int), u, rfl, rfl, sqL h, atI_nat hj, q⟩
    refine s_seq (s_drop (t_bm (t_op (t_var rfl (t_c (at_ (j := 0) hN2 rfl ⟨.inl ⟨rfl, _, sqL a1⟩, a_cons (t_c (a_nil ⟨z1, ys1, .non, rfl, rfl, a1, Nat.lt_of_le_of_lt hl1 (by decide), nx_of ?_⟩))⟩))))))
    refine s_seq (s_drop (t_bm0 (t_op (t_var rfl (t_c (at_ (j := 1) (by rw [upd_ne n1']; exact hN2) rfl ⟨.inl ⟨rfl, _, sqL (by rw [upd_ne n12]; exact a2)⟩, z2, ys2, rfl, rfl, by rw [upd_ne n12]; exact a2, nx_of ?_⟩))))))
    refine s_drop (t_bm0 (t_op (t_var rfl (t_c (at_ (j := 2) (by rw [upd_ne n2', upd_ne n1']; exact hN2) rfl ⟨.inl ⟨rfl, _, sqL (by rw [upd_ne n23, upd_ne n13]; exact a3)⟩, z3, ys3, rfl, rfl, by rw [upd_ne n23, upd_ne n13]; exact a3, nx_of ⟨_, _, rfl, fun b o h => ?_⟩⟩)))))
    have h' := sc b o h
    rw [upd_ne (ne_of_none h' b3), upd_ne (ne_of_none h' b2), upd_ne (ne_of_none h' b1)]
    exact (sdg.trans sM2) b o h'
  · rintro σ' H' ⟨x7, x8, rfl, sc⟩
    exact nx_of (s_ret (t_c (q H' (s0b.trans sc))))
end
end K31

set_option maxRecDepth 100000
set_option maxHeartbeats 4000000
namespace K31
open PySem PySem.Spec PyProof.Rows L2 Kh
theorem sameR_refl (v : Rul) : sameR v v = true := by
  unfold sameR
  rw [sameT_refl, sameT_refl]; simp
/-- the other one may be of the other class -/
def rEqJ (R C : Addr) (K : PySem.W.Frag) (sp : Sp) : R2 := fun x y H Q => isI H R x ∧ (tyOk K H R y ∨ isI H C y) ∧ sp [x, y] H Q E0
theorem k_eqJ {X : Cx} {K : PySem.W.Frag} {k : Nat} {f R C : Addr} {sp : Sp} (Rn : Runs X k f sp) (hr : Room k X.A) (M : Meth X.K R "__eq__" f) (nf : PySem.W.notFirst X.K R (.ref C) = true) (h : X.K = K := by rfl) : OpR X (compareOp .Eq) (rEqJ R C K sp) := by
  subst h
  intro pins s σ H x y v u Q I rx ry h
  obtain ⟨⟨a, dx, fs, rfl, ha⟩, ty, hs⟩ := h
  have lt : ∃ tb, PySem.W.Looks (model X.prog X.w) s.heap (typeOf u) tb ∧ PySem.W.notFirst X.K R tb = true := by
    rcases ty with ty | ⟨b, dy, gs, rfl, hb⟩
    · exact looks_ty I ry ty
    · cases ry
      obtain ⟨mB, J2, _⟩ := ins_get I.hok hb
      obtain ⟨od2, J2, _⟩ := J2.look
      exact ⟨.ref C, J2.type, nf⟩
  cases rx
  obtain ⟨mA, J, _⟩ := ins_get I.hok ha
  obtain ⟨od, J, _⟩ := J.look
  obtain ⟨m, hF⟩ := I.fr
  obtain ⟨tb, hb, hn⟩ := lt
  exact PySem.W.cmp_K (op := .Eq) hr.units0 hF I.ok.mod.kin J hb hn M.at_ M.fn (wpAny_mono (Rn X.A pins σ H s [.ref a, u] [.ref a, y] _ X.xe rfl rfl hr I (.cons rfl (.cons ry .nil)) hs) (fun r s' q => back_of q) fun _ _ z => z)
/-- how the five keywords are bound -/
abbrev KwRule (K : PySem.W.Frag) (fd : FuncData) : Prop := KBn K fd ["self", "houses", "reading", "writing", "writers", "back"] 1 ["back", "writers", "writing", "reading", "houses"] (fun us ws => us ++ ws.reverse) (fun vs zs => vs ++ zs.reverse)
abbrev B2Rule (K : PySem.W.Frag) (fd : FuncData) : Prop := ∃ ds, Vals [V.str "one", V.str "always"] ds ∧ Binds K fd ["self", "houses", "reading", "writing", "writers", "back"] ds
section
variable {P : Program} {w : World} {K : PySem.W.Frag} {mg : Str → Option Value} {base : Heap} {a : Nat → Addr} {fd : Nat → FuncData} {C R : Addr} {tk : Nat → Tok} {aW aB : Addr}
theorem t_mkK {sp : Sp} {m : Nat} {gV : List V → List V → List V} {tk : TA} {σ : L2.St} {H : Hp} {Q : VK} (h : tk σ H fun zs H2 => ([] : List V).length = 0 ∧ zs.length = m ∧ ∀ x dx, H2 x = none → H2 dx = none → dx ≠ x → sp (gV [.ref x] zs) (upd (upd H2 dx (.own x)) x (.ins R dx [])) (fun v H3 => v = .non ∧ Q (.ref x) H3) E0) : tMakeK R 0 m sp gV E0 tNil tk σ H Q := h
theorem bind_ruleQ {S : Addr → Prop} {H1 : Hp} {x1 x2 x dx : Addr} {Q : VK} (v : Rul) (ok : OkR v) (kn : Kn S H1) (t1 : TreeAt K C (off S H1) v.r x1) (t2 : TreeAt K C (off S H1) v.w x2) (hx : H1 x = none) (hdx : H1 dx = none) (ne : dx ≠ x)
    (q : ∀ H', Same H1 H' → RuleAt K C R (off S H') v x → Q .non H') :
    spRInit K C R (.ref x :: [.int (v.n : Nat), .ref x1, .ref x2, .str v.wr, .str v.bk]) (upd (upd H1 dx (.own x)) x (.ins R dx [])) Q E0 := by
  have sm := same_ins (o := HO.own x) (o' := HO.ins R dx []) hx hdx
  have hup : (upd (upd H1 dx (.own x)) x (.ins R dx [])) x = some (.ins R dx []) := upd_same
  refine ⟨plus S x, x, dx, x1, x2, v, rfl, (kn.same sm).plus (some_ne hup), .inr rfl, hup, t1.same (off_plus hx sm), t2.same (off_plus hx sm), ok, fun H' sb hx' => q H' (fun b o h => sb b o (ne_of_none h hx) (sm b o h)) ⟨dx, x1, x2, ?_, ?_, ?_⟩⟩
  · rw [off_out (kn.new hx)]; exact hx'
  all_goals
    have mv : Same (off S H1) (off S H') := off_same fun b o h => sb b o (ne_of_none h hx) (sm b o h)
  · exact t1.same mv
  · exact t2.same mv
theorem bind_ruleK {S : Addr → Prop} {H1 : Hp} {x1 x2 x dx : Addr} {Q : VK} (v : Rul) (ok : OkR v) (kn : Kn S H1) (t1 : TreeAt K C (off S H1) v.r x1) (t2 : TreeAt K C (off S H1) v.w x2) (hx : H1 x = none) (hdx : H1 dx = none) (ne : dx ≠ x)
    (q : ∀ H', Same H1 H' → RuleAt K C R (off S H') v x → Q .non H') :
    spRInit K C R ([V.ref x] ++ [V.str v.bk, V.str v.wr, V.ref x2, V.ref x1, V.int (v.n : Nat)].reverse) (upd (upd H1 dx (.own x)) x (.ins R dx [])) Q E0 := by
  have e : ([V.ref x] ++ [V.str v.bk, V.str v.wr, V.ref x2, V.ref x1, V.int (v.n : Nat)].reverse) = .ref x :: [.int (v.n : Nat), .ref x1, .ref x2, .str v.wr, .str v.bk] := by simp
  rw [e]
  exact bind_ruleQ v ok kn t1 t2 hx hdx ne q
theorem ty_dat {S : Addr → Prop} {H : Hp} {v : V} {d : PyData} {K : PySem.W.Frag} {C : Addr} (D : TxD K C) (h : Dp K (off S H) v d) : tyOk K H C v := .inr ⟨_, tyx_d (dp_same off_sub _ _ h), D.nf _ (ty_in h)⟩
def spRight (K : PySem.W.Frag) : Sp := fun vs H Q _ => ∃ (S : Addr → Prop) (p : Addr), vs = [.ref p] ∧ Kn S H ∧ S p ∧ PotAt H p ∧ ∀ H', SameBut p H H' → PotAt H' p → Q (.bl true) H'
theorem ok__law_right (T : Txt K mg a fd C tk) (U : TxC K mg a C) (D : TxD K C) (W : TxR K mg a C R) (Y : TxV K mg aW aB) (KB : KwRule K (fd 26)) (B2 : B2Rule K (fd 26)) : FnG P w K mg base 44 (a 51) (fd 51) ["_law_pot_here"] (spRight K) := by
  have G_Tree_init := ok_Tree_init (P := P) (w := w) (base := base) T U
  have G_Rule_init := ok_Rule_init (P := P) (w := w) (base := base) T U D W Y
  have G_Rule_eq := ok_Rule_eq (P := P) (w := w) (base := base) T U D W
  have G_Rule_repr := ok_Rule_repr (P := P) (w := w) (base := base) T U W
  have G_Rule_writers := ok_Rule_writers (P := P) (w := w) (base := base) T W
  have G_Rule_back := ok_Rule_back (P := P) (w := w) (base := base) T W
  have G__law_model := ok__law_model (P := P) (w := w) (base := base) T
  have G__law_told_right := ok__law_told_right (P := P) (w := w) (base := base) T U D W
  have G__law_rule := ok__law_rule (P := P) (w := w) (base := base) T U D W Y
  have G__law_others := ok__law_others (P := P) (w := w) (base := base) T
  have G__law_is_same := ok__law_is_same (P := P) (w := w) (base := base) T
  obtain ⟨_, hp_writers⟩ := W.p_writers
  obtain ⟨_, hp_back⟩ := W.p_back
  obtain ⟨ds2, hv2, hb2⟩ := B2
  refine fun_okG T.F__law_right sc__law_right (fun vs H Q E h => by obtain ⟨_, _, rfl, _⟩ := h; rfl) (fun cdv A outer s H vs Q E hg hr h => ?_)
  obtain ⟨S, p, rfl, kn, hS, hp, q⟩ := h
  refine ⟨_, (pss_cons (ps_set (i := 1) sc__law_right.nd rfl (Or.inl rfl) (pe_call G__law_model (hr.mono (by omega)) (by rfl) T.m__law_model T.F__law_model.kp T.b__law_model .nil pass0 (pa_cons (pv 0) (pa_cons pe_int pa_nil))))
      (pss_cons (ps_par (i := 2) (j := 3) (by rfl) sc__law_right.nd rfl rfl (by decide) rfl rfl (pa_cons (pe_make U.M_Tree G_Tree_init (hr.mono (by omega)) (by rfl) U.m_Tree T.b_Tree_init .nil pass0 (pa_cons (pe_dget (Nat.lt_of_le_of_lt (Nat.add_le_add_left (show 1 ≤ 64 by decide) _) hr.units) (pv 1) pe_str (fun _ _ => rfl)) pa_nil)) (pa_cons (pe_make U.M_Tree G_Tree_init (hr.mono (by omega)) (by rfl) U.m_Tree T.b_Tree_init .nil pass0 (pa_cons (pe_dget (Nat.lt_of_le_of_lt (Nat.add_le_add_left (show 1 ≤ 64 by decide) _) hr.units) (pv 1) pe_str (fun _ _ => rfl)) pa_nil)) pa_nil)) (by rfl))
      (pss_cons (ps_set (i := 4) sc__law_right.nd rfl (Or.inr rfl) (pe_makeK0 W.M_Rule G_Rule_init (hr.mono (by omega)) (by rfl) W.m_Rule KB pass0 (pk_cons (pe_dget (Nat.lt_of_le_of_lt (Nat.add_le_add_left (show 1 ≤ 64 by decide) _) hr.units) (pv 1) pe_str (fun _ _ => rfl)) (pk_cons (pe_dget (Nat.lt_of_le_of_lt (Nat.add_le_add_left (show 1 ≤ 64 by decide) _) hr.units) (pv 1) pe_str (fun _ _ => rfl)) (pk_cons (pv 3) (pk_cons (pv 2) (pk_cons (pe_dget (Nat.lt_of_le_of_lt (Nat.add_le_add_left (show 1 ≤ 64 by decide) _) hr.units) (pv 1) pe_str (fun _ _ => rfl)) pk_nil)))))))
      (pss_cons (ps_if (PW.pt (pw_or (pt_not (pt_val (pe_callG (runsG G__law_told_right hg T.b__law_told_right) (hr.mono (by omega)) (by rfl) T.m__law_told_right T.F__law_told_right.kp (pa_cons (pv 1) (pa_cons (pv 4) pa_nil))))) (pw_or1 (pt_cmpR (op_neI (runsOk G_Rule_eq T.b_Rule_eq) (hr.mono (by omega)) W.me_eq W.D.ne W.D.ob) (pv 4) (pe_call G__law_rule (hr.mono (by omega)) (by rfl) T.m__law_rule T.F__law_rule.kp T.b__law_rule .nil pass0 (pa_cons (pv 1) pa_nil)) (nomark _)))))
        (pss_one (ps_ret pe_bl)) pss_nil)
      (pss_cons (ps_set (i := 5) sc__law_right.nd rfl (Or.inl rfl) (pe_make W.M_Rule G_Rule_init (hr.mono (by omega)) (by rfl) W.m_Rule hb2 hv2 pass0 (pa_cons (pe_dget (Nat.lt_of_le_of_lt (Nat.add_le_add_left (show 1 ≤ 64 by decide) _) hr.units) (pv 1) pe_str (fun _ _ => rfl)) (pa_cons (pv 2) (pa_cons (pv 3) pa_nil)))))
      (pss_cons (ps_if (pt_cmpR (k_neD (K := K) hr.units) (pe_lst (pa_cons (pe_prop (pv 5) W.cls hp_writers G_Rule_writers (hr.mono (by omega)) T.b_Rule_writers .nil pass0 rfl) (pa_cons (pe_prop (pv 5) W.cls hp_back G_Rule_back (hr.mono (by omega)) T.b_Rule_back .nil pass0 rfl) pa_nil))) (pe_lst (pa_cons pe_str (pa_cons pe_str pa_nil))) (nomark _))
        (pss_one (ps_ret pe_bl)) pss_nil)
      (pss_cons (ps_for PassesOwn.never rfl (k_pi (K := K) (pe_call G__law_others (hr.mono (by omega)) (by rfl) T.m__law_others T.F__law_others.kp T.b__law_others .nil pass0 (pa_cons (pv 0) (pa_cons (pv 1) pa_nil)))) (pg_name (i := 6) sc__law_right.nd rfl (Or.inl rfl))
        (pss_cons (ps_set (i := 7) sc__law_right.nd rfl (Or.inl rfl) (pe_call G__law_is_same (hr.mono (by omega)) (by rfl) T.m__law_is_same T.F__law_is_same.kp T.b__law_is_same .nil pass0 (pa_cons (pv 1) (pa_cons (pv 6) pa_nil))))
        (pss_one (ps_if (PW.pt (pw_or (pt_cmpR op_ne (pe_cmpR (op_eqI (runsOk G_Rule_eq T.b_Rule_eq) (hr.mono (by omega)) W.me_eq) (pe_call G__law_rule (hr.mono (by omega)) (by rfl) T.m__law_rule T.F__law_rule.kp T.b__law_rule .nil pass0 (pa_cons (pv 6) pa_nil)) (pv 4) (nomark _)) (pv 7) (nomark _)) (pw_or1 (pt_cmpR op_eq (pe_cmpR (op_neI (runsOk G_Rule_eq T.b_Rule_eq) (hr.mono (by omega)) W.me_eq W.D.ne W.D.ob) (pv 4) (pe_call G__law_rule (hr.mono (by omega)) (by rfl) T.m__law_rule T.F__law_rule.kp T.b__law_rule .nil pass0 (pa_cons (pv 6) pa_nil)) (nomark _)) (pv 7) (nomark _)))))
          (pss_one (ps_ret pe_bl)) pss_nil))))
      (pss_cons (ps_set (i := 8) sc__law_right.nd rfl (Or.inl rfl) (pe_lst (pa_cons pe_non (pa_cons pe_int (pa_cons pe_str (pa_cons (pe_callB (call_reprI (runsG G_Rule_repr hg T.b_Rule_repr) (hr.mono (by omega)) W.me_repr) (by rfl) T.z_repr (by decide +kernel) (pa_cons (pv 4) pa_nil)) (pa_cons (pe_tup (pa_cons (pe_dget (Nat.lt_of_le_of_lt (Nat.add_le_add_left (show 1 ≤ 64 by decide) _) hr.units) (pv 1) pe_str (fun _ _ => rfl)) (pa_cons (pv 2) (pa_cons (pv 3) (pa_cons (pe_dget (Nat.lt_of_le_of_lt (Nat.add_le_add_left (show 1 ≤ 64 by decide) _) hr.units) (pv 1) pe_str (fun _ _ => rfl)) (pa_cons (pe_dget (Nat.lt_of_le_of_lt (Nat.add_le_add_left (show 1 ≤ 64 by decide) _) hr.units) (pv 1) pe_str (fun _ _ => rfl)) pa_nil)))))) (pa_cons (pv 2) pa_nil))))))))
      (pss_one (ps_ret (pe_and (pe_not (pe_callB (k_any (K := K) rfl) (by rfl) T.z_any (by decide +kernel) (pa_cons (pe_lc (own := [("_law_thing", 9)]) (g := gName 9) (tt := tYes) rfl sc__law_right.nd (k_pi (K := K) (pv 8)) (blkOk_by (own := [("_law_thing", 9)]) (N := _law_right_N) (sc := defScope _law_right_s) (by decide +kernel)) (fun _ _ _ _ _ => (pg_name (i := 9) sc__law_right.nd rfl (Or.inl rfl))) (fun _ _ _ _ _ => pts_nil) (fun _ _ _ _ _ => (pe_cmpR (k_eqJ (K := K) (runsOk G_Rule_eq T.b_Rule_eq) (hr.mono (by omega)) W.me_eq W.nfT) (pv 4) (pv 9) (nomark _)))) pa_nil))) (pe_one (pe_callG (runsG G__law_told_right hg T.b__law_told_right) (hr.mono (by omega)) (by rfl) T.m__law_told_right T.F__law_told_right.kp (pa_cons (pv 1) (pa_cons (pv 4) pa_nil))))))))))))))), ?_⟩
  refine s_seq (s_set (t_call2 (t_var rfl (t_c ⟨S, p, rfl, kn, hS, hp, fun x H1 v sb1 pt1 md h5 mx => nx_of ?_⟩))))
  have kn1 := kn_bt kn sb1 pt1.some
  have ok := md.okr h5
  obtain ⟨xr, xw, xa, xp, hx, dr, dw, da, dp'⟩ := id mx
  have fx : ∀ {H' : Hp}, Same H1 H' → H' x = some (.dK (kM v.n xr xw v.wr v.bk xa xp)) := fun s => s _ _ (off_some hx).2
  have mA : ∀ {H' : Hp}, Same H1 H' → MdAt K (off S H') v (smeets v.r) (smeets v.w) x := fun s => mx.same (off_same s)
  refine s_seq (a_cons (mk_tree v.r md.gr.ok kn1 (fun Q q => t_dg rfl (fx (Same.refl _)) v_reading (q _ _ (Same.refl _) dr)) fun x1 H2 s2 t1 => ?_))
  refine a_cons (mk_tree v.w md.gw.ok (kn1.same s2) (fun Q q => t_dg rfl (fx s2) v_writing (q _ _ (Same.refl _) (dp_same (off_same s2) _ _ dw))) fun x2 H3 s3 t2 => a_nil ⟨_, _, rfl, nx_of ?_⟩)
  have s13 := s2.trans s3
  have kn3 := kn1.same s13
  have t1' := t1.same (off_same s3)
  refine s_seq (s_set (t_mkK (a_cons (t_dg rfl (fx s13) v_back (a_cons (t_dg rfl (fx s13) v_writers (a_cons (t_var rfl (a_cons (t_var rfl (a_cons (t_dg rfl (fx s13) v_many (a_nil ⟨rfl, rfl, fun y dy hy hdy ne => bind_ruleK v ok kn3 t1' t2 hy hdy ne fun H4 s4 ry => ⟨rfl, nx_of ?_⟩⟩)))))))))))))
  have s14 := s13.trans s4
  have kn4 := kn3.same s4
  refine s_seq (s_if (b_or (b_not (b_val (t_call2 (t_var rfl (t_var rfl ⟨S, v, x, y, rfl, kn4, mA s14, ry, md, h5, fun H5 s5 => ⟨_, rfl, ifF rfl ?_⟩⟩)))))))
  have s15 := s14.trans s5
  have ry5 := ry.same (off_same s5)
  refine b_test (t_op (t_var rfl (t_call1 (t_var rfl ⟨S, v, _, _, x, rfl, kn4.same s5, mA s15, md, h5, fun y2 H6 s6 r2 => ⟨isI_of (ry5.same (off_same s6)), .inl (isI_of r2), S, v, y, .ref y2, rfl, (kn4.same s5).same s6, ry5.same (off_same s6), ok, .inl ⟨v, y2, rfl, r2, ok, fun H7 s7 => ⟨_, rfl, _, rfl, ifF (by rw [sameR_refl]; rfl) (s_next ?_)⟩⟩⟩⟩))))
  have s57 := s6.trans s7
  have s17 := s15.trans s57
  have ry7 := ry5.same (off_same s57)
  have kn7 := kn1.same s17
  have u1 := t1'.same (off_same (s4.trans (s5.trans s57)))
  have u2 := t2.same (off_same (s4.trans (s5.trans s57)))
  have okP : OkR { v with wr := "one", bk := "always" } := { ok with wr := .inl rfl, bk := .inr (.inl rfl) }
  refine s_seq (s_set (t_mk (a_cons (t_dg rfl (fx s17) v_many (a_cons (t_var rfl (a_cons (t_var rfl (a_nil fun z dz hz hdz ne => bind_ruleQ { v with wr := "one", bk := "always" } okP kn7 u1 u2 hz hdz ne fun H8 s8 rz => ⟨rfl, nx_of ?_⟩)))))))))
  have s18 := s17.trans s8
  have kn8 := kn7.same s8
  refine s_seq (s_if (b_test (t_op (t_lst (a_cons (t_r0 rfl kn8 rz okP fun uw H9 s9 dw9 => a_cons (t_r0 rfl (kn8.same s9) (rz.same (off_same s9)) okP fun ub Ha sa db => a_nil ⟨le2, fun L hL => ?_⟩)))))))
  cases dw9
  cases db
  refine t_lst (a_cons (t_c (a_cons (t_c (a_nil ⟨le2, fun M hM => ?_⟩)))))
  have kna := (kn8.same s9).same sa
  have sL := same_new (o := HO.lst [V.str "one", V.str "always"]) hL
  have sM := same_new (o := HO.lst [V.str "one", V.str "always"]) hM
  have dL : Dp K (off S (upd Ha L (.lst [V.str "one", V.str "always"]))) (.ref L) (.list [.str "one", .str "always"]) := dp_newL kna hL (.cons (.str _) (.cons (.str _) .nil))
  have dM : Dp K (off S (upd (upd Ha L (.lst [V.str "one", V.str "always"])) M (.lst [V.str "one", V.str "always"]))) (.ref M) (.list [.str "one", .str "always"]) := dp_newL (kna.same sL) hM (.cons (.str _) (.cons (.str _) .nil))
  refine ⟨_, _, dp_same off_sub _ _ (dp_same (off_same sM) _ _ dL), dp_same off_sub _ _ dM, (by decide +kernel), (by decide +kernel), ⟨_, rfl, ifF (by decide +kernel) (s_next ?_)⟩⟩
  have s7b := s8.trans (s9.trans (sa.trans (sL.trans sM)))
  have s1b := s17.trans s7b
  clear dL dM
  generalize upd (upd Ha L (.lst [V.str "one", V.str "always"])) M (.lst [V.str "one", V.str "always"]) = Hb at *
  have knb := kn1.same s1b
  have ptb := pt1.same s1b
  have ryb := ry7.same (off_same s7b)
  have u1b := u1.same (off_same s7b)
  refine s_seq (Or.inl (i_lst (t_call2 (t_var rfl (t_var rfl ⟨S, p, x, v, _, _, rfl, knb, hS, ptb, mA s1b, md, h5, fun l Hc xs sbc ptc hl hln al => ⟨l, rfl, ⟨_, sqL hl⟩, ?_⟩⟩)))))
  have knc := kn_bt knb sbc ptc.some
  have mvc : Same (off S Hb) (off S Hc) := off_bt hS sbc
  have mxc := (mA s1b).same mvc
  have ryc := ryb.same mvc
  have u1c := u1b.same mvc
  have sbC : SameBut p H Hc := sb_trans (sb_trans sb1 (sbut s1b)) sbc
  refine for_it (walk_list (K := K) (a := l) (xs := xs)) (fun i σ' H' => ∃ x6 x7 : Option V, σ' = [some (.ref p), some (.ref x), some (.ref x1), some (.ref x2), some (.ref y), some (.ref z), x6, x7, none, none] ∧ Same Hc H') ⟨_, _, rfl, Same.refl _⟩ (fun i σ' H' _ ⟨_, _, _, s⟩ => sqL (s _ _ hl)) ?_ ?_
  · rintro i o σ' Hd He hi ⟨x6, x7, rfl, sd⟩ ⟨rfl, ho⟩
    obtain ⟨b, u, rfl, mb, mu, u5⟩ := al o (List.mem_of_getElem? ho)
    have knd := knc.same sd
    refine g_name (s_seq (s_set (t_call2 (t_var rfl (t_var rfl ⟨S, v, u, _, _, _, _, x, b, rfl, knd, mxc.same (off_same sd), mb.same (off_same sd), md, mu, fun Hf sf => nx_of ?_⟩)))))
    have sdf := sd.trans sf
    refine s_if (b_or (b_test (t_op (t_op (t_call1 (t_var rfl ⟨S, u, _, _, b, rfl, knc.same sdf, mb.same (off_same sdf), mu, u5, fun y2 Hg sg r2 => t_var rfl ⟨isI_of r2, .inl (isI_of (ryc.same (off_same (sdf.trans sg)))), S, u, y2, .ref y, rfl, knc.same (sdf.trans sg), r2, mu.okr u5, .inl ⟨v, y, rfl, ryc.same (off_same (sdf.trans sg)), ok, fun Hh sh => t_var rfl ⟨rfl, _, rfl, ifF (by rw [decide_eq_true rfl]; rfl) ?_⟩⟩⟩⟩))))))
    have sdh := (sdf.trans sg).trans sh
    refine b_test (t_op (t_op (t_var rfl (t_call1 (t_var rfl ⟨S, u, _, _, b, rfl, knc.same sdh, mb.same (off_same sdh), mu, u5, fun y3 Hi si r3 => ⟨isI_of (ryc.same (off_same (sdh.trans si))), .inl (isI_of r3), S, v, y, .ref y3, rfl, knc.same (sdh.trans si), ryc.same (off_same (sdh.trans si)), ok, .inl ⟨u, y3, rfl, r3, mu.okr u5, fun Hj sj => ⟨_, rfl, t_var rfl ⟨rfl, _, rfl, ifF (decide_eq_false fun h => ?_) (s_next ⟨_, _, rfl, (sdh.trans si).trans sj⟩)⟩⟩⟩⟩⟩)))))
    have := V.bl.inj h
    rw [sameR_comm u v] at this
    cases e : sameR v u <;> rw [e] at this <;> cases this
  rintro σ' Hd ⟨x6, x7, rfl, sd⟩
  refine nx_of ?_
  obtain ⟨xr2, xw2, xa2, xp2, hx2, _⟩ := id mxc
  have fx2 : ∀ {H' : Hp}, Same Hc H' → H' x = some (.dK (kM v.n xr2 xw2 v.wr v.bk xa2 xp2)) := fun s => s _ _ (off_some hx2).2
  have rA : ∀ {H' : Hp}, Same Hc H' → RuleAt K C R (off S H') v y := fun s => ryc.same (off_same s)
  refine s_seq (s_set (t_lst (a_cons (t_c (a_cons (t_c (a_cons (t_c (a_cons (t_cb1 (t_var rfl ⟨.ref y, rfl, isI_of (rA sd), S, v, y, rfl, knc.same sd, rA sd, ok, fun He se => ⟨_, rfl, ?_⟩⟩)))))))))))
  have sce := sd.trans se
  refine a_cons (t_tup (a_cons (t_dg rfl (fx2 sce) v_many (a_cons (t_var rfl (a_cons (t_var rfl (a_cons (t_dg rfl (fx2 sce) v_writers (a_cons (t_dg rfl (fx2 sce) v_back (a_nil ⟨le5, fun r hr0 => ?_⟩))))))))))))
  have sr := same_new (o := HO.tup [V.int (v.n : Nat), .ref x1, .ref x2, .str v.wr, .str v.bk]) hr0
  have hrt : (upd He r (.tup [V.int (v.n : Nat), .ref x1, .ref x2, .str v.wr, .str v.bk])) r = some (.tup [V.int (v.n : Nat), .ref x1, .ref x2, .str v.wr, .str v.bk]) := upd_same
  generalize upd He r (.tup [V.int (v.n : Nat), .ref x1, .ref x2, .str v.wr, .str v.bk]) = Hf at *
  refine a_cons (t_var rfl (a_nil ⟨show 6 ≤ sizeLine by decide, fun N hN => nx_of ?_⟩))
  have sN := same_new (o := HO.lst [V.non, .int 0, .str "", .str (rText v), .ref r, .ref x1]) hN
  have hNt : (upd Hf N (.lst [V.non, .int 0, .str "", .str (rText v), .ref r, .ref x1])) N = some (.lst [V.non, .int 0, .str "", .str (rText v), .ref r, .ref x1]) := upd_same
  have knf := (knc.same sce).same sr
  have nSN : ¬ S N := knf.new hN
  generalize upd Hf N (.lst [V.non, .int 0, .str "", .str (rText v), .ref r, .ref x1]) = Hg at *
  have scg := (sce.trans sr).trans sN
  have kng := knf.same sN
  have hrg := sN _ _ hrt
  refine s_ret (t_andV (t_notV (t_cb1 (lc_genL (S := S) (ra := N) (xs := [V.non, .int 0, .str "", .str (rText v), .ref r, .ref x1]) (fun j y _ => y = .bl false) (fun _ _ _ _ _ h => h) kng (fun Q q => t_var rfl q) (sqL (by rw [off_out nSN]; exact hNt)) (show 6 ≤ 100000 by decide) (fun _ => rfl) (fun j e Hh Sh hj sh knh so Q q => ?_) fun D9 H9 ys hD s9 hd9 len pj => ?_))))
  · have ryh : RuleAt K C R (off Sh Hh) v y := (rA scg).same so
    match j, hj with
    | 0, hj =>
      simp at hj; subst hj
      exact t_op (t_var rfl (t_var rfl ⟨isI_of ryh, .inl (ty_dat W.D (S := Sh) .non), Sh, v, y, _, rfl, knh, ryh, ok, .inr (.inl ⟨_, .non, fun H' s' => q _ H' s' rfl⟩)⟩))
    | 1, hj =>
      simp at hj; subst hj
      exact t_op (t_var rfl (t_var rfl ⟨isI_of ryh, .inl (ty_dat W.D (S := Sh) (.int _)), Sh, v, y, _, rfl, knh, ryh, ok, .inr (.inl ⟨_, .int _, fun H' s' => q _ H' s' rfl⟩)⟩))
    | 2, hj =>
      simp at hj; subst hj
      exact t_op (t_var rfl (t_var rfl ⟨isI_of ryh, .inl (ty_dat W.D (S := Sh) (.str _)), Sh, v, y, _, rfl, knh, ryh, ok, .inr (.inl ⟨_, .str _, fun H' s' => q _ H' s' rfl⟩)⟩))
    | 3, hj =>
      simp at hj; subst hj
      exact t_op (t_var rfl (t_var rfl ⟨isI_of ryh, .inl (ty_dat W.D (S := Sh) (.str _)), Sh, v, y, _, rfl, knh, ryh, ok, .inr (.inl ⟨_, .str _, fun H' s' => q _ H' s' rfl⟩)⟩))
    | 4, hj =>
      simp at hj; subst hj
      have sq := sqT (K := K) (sh _ _ hrg)
      exact t_op (t_var rfl (t_var rfl ⟨isI_of ryh, .inl (.inr ⟨"tuple", sqt_ty sq, W.D.nf _ (by simp)⟩), Sh, v, y, _, rfl, knh, ryh, ok, .inr (.inr (.inr ⟨r, _, rfl, sq, fun H' s' => q _ H' s' rfl⟩))⟩))
    | 5, hj =>
      simp at hj; subst hj
      have th := (u1c.same (off_same scg)).same so
      exact t_op (t_var rfl (t_var rfl ⟨isI_of ryh, .inr (isI_at th), Sh, v, y, _, rfl, knh, ryh, ok, .inr (.inr (.inl ⟨v.r, x1, rfl, th, fun H' s' => q _ H' s' rfl⟩))⟩))
    | j + 6, hj => simp at hj
  · have dD : Dp K (off S H9) (.ref D9) (.list ((List.replicate 6 false).map PyData.bool)) := dp_lst (kng.new hD) hd9 (dpa_of (by rw [len]; rfl) fun i v d h1 h2 => by
      have e1 := pj i v h1
      have e2 : d = .bool false := by
        have hm := List.mem_of_getElem? h2
        obtain ⟨b, hb, rfl⟩ := List.mem_map.mp hm
        rw [(List.mem_replicate.mp hb).2]
      rw [e1, e2]; exact .bl _)
    refine any_d (bs := List.replicate 6 false) off_sub dD ⟨_, rfl, ⟨_, rfl, ifT (by decide) ?_⟩⟩
    have sc9 := scg.trans s9
    exact t_call2 (t_var rfl (t_var rfl ⟨S, v, x, y, rfl, knc.same sc9, mxc.same (off_same sc9), rA sc9, md, h5, fun H' s' => q H' (sb_trans sbC (sbut (sc9.trans s'))) (ptc.same (sc9.trans s'))⟩))
end
end K31

set_option maxRecDepth 100000
set_option maxHeartbeats 4000000
namespace K31
open PySem PySem.Spec PyProof.Rows L2 Kh
theorem dp_script {K : PySem.W.Frag} {H : Hp} {p : Addr} {ns : List Int} (h : SqL K H p (ns.map V.int)) : Dp K H (.ref p) (.list (ns.map PyData.int)) := by
  refine .lst h ?_
  clear h
  induction ns with
  | nil => exact .nil
  | cons n ns ih => exact .cons (.int n) ih
theorem four_of (n : Nat) : ∃ m : Nat, 1 ≤ m ∧ m ≤ 4 ∧ (if (if (n : Int) < 4 then (n : Int) else 4) > 1 then (if (n : Int) < 4 then (n : Int) else 4) else 1) = (m : Int) := by
  by_cases h : (n : Int) < 4
  · rw [if_pos h]
    by_cases h2 : (n : Int) > 1
    · rw [if_pos h2]; exact ⟨n, by omega, by omega, rfl⟩
    · rw [if_neg h2]; exact ⟨1, by decide, by decide, rfl⟩
  · rw [if_neg h, if_pos (by decide)]; exact ⟨4, by decide, by decide, rfl⟩
theorem all_yes (n : Nat) : ((List.range n).map fun _ => true).all id = true := by
  rw [List.all_map]; simp
theorem lc_rngB {K : PySem.W.Frag} {S : Addr → Prop} {H : Hp} {σ : L2.St} {te : TE} {sl : Nat} {vs : List Nat} {Q : VK} {n : Nat} {ta : TA} (f : Nat → Bool) (kn : Kn S H) (hn : n ≤ 1000)
    (hev : ∀ q : List V → Hp → Prop, (∀ H1, Same H H1 → q [.int (n : Nat)] H1) → ta σ H q) (hw : ∀ x, wipe ((wipe σ vs).set sl (some x)) vs = wipe σ vs)
    (body : ∀ j H1 S', j < n → Same H H1 → Kn S' H1 → (∀ a, S a → S' a) → Same (off S H) (off S' H1) → ∀ Q : VK, (∀ H', Same H1 H' → Q (.bl (f j)) H') → te ((wipe σ vs).set sl (some (.int (j : Nat)))) H1 Q)
    (done : ∀ D H1, Same H H1 → Dp K (off S H1) (.ref D) (.list (((List.range n).map f).map PyData.bool)) → Q (.ref D) H1) :
    tLc (iRng1 ta) (gName sl) tYes te vs σ H Q := by
  refine lc_rngF (K := K) (n := n) (fun _ => true) (fun j => .bool (f j)) kn (by omega) hev hw (fun j H1 S' _ _ _ _ _ Q q => q H1 (Same.refl _)) (fun j H1 S' hj _ s kn' hS ho Q q => body j H1 S' hj s kn' hS ho Q fun H' s' => q _ H' s' (.bl _)) fun D H1 ys hD s hd h => ?_
  refine done D H1 s ?_
  have e : (((List.range n).filter fun _ => true).map fun j => PyData.bool (f j)) = ((List.range n).map f).map PyData.bool := by
    rw [List.map_map, List.filter_eq_self.mpr (fun _ _ => rfl)]; rfl
  rw [← e]; exact h
section
variable {P : Program} {w : World} {K : PySem.W.Frag} {mg : Str → Option Value} {base : Heap} {a : Nat → Addr} {fd : Nat → FuncData} {C R : Addr} {tk : Nat → Tok} {aW aB : Addr}
/-- the law of a script -/
def spLaw (K : PySem.W.Frag) : Sp := fun vs H Q _ => ∃ (p : Addr) (ns : List Int), vs = [.ref p] ∧ SqL K H p (ns.map V.int) ∧ ns.length ≤ 100000 ∧ ∀ H', Q (.bl true) H'
theorem ok_law (T : Txt K mg a fd C tk) (U : TxC K mg a C) (D : TxD K C) (W : TxR K mg a C R) (Y : TxV K mg aW aB) (KB : KwRule K (fd 26)) (B2 : B2Rule K (fd 26)) : FnG P w K mg base 46 (a 52) (fd 52) ["_law_script"] (spLaw K) := by
  have G__law_pot := ok__law_pot (P := P) (w := w) (base := base) T
  have G__law_right := ok__law_right (P := P) (w := w) (base := base) T U D W Y KB B2
  refine fun_okG T.F_law sc_law (fun vs H Q E h => by obtain ⟨_, _, rfl, _⟩ := h; rfl) (fun cdv A outer s H vs Q E hg hr h => ?_)
  obtain ⟨p, ns, rfl, hp, hl, q⟩ := h
  refine ⟨_, (pss_one (ps_ret (pe_callB (k_all (K := K) rfl) (by rfl) T.z_all (by decide +kernel) (pa_cons (pe_lc (own := [("_law_k", 1)]) (g := gName 1) (tt := tYes) rfl sc_law.nd (pi_range1 (by rfl) T.z_range (pa_cons (pe_callB (call_max2R rfl) (by rfl) T.z_max (by decide +kernel) (pa_cons pe_int (pa_cons (pe_callB (call_min2R rfl) (by rfl) T.z_min (by decide +kernel) (pa_cons pe_int (pa_cons (pe_callB (k_len (K := K)) (by rfl) T.z_len (by decide +kernel) (pa_cons (pv 0) pa_nil)) pa_nil))) pa_nil))) pa_nil)) (blkOk_by (own := [("_law_k", 1)]) (N := law_N) (sc := defScope law_s) (by decide +kernel)) (fun _ _ _ _ _ => (pg_name (i := 1) sc_law.nd rfl (Or.inl rfl))) (fun _ _ _ _ _ => pts_nil) (fun _ _ _ _ _ => (pe_callG (runsG G__law_right hg T.b__law_right) (hr.mono (by omega)) (by rfl) T.m__law_right T.F__law_right.kp (pa_cons (pe_call G__law_pot (hr.mono (by omega)) (by rfl) T.m__law_pot T.F__law_pot.kp T.b__law_pot .nil pass0 (pa_cons (pv 0) (pa_cons (pv 1) pa_nil))) pa_nil)))) pa_nil)))), ?_⟩
  have hd := dp_script hp
  obtain ⟨m, m1, m2, em⟩ := four_of ns.length
  refine s_ret (t_cb1 (lc_rngB (K := K) (n := m) (fun _ => true) (kn_no (H := H)) (by omega) (fun q' h' => ?_) (fun _ => rfl) (fun j H1 S' hj s1 kn1 hS ho Q' q' => ?_) fun L H1 s1 dL => ?_))
  · refine a_cons (t_cb2 (t_c (t_cb2 (t_c (t_cb1 (t_var rfl (len_d (Same.refl H) hd rfl ⟨_, _, rfl, ⟨_, _, rfl, a_nil ?_⟩⟩)))))))
    rw [List.length_map, em]
    exact h' H (Same.refl _)
  · refine t_call1 (t_call2 (t_var rfl (t_var rfl ⟨.ref p, ns, j, rfl, dp_same s1 _ _ hd, by omega, fun po H2 s2 hn pt => ⟨fun b => b = po, po, rfl, fun b e => by subst e; exact pt.some, rfl, pt, fun H3 sb _ => q' H3 fun b o h => sb b o (ne_of_none h hn) (s2 b o h)⟩⟩)))
  · exact all_d (bs := (List.range m).map fun _ => true) off_sub dL (by rw [all_yes]; exact q H1)
end
end K31

set_option maxRecDepth 100000
namespace K31
open PySem PySem.Spec PyProof.Rows L2 Kh
def allTy (l : List Value) : Bool := l.all fun v => match v with
  | .type _ => true
  | _ => false
theorem allTy_not {l : List Value} {C : Addr} (h : allTy l = true) : l.contains (.ref C) = false := by
  induction l with
  | nil => rfl
  | cons v l ih =>
    unfold allTy at h
    rw [List.all_cons, Bool.and_eq_true] at h
    have e : (Value.ref C == v) = false := by
      cases v with
      | type _ => rfl
      | _ => exact absurd h.1 (by simp)
    rw [List.contains_cons, e, Bool.false_or]
    exact ih h.2
theorem kit_oth {K : PySem.W.Frag} {C : Addr} {n : String} {u} (ci : PySem.W.clsIn K C = some u) (ty : PySem.W.typeIn K (.ref C) = some (.type "type")) (h : ((fastBuiltinMro n).map allTy) = some true) : PySem.W.kitOne K (.type n) (.ref C) = some false := by
  unfold PySem.W.kitOne
  rw [if_neg (by show ¬ ((Value.type n == Value.ref C) = true); exact fun z => nomatch z)]
  show (if ((PySem.W.clsIn K C).isSome && PySem.W.typeIn K (.ref C) == some (.type "type")) = true then PySem.W.subIn K (.type n) (.ref C) else none) = some false
  rw [ci, ty, if_pos (by simp)]
  show (fastBuiltinMro n).map (·.contains (.ref C)) = some false
  cases e : fastBuiltinMro n with
  | none => rw [e] at h; cases h
  | some l => rw [e] at h; exact congrArg some (allTy_not (Option.some.inj h))
theorem mro6 : ∀ n ∈ ["NoneType", "bool", "int", "str", "list", "tuple"], ((fastBuiltinMro n).map allTy) = some true := by decide +kernel
end K31

set_option maxRecDepth 100000
set_option maxHeartbeats 1000000
/-! x in a list of data; f(k2 = v, k1 = u) -/
namespace Kh
open PySem PySem.Spec PyProof.Rows L2
theorem k_inD {X : Cx} {K : PySem.W.Frag} {k : Nat} (hr : Room k X.A) (h : X.K = K := by rfl) : OpR X (compareOp .In) (rInD K) := by subst h; exact op_inD (by have := hr.un; omega)
theorem vals_rev : ∀ {vs : List V} {us : List Value}, Vals vs us → Vals vs.reverse us.reverse
  | _, _, .nil => .nil
  | _, _, .cons r t => by rw [List.reverse_cons, List.reverse_cons]; exact (vals_rev t).append (.cons r .nil)
theorem kbr_of {K : PySem.W.Frag} {fd : FuncData} {ps ks : List Str} (h : ∀ ws : List Value, ws.length = ks.length → bindArgs fd ⟨[], ks.zip ws⟩ = pure (ps.zip ws.reverse)) : KBn K fd ps 0 ks (fun us ws => us ++ ws.reverse) (fun vs zs => vs ++ zs.reverse) :=
  ⟨fun s us ws _ h1 h2 => by
    rw [List.eq_nil_of_length_eq_zero h1]
    exact .of_eq (h ws h2), fun r1 r2 => r1.append (vals_rev r2)⟩
section
variable {X : Cx} {k : Nat} {f : Addr} {fd : FuncData} {ps ks : List Str} {sp : Sp} {x : Str} {p pos : Pos} {kws : List Keyword} {tk : TA}
def tCallKR (n : Nat) (sp : Sp) (tk : TA) : TE := fun σ H Q => tk σ H fun zs H2 => zs.length = n ∧ sp zs.reverse H2 Q E0
/-- f(k2 = v, k1 = u), the names the other way round -/
theorem pe_kwR (F : FnOk X.prog X.w X.K X.mg X.base CX0 k f fd ps sp) (hr : Room k X.A) (hg : Gl X x) (hm : X.mg x = some (.ref f)) (hk : PySem.W.keepIn X.K (.ref f) = true) (hb : KBn X.K fd ps 0 ks (fun us ws => us ++ ws.reverse) (fun vs zs => vs ++ zs.reverse)) (hkw : PK X kws tk)
    (hall : (backToKw pos (keywordEach kws X.env)).all (·.1.isSome) = true := by rfl) (hks : (backToKw pos (keywordEach kws X.env)).filterMap (·.1) = ks := by rfl) (hdb : (x == ("__debug__" : Str)) = false := by decide)
    (hpl : ((backTo pos (starEach [] X.env)).any (·.1) || (backToKw pos (keywordEach kws X.env)).any (·.1.isNone)) = false := by rfl) :
    PE X (.Call (.Name x p) [] kws pos) (tCallKR ks.length sp tk) := by
  refine ⟨fun pins s σ H Q I h => ?_⟩
  refine wpAny_Call_Name_kw (ld_glob I hg hm ?_ hdb)
  refine PySem.W.callWith_KW0 (h₀ := X.base) I.ok.mod.kin hk hall ?_ hpl
  refine thn (hkw.run pos pins s σ H _ I h) fun ws s2 ⟨zs, H2, I2, rz, l2, q2⟩ => ⟨I2.kIn, ?_⟩
  rw [hks]
  refine wpAny_call (codeAny_mono (F.run X.A X.stack s2 H2 ⟨[], ks.zip ws⟩ ([] ++ ws.reverse) ([] ++ zs.reverse) Q E0 hr I2.env0 (hb.to s2 [] ws I2.kIn rfl (rz.length.symm.trans l2)) (hb.rel .nil rz) q2) fun r s' hq => ?_)
  cases r with
  | error e => exact (show False from hq).elim
  | ok fl =>
    cases fl with
    | ret u => exact I2.after hq
    | next => exact (show False from hq).elim
    | brk => exact (show False from hq).elim
    | cont => exact (show False from hq).elim
end
end Kh

set_option maxRecDepth 100000
set_option maxHeartbeats 4000000
namespace K31
open PySem PySem.Spec PyProof.Rows L2 Kh
/-- keywords alone, no default lacks -/
theorem kbinds1 {K : PySem.W.Frag} {x qual : Str} {params : Arguments} {body : List Stmt} {scope : Scope} {dvs : List V} {kws : List (Str × V)} {f : Addr} {fd : FuncData} {ps : List Str} (F : FunD K x qual params body scope dvs kws f fd) (n : Nat) (ks : List Str) (g : {α : Type} → List α → List α → List α) (hd : dvs ≠ [])
    (hrel : ∀ {vs : List V} {us : List Value} {zs : List V} {ws : List Value}, Vals vs us → Vals zs ws → Vals (g vs zs) (g us ws))
    (h : ∀ (T : Addr) (kV doc pm : Value) (an : Option Addr) (cdv ct : Value) (us its ws : List Value), us.length = n → its.length = dvs.length → ws.length = ks.length →
      ∃ k, bindArgs (PySem.W.fnOf x qual params body scope (.ref T) kV doc pm an cdv ct) ⟨us, ks.zip ws⟩ = seqItems? (.ref T) >>= k ∧ k (some its.toArray) = pure (ps.zip (g us ws))) : KBn K fd ps n ks (fun us ws => g us ws) (fun vs zs => g vs zs) := by
  obtain ⟨oc, od, dV, kV, doc, pm, an, cdv, ct, osl, rfl, lk, hcd, hD, hK⟩ := F.ex
  rcases hD with ⟨e, _⟩ | ⟨_, T, o, its, m, rfl, lT, oT, rT⟩
  · exact absurd e hd
  · refine ⟨fun s us ws X l1 l2 => ?_, fun r1 r2 => hrel r1 r2⟩
    obtain ⟨k, e1, e2⟩ := h T kV doc pm an cdv ct us its ws l1 rT.length.symm l2
    refine BindsTo.of_looks fun M => ?_
    rw [e1]
    exact looks_items X lT oT (.of_pure e2)
theorem kit_two {K : PySem.W.Frag} {C R : Addr} {u} (ne : (Value.ref C == Value.ref R) = false) (ci : PySem.W.clsIn K R = some u) (ty : PySem.W.typeIn K (.ref R) = some (.type "type")) (sb : PySem.W.subIn K (.ref C) (.ref R) = some false) : PySem.W.kitOne K (.ref C) (.ref R) = some false := by
  unfold PySem.W.kitOne
  rw [if_neg (by rw [ne]; exact Bool.false_ne_true)]
  show (if ((PySem.W.clsIn K R).isSome && PySem.W.typeIn K (.ref R) == some (.type "type")) = true then PySem.W.subIn K (.ref C) (.ref R) else none) = some false
  rw [ci, ty, if_pos (by simp)]
  exact sb
theorem nf_two {K : PySem.W.Frag} {C R : Addr} (sb : PySem.W.subIn K (.ref C) (.ref R) = some false) : PySem.W.notFirst K R (.ref C) = true := by
  unfold PySem.W.notFirst
  rw [sb]; simp
theorem sq_const {K : PySem.W.Frag} {a : Addr} {o : Obj} {xs : List V} {its : Array Value} {n : Nat} (l : K.lookup a = some o) (hc : o.cls = .type "tuple") (hd : o.data = .seq its n) (hz : its.size ≤ sizeLine) (r : Vals xs its.toList) (H : Hp) : SqT K H a xs := .inr ⟨o, its, n, l, hc, hd, hz, r⟩
theorem all_mk {P : Program} {w : World} {K : PySem.W.Frag} {h : Heap} {mg : Str → Option Value} {fa C R fT wA bA f0 f1 f2 f3 f4 f5 f6 f7 f8 f9 f10 f11 f12 f13 f14 f15 f16 f17 f18 f19 f20 f21 f22 f23 f24 f25 f26 f27 f28 f29 f30 f31 f32 f33 f34 f35 f36 f37 f38 f39 f40 f41 f42 f43 f44 f45 f46 f47 f48 f49 f50 f51 f52 p12 p13 p27 p28 p29 p30 p31 : Addr} {tk0 tk1 tk2 tk3 tk4 tk5 u0 u1 u2 u3 u4 u5 u6 u7 : Tok} {nT0 nW nB : Nat} {uR : ClassData} {rs12 rs13 rs27 rs28 rs29 rs30 rs31 : List Value} (X : K.In h) (G : h.Ns mainGlobals mg) (hfa : mg "law" = some (.ref fa))
    {od0 od1 od2 od3 od4 od5 od6 od7 od8 od9 od10 od11 od12 od13 od14 od15 od16 od17 od18 od19 od20 od21 od22 od23 od24 od25 od26 od27 od28 od29 od30 od31 od32 od33 od34 od35 od36 od37 od38 od39 od40 od41 od42 od43 od44 od45 od46 od47 od48 od49 od50 od51 od52 an0 an1 an2 an3 an4 an5 an6 an7 an8 an9 an10 an11 an12 an13 an14 an15 an16 an17 an18 an19 an20 an21 an22 an23 an24 an25 an26 an27 an28 an29 an30 an31 an32 an33 an34 an35 an36 an37 an38 an39 an40 an41 an42 an43 an44 an45 an46 an47 an48 an49 an50 an51 an52 odT odW odB : Option Addr} {sl0 sl1 sl2 sl3 sl4 sl5 sl6 sl7 sl8 sl9 sl10 sl11 sl12 sl13 sl14 sl15 sl16 sl17 sl18 sl19 sl20 sl21 sl22 sl23 sl24 sl25 sl26 sl27 sl28 sl29 sl30 sl31 sl32 sl33 sl34 sl35 sl36 sl37 sl38 sl39 sl40 sl41 sl42 sl43 sl44 sl45 sl46 sl47 sl48 sl49 sl50 sl51 sl52 slT slW slB : Array (Option Value)} {oc0 oc1 oc2 oc3 oc4 oc5 oc6 oc7 oc8 oc9 oc10 oc11 oc12 oc13 oc14 oc15 oc16 oc17 oc18 oc19 oc20 oc21 oc22 oc23 oc24 oc25 oc26 oc27 oc28 oc29 oc30 oc31 oc32 oc33 oc34 oc35 oc36 oc37 oc38 oc39 oc40 oc41 oc42 oc43 oc44 oc45 oc46 oc47 oc48 oc49 oc50 oc51 oc52 kV0 kV1 kV2 kV3 kV4 kV5 kV6 kV7 kV8 kV9 kV10 kV11 kV12 kV13 kV14 kV15 kV16 kV17 kV18 kV19 kV20 kV21 kV22 kV23 kV24 kV25 kV26 kV27 kV28 kV29 kV30 kV31 kV32 kV33 kV34 kV35 kV36 kV37 kV38 kV39 kV40 kV41 kV42 kV43 kV44 kV45 kV46 kV47 kV48 kV49 kV50 kV51 kV52 dc0 dc1 dc2 dc3 dc4 dc5 dc6 dc7 dc8 dc9 dc10 dc11 dc12 dc13 dc14 dc15 dc16 dc17 dc18 dc19 dc20 dc21 dc22 dc23 dc24 dc25 dc26 dc27 dc28 dc29 dc30 dc31 dc32 dc33 dc34 dc35 dc36 dc37 dc38 dc39 dc40 dc41 dc42 dc43 dc44 dc45 dc46 dc47 dc48 dc49 dc50 dc51 dc52 pm0 pm1 pm2 pm3 pm4 pm5 pm6 pm7 pm8 pm9 pm10 pm11 pm12 pm13 pm14 pm15 pm16 pm17 pm18 pm19 pm20 pm21 pm22 pm23 pm24 pm25 pm26 pm27 pm28 pm29 pm30 pm31 pm32 pm33 pm34 pm35 pm36 pm37 pm38 pm39 pm40 pm41 pm42 pm43 pm44 pm45 pm46 pm47 pm48 pm49 pm50 pm51 pm52 cd0 cd1 cd2 cd3 cd4 cd5 cd6 cd7 cd8 cd9 cd10 cd11 cd12 cd13 cd14 cd15 cd16 cd17 cd18 cd19 cd20 cd21 cd22 cd23 cd24 cd25 cd26 cd27 cd28 cd29 cd30 cd31 cd32 cd33 cd34 cd35 cd36 cd37 cd38 cd39 cd40 cd41 cd42 cd43 cd44 cd45 cd46 cd47 cd48 cd49 cd50 cd51 cd52 ct0 ct1 ct2 ct3 ct4 ct5 ct6 ct7 ct8 ct9 ct10 ct11 ct12 ct13 ct14 ct15 ct16 ct17 ct18 ct19 ct20 ct21 ct22 ct23 ct24 ct25 ct26 ct27 ct28 ct29 ct30 ct31 ct32 ct33 ct34 ct35 ct36 ct37 ct38 ct39 ct40 ct41 ct42 ct43 ct44 ct45 ct46 ct47 ct48 ct49 ct50 ct51 ct52 : Value}
    (a0 : PySem.W.nsIn K mainGlobals "is_integer" = some (some (.ref f0)))
    (l0 : K.lookup f0 = some ⟨oc0, od0, .func (PySem.W.fnOf "is_integer" "is_integer" (defArgs is_integer_s) (defBody is_integer_s) (defScope is_integer_s) .none kV0 dc0 pm0 an0 cd0 ct0), sl0⟩)
    (c0 : PySem.W.codeIn K cd0 "is_integer" = true)
    (k0 : PySem.W.keepIn K (.ref f0) = true)
    (a1 : PySem.W.nsIn K mainGlobals "is_count" = some (some (.ref f1)))
    (l1 : K.lookup f1 = some ⟨oc1, od1, .func (PySem.W.fnOf "is_count" "is_count" (defArgs is_count_s) (defBody is_count_s) (defScope is_count_s) .none kV1 dc1 pm1 an1 cd1 ct1), sl1⟩)
    (c1 : PySem.W.codeIn K cd1 "is_count" = true)
    (k1 : PySem.W.keepIn K (.ref f1) = true)
    (a2 : PySem.W.nsIn K mainGlobals "is_list" = some (some (.ref f2)))
    (l2 : K.lookup f2 = some ⟨oc2, od2, .func (PySem.W.fnOf "is_list" "is_list" (defArgs is_list_s) (defBody is_list_s) (defScope is_list_s) .none kV2 dc2 pm2 an2 cd2 ct2), sl2⟩)
    (c2 : PySem.W.codeIn K cd2 "is_list" = true)
    (k2 : PySem.W.keepIn K (.ref f2) = true)
    (a3 : PySem.W.nsIn K mainGlobals "is_number_below" = some (some (.ref f3)))
    (l3 : K.lookup f3 = some ⟨oc3, od3, .func (PySem.W.fnOf "is_number_below" "is_number_below" (defArgs is_number_below_s) (defBody is_number_below_s) (defScope is_number_below_s) .none kV3 dc3 pm3 an3 cd3 ct3), sl3⟩)
    (c3 : PySem.W.codeIn K cd3 "is_number_below" = true)
    (k3 : PySem.W.keepIn K (.ref f3) = true)
    (a4 : PySem.W.nsIn K mainGlobals "is_gate" = some (some (.ref f4)))
    (l4 : K.lookup f4 = some ⟨oc4, od4, .func (PySem.W.fnOf "is_gate" "is_gate" (defArgs is_gate_s) (defBody is_gate_s) (defScope is_gate_s) .none kV4 dc4 pm4 an4 cd4 ct4), sl4⟩)
    (c4 : PySem.W.codeIn K cd4 "is_gate" = true)
    (k4 : PySem.W.keepIn K (.ref f4) = true)
    (a5 : PySem.W.nsIn K mainGlobals "is_tree" = some (some (.ref f5)))
    (l5 : K.lookup f5 = some ⟨oc5, od5, .func (PySem.W.fnOf "is_tree" "is_tree" (defArgs is_tree_s) (defBody is_tree_s) (defScope is_tree_s) .none kV5 dc5 pm5 an5 cd5 ct5), sl5⟩)
    (c5 : PySem.W.codeIn K cd5 "is_tree" = true)
    (k5 : PySem.W.keepIn K (.ref f5) = true)
    (a6 : PySem.W.nsIn K mainGlobals "firm" = some (some (.ref f6)))
    (l6 : K.lookup f6 = some ⟨oc6, od6, .func (PySem.W.fnOf "firm" "firm" (defArgs firm_s) (defBody firm_s) (defScope firm_s) .none kV6 dc6 pm6 an6 cd6 ct6), sl6⟩)
    (c6 : PySem.W.codeIn K cd6 "firm" = true)
    (k6 : PySem.W.keepIn K (.ref f6) = true)
    (a7 : PySem.W.nsIn K mainGlobals "listed" = some (some (.ref f7)))
    (l7 : K.lookup f7 = some ⟨oc7, od7, .func (PySem.W.fnOf "listed" "listed" (defArgs listed_s) (defBody listed_s) (defScope listed_s) .none kV7 dc7 pm7 an7 cd7 ct7), sl7⟩)
    (c7 : PySem.W.codeIn K cd7 "listed" = true)
    (k7 : PySem.W.keepIn K (.ref f7) = true)
    (a8 : PySem.W.nsIn K mainGlobals "leaves" = some (some (.ref f8)))
    (l8 : K.lookup f8 = some ⟨oc8, od8, .func (PySem.W.fnOf "leaves" "leaves" (defArgs leaves_s) (defBody leaves_s) (defScope leaves_s) .none kV8 dc8 pm8 an8 cd8 ct8), sl8⟩)
    (c8 : PySem.W.codeIn K cd8 "leaves" = true)
    (k8 : PySem.W.keepIn K (.ref f8) = true)
    (a9 : PySem.W.nsIn K mainGlobals "depth" = some (some (.ref f9)))
    (l9 : K.lookup f9 = some ⟨oc9, od9, .func (PySem.W.fnOf "depth" "depth" (defArgs depth_s) (defBody depth_s) (defScope depth_s) .none kV9 dc9 pm9 an9 cd9 ct9), sl9⟩)
    (c9 : PySem.W.codeIn K cd9 "depth" = true)
    (k9 : PySem.W.keepIn K (.ref f9) = true)
    (a10 : PySem.W.nsIn K mainGlobals "stands_in" = some (some (.ref f10)))
    (l10 : K.lookup f10 = some ⟨oc10, od10, .func (PySem.W.fnOf "stands_in" "stands_in" (defArgs stands_in_s) (defBody stands_in_s) (defScope stands_in_s) .none kV10 dc10 pm10 an10 cd10 ct10), sl10⟩)
    (c10 : PySem.W.codeIn K cd10 "stands_in" = true)
    (k10 : PySem.W.keepIn K (.ref f10) = true)
    (a11 : PySem.W.findIn K (.ref C) "__init__" = some (some (.ref f11)))
    (i11 : PySem.W.isFn K (.ref f11) = true)
    (l11 : K.lookup f11 = some ⟨oc11, od11, .func (PySem.W.fnOf "__init__" "Tree.__init__" (defArgs Tree_init_s) (defBody Tree_init_s) (defScope Tree_init_s) .none kV11 dc11 pm11 an11 cd11 ct11), sl11⟩)
    (c11 : PySem.W.codeIn K cd11 "Tree.__init__" = true)
    (k11 : PySem.W.keepIn K (.ref f11) = true)
    (a12 : PySem.W.findIn K (.ref C) "shape" = some (some (.ref p12)))
    (g12 : PySem.W.specialIn K (.ref p12) "__get__" = some (some (.builtin "property.__get__")))
    (t12 : PySem.W.takesIn K (.ref p12) = some true)
    (r12 : PySem.W.recIn K p12 "property" = some (.ref f12 :: rs12))
    (l12 : K.lookup f12 = some ⟨oc12, od12, .func (PySem.W.fnOf "shape" "Tree.shape" (defArgs Tree_shape_s) (defBody Tree_shape_s) (defScope Tree_shape_s) .none kV12 dc12 pm12 an12 cd12 ct12), sl12⟩)
    (c12 : PySem.W.codeIn K cd12 "Tree.shape" = true)
    (k12 : PySem.W.keepIn K (.ref f12) = true)
    (a13 : PySem.W.findIn K (.ref C) "is_plain" = some (some (.ref p13)))
    (g13 : PySem.W.specialIn K (.ref p13) "__get__" = some (some (.builtin "property.__get__")))
    (t13 : PySem.W.takesIn K (.ref p13) = some true)
    (r13 : PySem.W.recIn K p13 "property" = some (.ref f13 :: rs13))
    (l13 : K.lookup f13 = some ⟨oc13, od13, .func (PySem.W.fnOf "is_plain" "Tree.is_plain" (defArgs Tree_is_plain_s) (defBody Tree_is_plain_s) (defScope Tree_is_plain_s) .none kV13 dc13 pm13 an13 cd13 ct13), sl13⟩)
    (c13 : PySem.W.codeIn K cd13 "Tree.is_plain" = true)
    (k13 : PySem.W.keepIn K (.ref f13) = true)
    (a14 : PySem.W.findIn K (.ref C) "members" = some (some (.ref f14)))
    (i14 : PySem.W.isFn K (.ref f14) = true)
    (l14 : K.lookup f14 = some ⟨oc14, od14, .func (PySem.W.fnOf "members" "Tree.members" (defArgs Tree_members_s) (defBody Tree_members_s) (defScope Tree_members_s) .none kV14 dc14 pm14 an14 cd14 ct14), sl14⟩)
    (c14 : PySem.W.codeIn K cd14 "Tree.members" = true)
    (k14 : PySem.W.keepIn K (.ref f14) = true)
    (a15 : PySem.W.findIn K (.ref C) "__eq__" = some (some (.ref f15)))
    (i15 : PySem.W.isFn K (.ref f15) = true)
    (l15 : K.lookup f15 = some ⟨oc15, od15, .func (PySem.W.fnOf "__eq__" "Tree.__eq__" (defArgs Tree_eq_s) (defBody Tree_eq_s) (defScope Tree_eq_s) .none kV15 dc15 pm15 an15 cd15 ct15), sl15⟩)
    (c15 : PySem.W.codeIn K cd15 "Tree.__eq__" = true)
    (k15 : PySem.W.keepIn K (.ref f15) = true)
    (a16 : PySem.W.findIn K (.ref C) "__repr__" = some (some (.ref f16)))
    (i16 : PySem.W.isFn K (.ref f16) = true)
    (l16 : K.lookup f16 = some ⟨oc16, od16, .func (PySem.W.fnOf "__repr__" "Tree.__repr__" (defArgs Tree_repr_s) (defBody Tree_repr_s) (defScope Tree_repr_s) .none kV16 dc16 pm16 an16 cd16 ct16), sl16⟩)
    (c16 : PySem.W.codeIn K cd16 "Tree.__repr__" = true)
    (k16 : PySem.W.keepIn K (.ref f16) = true)
    (a17 : PySem.W.nsIn K mainGlobals "lists_of" = some (some (.ref f17)))
    (l17 : K.lookup f17 = some ⟨oc17, od17, .func (PySem.W.fnOf "lists_of" "lists_of" (defArgs lists_of_s) (defBody lists_of_s) (defScope lists_of_s) .none kV17 dc17 pm17 an17 cd17 ct17), sl17⟩)
    (c17 : PySem.W.codeIn K cd17 "lists_of" = true)
    (k17 : PySem.W.keepIn K (.ref f17) = true)
    (a18 : PySem.W.nsIn K mainGlobals "stands_barely" = some (some (.ref f18)))
    (l18 : K.lookup f18 = some ⟨oc18, od18, .func (PySem.W.fnOf "stands_barely" "stands_barely" (defArgs stands_barely_s) (defBody stands_barely_s) (defScope stands_barely_s) .none kV18 dc18 pm18 an18 cd18 ct18), sl18⟩)
    (c18 : PySem.W.codeIn K cd18 "stands_barely" = true)
    (k18 : PySem.W.keepIn K (.ref f18) = true)
    (a19 : PySem.W.nsIn K mainGlobals "mixed_meetings" = some (some (.ref f19)))
    (l19 : K.lookup f19 = some ⟨oc19, od19, .func (PySem.W.fnOf "mixed_meetings" "mixed_meetings" (defArgs mixed_meetings_s) (defBody mixed_meetings_s) (defScope mixed_meetings_s) .none kV19 dc19 pm19 an19 cd19 ct19), sl19⟩)
    (c19 : PySem.W.codeIn K cd19 "mixed_meetings" = true)
    (k19 : PySem.W.keepIn K (.ref f19) = true)
    (a20 : PySem.W.nsIn K mainGlobals "plain_count" = some (some (.ref f20)))
    (l20 : K.lookup f20 = some ⟨oc20, od20, .func (PySem.W.fnOf "plain_count" "plain_count" (defArgs plain_count_s) (defBody plain_count_s) (defScope plain_count_s) .none kV20 dc20 pm20 an20 cd20 ct20), sl20⟩)
    (c20 : PySem.W.codeIn K cd20 "plain_count" = true)
    (k20 : PySem.W.keepIn K (.ref f20) = true)
    (a21 : PySem.W.nsIn K mainGlobals "how_many" = some (some (.ref f21)))
    (l21 : K.lookup f21 = some ⟨oc21, od21, .func (PySem.W.fnOf "how_many" "how_many" (defArgs how_many_s) (defBody how_many_s) (defScope how_many_s) .none kV21 dc21 pm21 an21 cd21 ct21), sl21⟩)
    (c21 : PySem.W.codeIn K cd21 "how_many" = true)
    (k21 : PySem.W.keepIn K (.ref f21) = true)
    (a22 : PySem.W.nsIn K mainGlobals "unions" = some (some (.ref f22)))
    (l22 : K.lookup f22 = some ⟨oc22, od22, .func (PySem.W.fnOf "unions" "unions" (defArgs unions_s) (defBody unions_s) (defScope unions_s) .none kV22 dc22 pm22 an22 cd22 ct22), sl22⟩)
    (c22 : PySem.W.codeIn K cd22 "unions" = true)
    (k22 : PySem.W.keepIn K (.ref f22) = true)
    (a23 : PySem.W.nsIn K mainGlobals "plain_meetings" = some (some (.ref f23)))
    (l23 : K.lookup f23 = some ⟨oc23, od23, .func (PySem.W.fnOf "plain_meetings" "plain_meetings" (defArgs plain_meetings_s) (defBody plain_meetings_s) (defScope plain_meetings_s) .none kV23 dc23 pm23 an23 cd23 ct23), sl23⟩)
    (c23 : PySem.W.codeIn K cd23 "plain_meetings" = true)
    (k23 : PySem.W.keepIn K (.ref f23) = true)
    (a24 : PySem.W.nsIn K mainGlobals "meetings_within" = some (some (.ref f24)))
    (l24 : K.lookup f24 = some ⟨oc24, od24, .func (PySem.W.fnOf "meetings_within" "meetings_within" (defArgs meetings_within_s) (defBody meetings_within_s) (defScope meetings_within_s) .none kV24 dc24 pm24 an24 cd24 ct24), sl24⟩)
    (c24 : PySem.W.codeIn K cd24 "meetings_within" = true)
    (k24 : PySem.W.keepIn K (.ref f24) = true)
    (a25 : PySem.W.nsIn K mainGlobals "meetings" = some (some (.ref f25)))
    (l25 : K.lookup f25 = some ⟨oc25, od25, .func (PySem.W.fnOf "meetings" "meetings" (defArgs meetings_s) (defBody meetings_s) (defScope meetings_s) .none kV25 dc25 pm25 an25 cd25 ct25), sl25⟩)
    (c25 : PySem.W.codeIn K cd25 "meetings" = true)
    (k25 : PySem.W.keepIn K (.ref f25) = true)
    (a26 : PySem.W.findIn K (.ref R) "__init__" = some (some (.ref f26)))
    (i26 : PySem.W.isFn K (.ref f26) = true)
    (l26 : K.lookup f26 = some ⟨oc26, od26, .func (PySem.W.fnOf "__init__" "Rule.__init__" (defArgs Rule_init_s) (defBody Rule_init_s) (defScope Rule_init_s) (.ref fT) kV26 dc26 pm26 an26 cd26 ct26), sl26⟩)
    (c26 : PySem.W.codeIn K cd26 "Rule.__init__" = true)
    (k26 : PySem.W.keepIn K (.ref f26) = true)
    (a27 : PySem.W.findIn K (.ref R) "houses" = some (some (.ref p27)))
    (g27 : PySem.W.specialIn K (.ref p27) "__get__" = some (some (.builtin "property.__get__")))
    (t27 : PySem.W.takesIn K (.ref p27) = some true)
    (r27 : PySem.W.recIn K p27 "property" = some (.ref f27 :: rs27))
    (l27 : K.lookup f27 = some ⟨oc27, od27, .func (PySem.W.fnOf "houses" "Rule.houses" (defArgs Rule_houses_s) (defBody Rule_houses_s) (defScope Rule_houses_s) .none kV27 dc27 pm27 an27 cd27 ct27), sl27⟩)
    (c27 : PySem.W.codeIn K cd27 "Rule.houses" = true)
    (k27 : PySem.W.keepIn K (.ref f27) = true)
    (a28 : PySem.W.findIn K (.ref R) "reading" = some (some (.ref p28)))
    (g28 : PySem.W.specialIn K (.ref p28) "__get__" = some (some (.builtin "property.__get__")))
    (t28 : PySem.W.takesIn K (.ref p28) = some true)
    (r28 : PySem.W.recIn K p28 "property" = some (.ref f28 :: rs28))
    (l28 : K.lookup f28 = some ⟨oc28, od28, .func (PySem.W.fnOf "reading" "Rule.reading" (defArgs Rule_reading_s) (defBody Rule_reading_s) (defScope Rule_reading_s) .none kV28 dc28 pm28 an28 cd28 ct28), sl28⟩)
    (c28 : PySem.W.codeIn K cd28 "Rule.reading" = true)
    (k28 : PySem.W.keepIn K (.ref f28) = true)
    (a29 : PySem.W.findIn K (.ref R) "writing" = some (some (.ref p29)))
    (g29 : PySem.W.specialIn K (.ref p29) "__get__" = some (some (.builtin "property.__get__")))
    (t29 : PySem.W.takesIn K (.ref p29) = some true)
    (r29 : PySem.W.recIn K p29 "property" = some (.ref f29 :: rs29))
    (l29 : K.lookup f29 = some ⟨oc29, od29, .func (PySem.W.fnOf "writing" "Rule.writing" (defArgs Rule_writing_s) (defBody Rule_writing_s) (defScope Rule_writing_s) .none kV29 dc29 pm29 an29 cd29 ct29), sl29⟩)
    (c29 : PySem.W.codeIn K cd29 "Rule.writing" = true)
    (k29 : PySem.W.keepIn K (.ref f29) = true)
    (a30 : PySem.W.findIn K (.ref R) "writers" = some (some (.ref p30)))
    (g30 : PySem.W.specialIn K (.ref p30) "__get__" = some (some (.builtin "property.__get__")))
    (t30 : PySem.W.takesIn K (.ref p30) = some true)
    (r30 : PySem.W.recIn K p30 "property" = some (.ref f30 :: rs30))
    (l30 : K.lookup f30 = some ⟨oc30, od30, .func (PySem.W.fnOf "writers" "Rule.writers" (defArgs Rule_writers_s) (defBody Rule_writers_s) (defScope Rule_writers_s) .none kV30 dc30 pm30 an30 cd30 ct30), sl30⟩)
    (c30 : PySem.W.codeIn K cd30 "Rule.writers" = true)
    (k30 : PySem.W.keepIn K (.ref f30) = true)
    (a31 : PySem.W.findIn K (.ref R) "back" = some (some (.ref p31)))
    (g31 : PySem.W.specialIn K (.ref p31) "__get__" = some (some (.builtin "property.__get__")))
    (t31 : PySem.W.takesIn K (.ref p31) = some true)
    (r31 : PySem.W.recIn K p31 "property" = some (.ref f31 :: rs31))
    (l31 : K.lookup f31 = some ⟨oc31, od31, .func (PySem.W.fnOf "back" "Rule.back" (defArgs Rule_back_s) (defBody Rule_back_s) (defScope Rule_back_s) .none kV31 dc31 pm31 an31 cd31 ct31), sl31⟩)
    (c31 : PySem.W.codeIn K cd31 "Rule.back" = true)
    (k31 : PySem.W.keepIn K (.ref f31) = true)
    (a32 : PySem.W.findIn K (.ref R) "reading_meetings" = some (some (.ref f32)))
    (i32 : PySem.W.isFn K (.ref f32) = true)
    (l32 : K.lookup f32 = some ⟨oc32, od32, .func (PySem.W.fnOf "reading_meetings" "Rule.reading_meetings" (defArgs Rule_reading_meetings_s) (defBody Rule_reading_meetings_s) (defScope Rule_reading_meetings_s) .none kV32 dc32 pm32 an32 cd32 ct32), sl32⟩)
    (c32 : PySem.W.codeIn K cd32 "Rule.reading_meetings" = true)
    (k32 : PySem.W.keepIn K (.ref f32) = true)
    (a33 : PySem.W.findIn K (.ref R) "writing_meetings" = some (some (.ref f33)))
    (i33 : PySem.W.isFn K (.ref f33) = true)
    (l33 : K.lookup f33 = some ⟨oc33, od33, .func (PySem.W.fnOf "writing_meetings" "Rule.writing_meetings" (defArgs Rule_writing_meetings_s) (defBody Rule_writing_meetings_s) (defScope Rule_writing_meetings_s) .none kV33 dc33 pm33 an33 cd33 ct33), sl33⟩)
    (c33 : PySem.W.codeIn K cd33 "Rule.writing_meetings" = true)
    (k33 : PySem.W.keepIn K (.ref f33) = true)
    (a34 : PySem.W.findIn K (.ref R) "written" = some (some (.ref f34)))
    (i34 : PySem.W.isFn K (.ref f34) = true)
    (l34 : K.lookup f34 = some ⟨oc34, od34, .func (PySem.W.fnOf "written" "Rule.written" (defArgs Rule_written_s) (defBody Rule_written_s) (defScope Rule_written_s) .none kV34 dc34 pm34 an34 cd34 ct34), sl34⟩)
    (c34 : PySem.W.codeIn K cd34 "Rule.written" = true)
    (k34 : PySem.W.keepIn K (.ref f34) = true)
    (a35 : PySem.W.findIn K (.ref R) "__eq__" = some (some (.ref f35)))
    (i35 : PySem.W.isFn K (.ref f35) = true)
    (l35 : K.lookup f35 = some ⟨oc35, od35, .func (PySem.W.fnOf "__eq__" "Rule.__eq__" (defArgs Rule_eq_s) (defBody Rule_eq_s) (defScope Rule_eq_s) .none kV35 dc35 pm35 an35 cd35 ct35), sl35⟩)
    (c35 : PySem.W.codeIn K cd35 "Rule.__eq__" = true)
    (k35 : PySem.W.keepIn K (.ref f35) = true)
    (a36 : PySem.W.findIn K (.ref R) "__repr__" = some (some (.ref f36)))
    (i36 : PySem.W.isFn K (.ref f36) = true)
    (l36 : K.lookup f36 = some ⟨oc36, od36, .func (PySem.W.fnOf "__repr__" "Rule.__repr__" (defArgs Rule_repr_s) (defBody Rule_repr_s) (defScope Rule_repr_s) .none kV36 dc36 pm36 an36 cd36 ct36), sl36⟩)
    (c36 : PySem.W.codeIn K cd36 "Rule.__repr__" = true)
    (k36 : PySem.W.keepIn K (.ref f36) = true)
    (a37 : PySem.W.nsIn K mainGlobals "_law_pot" = some (some (.ref f37)))
    (l37 : K.lookup f37 = some ⟨oc37, od37, .func (PySem.W.fnOf "_law_pot" "_law_pot" (defArgs _law_pot_s) (defBody _law_pot_s) (defScope _law_pot_s) .none kV37 dc37 pm37 an37 cd37 ct37), sl37⟩)
    (c37 : PySem.W.codeIn K cd37 "_law_pot" = true)
    (k37 : PySem.W.keepIn K (.ref f37) = true)
    (a38 : PySem.W.nsIn K mainGlobals "_law_draw" = some (some (.ref f38)))
    (l38 : K.lookup f38 = some ⟨oc38, od38, .func (PySem.W.fnOf "_law_draw" "_law_draw" (defArgs _law_draw_s) (defBody _law_draw_s) (defScope _law_draw_s) .none kV38 dc38 pm38 an38 cd38 ct38), sl38⟩)
    (c38 : PySem.W.codeIn K cd38 "_law_draw" = true)
    (k38 : PySem.W.keepIn K (.ref f38) = true)
    (a39 : PySem.W.nsIn K mainGlobals "_law_pick" = some (some (.ref f39)))
    (l39 : K.lookup f39 = some ⟨oc39, od39, .func (PySem.W.fnOf "_law_pick" "_law_pick" (defArgs _law_pick_s) (defBody _law_pick_s) (defScope _law_pick_s) .none kV39 dc39 pm39 an39 cd39 ct39), sl39⟩)
    (c39 : PySem.W.codeIn K cd39 "_law_pick" = true)
    (k39 : PySem.W.keepIn K (.ref f39) = true)
    (a40 : PySem.W.nsIn K mainGlobals "_law_shape" = some (some (.ref f40)))
    (l40 : K.lookup f40 = some ⟨oc40, od40, .func (PySem.W.fnOf "_law_shape" "_law_shape" (defArgs _law_shape_s) (defBody _law_shape_s) (defScope _law_shape_s) .none kV40 dc40 pm40 an40 cd40 ct40), sl40⟩)
    (c40 : PySem.W.codeIn K cd40 "_law_shape" = true)
    (k40 : PySem.W.keepIn K (.ref f40) = true)
    (a41 : PySem.W.nsIn K mainGlobals "_law_tree" = some (some (.ref f41)))
    (l41 : K.lookup f41 = some ⟨oc41, od41, .func (PySem.W.fnOf "_law_tree" "_law_tree" (defArgs _law_tree_s) (defBody _law_tree_s) (defScope _law_tree_s) .none kV41 dc41 pm41 an41 cd41 ct41), sl41⟩)
    (c41 : PySem.W.codeIn K cd41 "_law_tree" = true)
    (k41 : PySem.W.keepIn K (.ref f41) = true)
    (a42 : PySem.W.nsIn K mainGlobals "_law_stands" = some (some (.ref f42)))
    (l42 : K.lookup f42 = some ⟨oc42, od42, .func (PySem.W.fnOf "_law_stands" "_law_stands" (defArgs _law_stands_s) (defBody _law_stands_s) (defScope _law_stands_s) .none kV42 dc42 pm42 an42 cd42 ct42), sl42⟩)
    (c42 : PySem.W.codeIn K cd42 "_law_stands" = true)
    (k42 : PySem.W.keepIn K (.ref f42) = true)
    (a43 : PySem.W.nsIn K mainGlobals "_law_meetings" = some (some (.ref f43)))
    (l43 : K.lookup f43 = some ⟨oc43, od43, .func (PySem.W.fnOf "_law_meetings" "_law_meetings" (defArgs _law_meetings_s) (defBody _law_meetings_s) (defScope _law_meetings_s) .none kV43 dc43 pm43 an43 cd43 ct43), sl43⟩)
    (c43 : PySem.W.codeIn K cd43 "_law_meetings" = true)
    (k43 : PySem.W.keepIn K (.ref f43) = true)
    (a44 : PySem.W.nsIn K mainGlobals "_law_is_within" = some (some (.ref f44)))
    (l44 : K.lookup f44 = some ⟨oc44, od44, .func (PySem.W.fnOf "_law_is_within" "_law_is_within" (defArgs _law_is_within_s) (defBody _law_is_within_s) (defScope _law_is_within_s) .none kV44 dc44 pm44 an44 cd44 ct44), sl44⟩)
    (c44 : PySem.W.codeIn K cd44 "_law_is_within" = true)
    (k44 : PySem.W.keepIn K (.ref f44) = true)
    (a45 : PySem.W.nsIn K mainGlobals "_law_model" = some (some (.ref f45)))
    (l45 : K.lookup f45 = some ⟨oc45, od45, .func (PySem.W.fnOf "_law_model" "_law_model" (defArgs _law_model_s) (defBody _law_model_s) (defScope _law_model_s) .none kV45 dc45 pm45 an45 cd45 ct45), sl45⟩)
    (c45 : PySem.W.codeIn K cd45 "_law_model" = true)
    (k45 : PySem.W.keepIn K (.ref f45) = true)
    (a46 : PySem.W.nsIn K mainGlobals "_law_rule_of" = some (some (.ref f46)))
    (l46 : K.lookup f46 = some ⟨oc46, od46, .func (PySem.W.fnOf "_law_rule_of" "_law_rule_of" (defArgs _law_rule_of_s) (defBody _law_rule_of_s) (defScope _law_rule_of_s) .none kV46 dc46 pm46 an46 cd46 ct46), sl46⟩)
    (c46 : PySem.W.codeIn K cd46 "_law_rule_of" = true)
    (k46 : PySem.W.keepIn K (.ref f46) = true)
    (a47 : PySem.W.nsIn K mainGlobals "_law_rule" = some (some (.ref f47)))
    (l47 : K.lookup f47 = some ⟨oc47, od47, .func (PySem.W.fnOf "_law_rule" "_law_rule" (defArgs _law_rule_s) (defBody _law_rule_s) (defScope _law_rule_s) .none kV47 dc47 pm47 an47 cd47 ct47), sl47⟩)
    (c47 : PySem.W.codeIn K cd47 "_law_rule" = true)
    (k47 : PySem.W.keepIn K (.ref f47) = true)
    (a48 : PySem.W.nsIn K mainGlobals "_law_told_right" = some (some (.ref f48)))
    (l48 : K.lookup f48 = some ⟨oc48, od48, .func (PySem.W.fnOf "_law_told_right" "_law_told_right" (defArgs _law_told_right_s) (defBody _law_told_right_s) (defScope _law_told_right_s) .none kV48 dc48 pm48 an48 cd48 ct48), sl48⟩)
    (c48 : PySem.W.codeIn K cd48 "_law_told_right" = true)
    (k48 : PySem.W.keepIn K (.ref f48) = true)
    (a49 : PySem.W.nsIn K mainGlobals "_law_others" = some (some (.ref f49)))
    (l49 : K.lookup f49 = some ⟨oc49, od49, .func (PySem.W.fnOf "_law_others" "_law_others" (defArgs _law_others_s) (defBody _law_others_s) (defScope _law_others_s) .none kV49 dc49 pm49 an49 cd49 ct49), sl49⟩)
    (c49 : PySem.W.codeIn K cd49 "_law_others" = true)
    (k49 : PySem.W.keepIn K (.ref f49) = true)
    (a50 : PySem.W.nsIn K mainGlobals "_law_is_same" = some (some (.ref f50)))
    (l50 : K.lookup f50 = some ⟨oc50, od50, .func (PySem.W.fnOf "_law_is_same" "_law_is_same" (defArgs _law_is_same_s) (defBody _law_is_same_s) (defScope _law_is_same_s) .none kV50 dc50 pm50 an50 cd50 ct50), sl50⟩)
    (c50 : PySem.W.codeIn K cd50 "_law_is_same" = true)
    (k50 : PySem.W.keepIn K (.ref f50) = true)
    (a51 : PySem.W.nsIn K mainGlobals "_law_right" = some (some (.ref f51)))
    (l51 : K.lookup f51 = some ⟨oc51, od51, .func (PySem.W.fnOf "_law_right" "_law_right" (defArgs _law_right_s) (defBody _law_right_s) (defScope _law_right_s) .none kV51 dc51 pm51 an51 cd51 ct51), sl51⟩)
    (c51 : PySem.W.codeIn K cd51 "_law_right" = true)
    (k51 : PySem.W.keepIn K (.ref f51) = true)
    (a52 : PySem.W.nsIn K mainGlobals "law" = some (some (.ref f52)))
    (l52 : K.lookup f52 = some ⟨oc52, od52, .func (PySem.W.fnOf "law" "law" (defArgs law_s) (defBody law_s) (defScope law_s) .none kV52 dc52 pm52 an52 cd52 ct52), sl52⟩)
    (c52 : PySem.W.codeIn K cd52 "law" = true)
    (k52 : PySem.W.keepIn K (.ref f52) = true)
    (lT : K.lookup fT = some ⟨.type "tuple", odT, .seq #[.str "one" u0, .str "always" u1] nT0, slT⟩)
    (aW : PySem.W.nsIn K mainGlobals "WRITERS" = some (some (.ref wA)))
    (lW : K.lookup wA = some ⟨.type "tuple", odW, .seq #[.str "one" u2, .str "many" u3, .str "blind" u4] nW, slW⟩)
    (aB : PySem.W.nsIn K mainGlobals "BACKS" = some (some (.ref bA)))
    (lB : K.lookup bA = some ⟨.type "tuple", odB, .seq #[.str "never" u5, .str "always" u6, .str "if unlike" u7] nB, slB⟩)
    (aC : PySem.W.nsIn K mainGlobals "Tree" = some (some (.ref C)))
    (pg : PySem.W.plainGet K C Str.empty = true)
    (hd : PySem.W.hasDictIn K C = true)
    (po : PySem.W.plainOver K C = true)
    (sa : PySem.W.findIn K (.ref C) "__setattr__" = some (some (.builtin "object.__setattr__")))
    (mk : PySem.W.makesIn K C = true)
    (kc : PySem.W.keepIn K (.ref C) = true)
    (n0 : PySem.W.findIn K (.ref C) "_shape" = some none)
    (n1 : PySem.W.findIn K (.ref C) "_leaves" = some none)
    (n2 : PySem.W.findIn K (.ref C) "_members" = some none)
    (dha : PySem.W.findIn K (.ref C) "__class__" = some (some (.builtin "object.__class__")))
    (dhn : PySem.W.specialIn K (.builtin "object.__class__") "__get__" = some (some (.builtin "getset_descriptor.__get__")))
    (dht : PySem.W.takesIn K (.builtin "object.__class__") = some true)
    (dhm : PySem.W.mroIn K C (.type "object") = some true)
    (dow : PySem.W.kitOne K (.ref C) (.ref C) = some true)
    (dsf : PySem.W.selfFirst K C = true)
    (dne : PySem.W.findIn K (.ref C) "__ne__" = some (some (.builtin "object.__ne__")))
    (dob : PySem.W.subIn K (.ref C) (.type "object") = some true)
    (oNoneType : PySem.W.kitOne K (.type "NoneType") (.ref C) = some false)
    (qNoneType : PySem.W.notFirst K C (.type "NoneType") = true)
    (obool : PySem.W.kitOne K (.type "bool") (.ref C) = some false)
    (qbool : PySem.W.notFirst K C (.type "bool") = true)
    (oint : PySem.W.kitOne K (.type "int") (.ref C) = some false)
    (qint : PySem.W.notFirst K C (.type "int") = true)
    (ostr : PySem.W.kitOne K (.type "str") (.ref C) = some false)
    (qstr : PySem.W.notFirst K C (.type "str") = true)
    (olist : PySem.W.kitOne K (.type "list") (.ref C) = some false)
    (qlist : PySem.W.notFirst K C (.type "list") = true)
    (otuple : PySem.W.kitOne K (.type "tuple") (.ref C) = some false)
    (qtuple : PySem.W.notFirst K C (.type "tuple") = true)
    (aR : PySem.W.nsIn K mainGlobals "Rule" = some (some (.ref R)))
    (Rpg : PySem.W.plainGet K R Str.empty = true)
    (Rhd : PySem.W.hasDictIn K R = true)
    (Rpo : PySem.W.plainOver K R = true)
    (Rsa : PySem.W.findIn K (.ref R) "__setattr__" = some (some (.builtin "object.__setattr__")))
    (Rmk : PySem.W.makesIn K R = true)
    (Rkc : PySem.W.keepIn K (.ref R) = true)
    (Rn0 : PySem.W.findIn K (.ref R) "_houses" = some none)
    (Rn1 : PySem.W.findIn K (.ref R) "_reading" = some none)
    (Rn2 : PySem.W.findIn K (.ref R) "_writing" = some none)
    (Rn3 : PySem.W.findIn K (.ref R) "_writers" = some none)
    (Rn4 : PySem.W.findIn K (.ref R) "_back" = some none)
    (Rdha : PySem.W.findIn K (.ref R) "__class__" = some (some (.builtin "object.__class__")))
    (Rdhn : PySem.W.specialIn K (.builtin "object.__class__") "__get__" = some (some (.builtin "getset_descriptor.__get__")))
    (Rdht : PySem.W.takesIn K (.builtin "object.__class__") = some true)
    (Rdhm : PySem.W.mroIn K R (.type "object") = some true)
    (Rdow : PySem.W.kitOne K (.ref R) (.ref R) = some true)
    (Rdsf : PySem.W.selfFirst K R = true)
    (Rdne : PySem.W.findIn K (.ref R) "__ne__" = some (some (.builtin "object.__ne__")))
    (Rdob : PySem.W.subIn K (.ref R) (.type "object") = some true)
    (RoNoneType : PySem.W.kitOne K (.type "NoneType") (.ref R) = some false)
    (RqNoneType : PySem.W.notFirst K R (.type "NoneType") = true)
    (Robool : PySem.W.kitOne K (.type "bool") (.ref R) = some false)
    (Rqbool : PySem.W.notFirst K R (.type "bool") = true)
    (Roint : PySem.W.kitOne K (.type "int") (.ref R) = some false)
    (Rqint : PySem.W.notFirst K R (.type "int") = true)
    (Rostr : PySem.W.kitOne K (.type "str") (.ref R) = some false)
    (Rqstr : PySem.W.notFirst K R (.type "str") = true)
    (Rolist : PySem.W.kitOne K (.type "list") (.ref R) = some false)
    (Rqlist : PySem.W.notFirst K R (.type "list") = true)
    (Rotuple : PySem.W.kitOne K (.type "tuple") (.ref R) = some false)
    (Rqtuple : PySem.W.notFirst K R (.type "tuple") = true)
    (neCR : (Value.ref C == Value.ref R) = false)
    (ciR : PySem.W.clsIn K R = some uR)
    (tyR : PySem.W.typeIn K (.ref R) = some (.type "type"))
    (sbCR : PySem.W.subIn K (.ref C) (.ref R) = some false)
    (vHOUSES : PySem.W.nsIn K mainGlobals "HOUSES" = some (some (.int 24 tk0)))
    (vMOST_LEAVES : PySem.W.nsIn K mainGlobals "MOST_LEAVES" = some (some (.int 24 tk1)))
    (vMOST_DEPTH : PySem.W.nsIn K mainGlobals "MOST_DEPTH" = some (some (.int 5 tk2)))
    (vMOST_MIXED : PySem.W.nsIn K mainGlobals "MOST_MIXED" = some (some (.int 8 tk3)))
    (vMOST_MEETINGS : PySem.W.nsIn K mainGlobals "MOST_MEETINGS" = some (some (.int 200 tk4)))
    (vMOST_HOUSES : PySem.W.nsIn K mainGlobals "MOST_HOUSES" = some (some (.int 5 tk5)))
    (zisinstance : PySem.W.nsIn K mainGlobals "isinstance" = some none)
    (zint : PySem.W.nsIn K mainGlobals "int" = some none)
    (zbool : PySem.W.nsIn K mainGlobals "bool" = some none)
    (zlist : PySem.W.nsIn K mainGlobals "list" = some none)
    (ztuple : PySem.W.nsIn K mainGlobals "tuple" = some none)
    (zlen : PySem.W.nsIn K mainGlobals "len" = some none)
    (zstr : PySem.W.nsIn K mainGlobals "str" = some none)
    (zmax : PySem.W.nsIn K mainGlobals "max" = some none)
    (zrange : PySem.W.nsIn K mainGlobals "range" = some none)
    (zproperty : PySem.W.nsIn K mainGlobals "property" = some none)
    (zany : PySem.W.nsIn K mainGlobals "any" = some none)
    (zsorted : PySem.W.nsIn K mainGlobals "sorted" = some none)
    (zzip : PySem.W.nsIn K mainGlobals "zip" = some none)
    (zall : PySem.W.nsIn K mainGlobals "all" = some none)
    (zabs : PySem.W.nsIn K mainGlobals "abs" = some none)
    (zdivmod : PySem.W.nsIn K mainGlobals "divmod" = some none)
    (zrepr : PySem.W.nsIn K mainGlobals "repr" = some none)
    (zdict : PySem.W.nsIn K mainGlobals "dict" = some none)
    (zmin : PySem.W.nsIn K mainGlobals "min" = some none)
    : ∃ fd : FuncData, (∀ (s : Shared) (u : Value), BindsTo s fd ⟨[u], []⟩ [("_law_script", u)]) ∧ ∀ base : Heap, K.In base → base.Ns mainGlobals mg → FnG P w K mg base 46 fa fd ["_law_script"] (spLaw K) := by
  have e : fa = f52 := by
    have q := hfa.symm.trans (PySem.W.mg_of X G a52)
    injection q with q
    injection q
  rw [e]
  have F0 := fun_mk (x := "is_integer") (qual := "is_integer") (st := is_integer_s) l0 c0 k0
  have F1 := fun_mk (x := "is_count") (qual := "is_count") (st := is_count_s) l1 c1 k1
  have F2 := fun_mk (x := "is_list") (qual := "is_list") (st := is_list_s) l2 c2 k2
  have F3 := fun_mk (x := "is_number_below") (qual := "is_number_below") (st := is_number_below_s) l3 c3 k3
  have F4 := fun_mk (x := "is_gate") (qual := "is_gate") (st := is_gate_s) l4 c4 k4
  have F5 := fun_mk (x := "is_tree") (qual := "is_tree") (st := is_tree_s) l5 c5 k5
  have F6 := fun_mk (x := "firm") (qual := "firm") (st := firm_s) l6 c6 k6
  have F7 := fun_mk (x := "listed") (qual := "listed") (st := listed_s) l7 c7 k7
  have F8 := fun_mk (x := "leaves") (qual := "leaves") (st := leaves_s) l8 c8 k8
  have F9 := fun_mk (x := "depth") (qual := "depth") (st := depth_s) l9 c9 k9
  have F10 := fun_mk (x := "stands_in") (qual := "stands_in") (st := stands_in_s) l10 c10 k10
  have F11 := fun_mk (x := "__init__") (qual := "Tree.__init__") (st := Tree_init_s) l11 c11 k11
  have F12 := fun_mk (x := "shape") (qual := "Tree.shape") (st := Tree_shape_s) l12 c12 k12
  have F13 := fun_mk (x := "is_plain") (qual := "Tree.is_plain") (st := Tree_is_plain_s) l13 c13 k13
  have F14 := fun_mk (x := "members") (qual := "Tree.members") (st := Tree_members_s) l14 c14 k14
  have F15 := fun_mk (x := "__eq__") (qual := "Tree.__eq__") (st := Tree_eq_s) l15 c15 k15
  have F16 := fun_mk (x := "__repr__") (qual := "Tree.__repr__") (st := Tree_repr_s) l16 c16 k16
  have F17 := fun_mk (x := "lists_of") (qual := "lists_of") (st := lists_of_s) l17 c17 k17
  have F18 := fun_mk (x := "stands_barely") (qual := "stands_barely") (st := stands_barely_s) l18 c18 k18
  have F19 := fun_mk (x := "mixed_meetings") (qual := "mixed_meetings") (st := mixed_meetings_s) l19 c19 k19
  have F20 := fun_mk (x := "plain_count") (qual := "plain_count") (st := plain_count_s) l20 c20 k20
  have F21 := fun_mk (x := "how_many") (qual := "how_many") (st := how_many_s) l21 c21 k21
  have F22 := fun_mk (x := "unions") (qual := "unions") (st := unions_s) l22 c22 k22
  have F23 := fun_mk (x := "plain_meetings") (qual := "plain_meetings") (st := plain_meetings_s) l23 c23 k23
  have F24 := fun_mk (x := "meetings_within") (qual := "meetings_within") (st := meetings_within_s) l24 c24 k24
  have F25 := fun_mk (x := "meetings") (qual := "meetings") (st := meetings_s) l25 c25 k25
  have F26 : FunD K "__init__" "Rule.__init__" (defArgs Rule_init_s) (defBody Rule_init_s) (defScope Rule_init_s) [V.str "one", V.str "always"] [] f26 (PySem.W.fnOf "__init__" "Rule.__init__" (defArgs Rule_init_s) (defBody Rule_init_s) (defScope Rule_init_s) (.ref fT) kV26 dc26 pm26 an26 cd26 ct26) := ⟨⟨oc26, od26, .ref fT, kV26, dc26, pm26, an26, cd26, ct26, sl26, rfl, l26, c26, .inr ⟨by simp, fT, _, [.str "one" u0, .str "always" u1], nT0, rfl, lT, rfl, .cons ⟨_, rfl⟩ (.cons ⟨_, rfl⟩ .nil)⟩, .inl rfl⟩, k26⟩
  have F27 := fun_mk (x := "houses") (qual := "Rule.houses") (st := Rule_houses_s) l27 c27 k27
  have F28 := fun_mk (x := "reading") (qual := "Rule.reading") (st := Rule_reading_s) l28 c28 k28
  have F29 := fun_mk (x := "writing") (qual := "Rule.writing") (st := Rule_writing_s) l29 c29 k29
  have F30 := fun_mk (x := "writers") (qual := "Rule.writers") (st := Rule_writers_s) l30 c30 k30
  have F31 := fun_mk (x := "back") (qual := "Rule.back") (st := Rule_back_s) l31 c31 k31
  have F32 := fun_mk (x := "reading_meetings") (qual := "Rule.reading_meetings") (st := Rule_reading_meetings_s) l32 c32 k32
  have F33 := fun_mk (x := "writing_meetings") (qual := "Rule.writing_meetings") (st := Rule_writing_meetings_s) l33 c33 k33
  have F34 := fun_mk (x := "written") (qual := "Rule.written") (st := Rule_written_s) l34 c34 k34
  have F35 := fun_mk (x := "__eq__") (qual := "Rule.__eq__") (st := Rule_eq_s) l35 c35 k35
  have F36 := fun_mk (x := "__repr__") (qual := "Rule.__repr__") (st := Rule_repr_s) l36 c36 k36
  have F37 := fun_mk (x := "_law_pot") (qual := "_law_pot") (st := _law_pot_s) l37 c37 k37
  have F38 := fun_mk (x := "_law_draw") (qual := "_law_draw") (st := _law_draw_s) l38 c38 k38
  have F39 := fun_mk (x := "_law_pick") (qual := "_law_pick") (st := _law_pick_s) l39 c39 k39
  have F40 := fun_mk (x := "_law_shape") (qual := "_law_shape") (st := _law_shape_s) l40 c40 k40
  have F41 := fun_mk (x := "_law_tree") (qual := "_law_tree") (st := _law_tree_s) l41 c41 k41
  have F42 := fun_mk (x := "_law_stands") (qual := "_law_stands") (st := _law_stands_s) l42 c42 k42
  have F43 := fun_mk (x := "_law_meetings") (qual := "_law_meetings") (st := _law_meetings_s) l43 c43 k43
  have F44 := fun_mk (x := "_law_is_within") (qual := "_law_is_within") (st := _law_is_within_s) l44 c44 k44
  have F45 := fun_mk (x := "_law_model") (qual := "_law_model") (st := _law_model_s) l45 c45 k45
  have F46 := fun_mk (x := "_law_rule_of") (qual := "_law_rule_of") (st := _law_rule_of_s) l46 c46 k46
  have F47 := fun_mk (x := "_law_rule") (qual := "_law_rule") (st := _law_rule_s) l47 c47 k47
  have F48 := fun_mk (x := "_law_told_right") (qual := "_law_told_right") (st := _law_told_right_s) l48 c48 k48
  have F49 := fun_mk (x := "_law_others") (qual := "_law_others") (st := _law_others_s) l49 c49 k49
  have F50 := fun_mk (x := "_law_is_same") (qual := "_law_is_same") (st := _law_is_same_s) l50 c50 k50
  have F51 := fun_mk (x := "_law_right") (qual := "_law_right") (st := _law_right_s) l51 c51 k51
  have F52 := fun_mk (x := "law") (qual := "law") (st := law_s) l52 c52 k52
  have b0 := F0.binds (ps := ["value"]) fun _ _ _ _ _ _ us hl => match us, hl with | [_], _ => rfl
  have b1 := F1.binds (ps := ["value"]) fun _ _ _ _ _ _ us hl => match us, hl with | [_], _ => rfl
  have b2 := F2.binds (ps := ["value"]) fun _ _ _ _ _ _ us hl => match us, hl with | [_], _ => rfl
  have b3 := F3.binds (ps := ["value", "many"]) fun _ _ _ _ _ _ us hl => match us, hl with | [_, _], _ => rfl
  have b4 := F4.binds (ps := ["value"]) fun _ _ _ _ _ _ us hl => match us, hl with | [_], _ => rfl
  have b5 := F5.binds (ps := ["value"]) fun _ _ _ _ _ _ us hl => match us, hl with | [_], _ => rfl
  have b6 := F6.binds (ps := ["shape"]) fun _ _ _ _ _ _ us hl => match us, hl with | [_], _ => rfl
  have b7 := F7.binds (ps := ["shape"]) fun _ _ _ _ _ _ us hl => match us, hl with | [_], _ => rfl
  have b8 := F8.binds (ps := ["shape"]) fun _ _ _ _ _ _ us hl => match us, hl with | [_], _ => rfl
  have b9 := F9.binds (ps := ["shape"]) fun _ _ _ _ _ _ us hl => match us, hl with | [_], _ => rfl
  have b10 := F10.binds (ps := ["shape", "houses"]) fun _ _ _ _ _ _ us hl => match us, hl with | [_, _], _ => rfl
  have b11 := F11.binds (ps := ["self", "shape"]) fun _ _ _ _ _ _ us hl => match us, hl with | [_, _], _ => rfl
  have b12 := F12.binds (ps := ["self"]) fun _ _ _ _ _ _ us hl => match us, hl with | [_], _ => rfl
  have b13 := F13.binds (ps := ["self"]) fun _ _ _ _ _ _ us hl => match us, hl with | [_], _ => rfl
  have b14 := F14.binds (ps := ["self"]) fun _ _ _ _ _ _ us hl => match us, hl with | [_], _ => rfl
  have b15 := F15.binds (ps := ["self", "other"]) fun _ _ _ _ _ _ us hl => match us, hl with | [_, _], _ => rfl
  have b16 := F16.binds (ps := ["self"]) fun _ _ _ _ _ _ us hl => match us, hl with | [_], _ => rfl
  have b17 := F17.binds (ps := ["houses"]) fun _ _ _ _ _ _ us hl => match us, hl with | [_], _ => rfl
  have b18 := F18.binds (ps := ["shape", "houses"]) fun _ _ _ _ _ _ us hl => match us, hl with | [_, _], _ => rfl
  have b19 := F19.binds (ps := ["tree"]) fun _ _ _ _ _ _ us hl => match us, hl with | [_], _ => rfl
  have b20 := F20.binds (ps := ["shape"]) fun _ _ _ _ _ _ us hl => match us, hl with | [_], _ => rfl
  have b21 := F21.binds (ps := ["tree"]) fun _ _ _ _ _ _ us hl => match us, hl with | [_], _ => rfl
  have b22 := F22.binds (ps := ["choices", "need"]) fun _ _ _ _ _ _ us hl => match us, hl with | [_, _], _ => rfl
  have b23 := F23.binds (ps := ["shape"]) fun _ _ _ _ _ _ us hl => match us, hl with | [_], _ => rfl
  have b24 := F24.binds (ps := ["tree", "what", "limit"]) fun _ _ _ _ _ _ us hl => match us, hl with | [_, _, _], _ => rfl
  have b25 := F25.binds (ps := ["tree"]) fun _ _ _ _ _ _ us hl => match us, hl with | [_], _ => rfl
  obtain ⟨ds6, v6, b26⟩ := F26.binds1 (ps := ["self", "houses", "reading", "writing", "writers", "back"]) 6 2 (by simp) rfl fun _ _ _ _ _ _ _ us its h1 h2 => match us, its, h1, h2 with | [_, _, _, _, _, _], [_, _], _, _ => ⟨_, rfl, rfl⟩
  cases v6
  have B2 := F26.binds1 (ps := ["self", "houses", "reading", "writing", "writers", "back"]) 4 0 (by simp) rfl fun _ _ _ _ _ _ _ us its h1 h2 => match us, its, h1, h2 with | [_, _, _, _], [_, _], _, _ => ⟨_, rfl, rfl⟩
  have KB := kbinds1 (ps := ["self", "houses", "reading", "writing", "writers", "back"]) F26 1 ["back", "writers", "writing", "reading", "houses"] (fun us ws => us ++ ws.reverse) (by simp) (fun r1 r2 => r1.append (vals_rev r2)) fun _ _ _ _ _ _ _ us its ws h1 h2 h3 => match us, its, ws, h1, h2, h3 with | [_], [_, _], [_, _, _, _, _], _, _, _ => ⟨_, rfl, rfl⟩
  have b27 := F27.binds (ps := ["self"]) fun _ _ _ _ _ _ us hl => match us, hl with | [_], _ => rfl
  have b28 := F28.binds (ps := ["self"]) fun _ _ _ _ _ _ us hl => match us, hl with | [_], _ => rfl
  have b29 := F29.binds (ps := ["self"]) fun _ _ _ _ _ _ us hl => match us, hl with | [_], _ => rfl
  have b30 := F30.binds (ps := ["self"]) fun _ _ _ _ _ _ us hl => match us, hl with | [_], _ => rfl
  have b31 := F31.binds (ps := ["self"]) fun _ _ _ _ _ _ us hl => match us, hl with | [_], _ => rfl
  have b32 := F32.binds (ps := ["self"]) fun _ _ _ _ _ _ us hl => match us, hl with | [_], _ => rfl
  have b33 := F33.binds (ps := ["self"]) fun _ _ _ _ _ _ us hl => match us, hl with | [_], _ => rfl
  have b34 := F34.binds (ps := ["self"]) fun _ _ _ _ _ _ us hl => match us, hl with | [_], _ => rfl
  have b35 := F35.binds (ps := ["self", "other"]) fun _ _ _ _ _ _ us hl => match us, hl with | [_, _], _ => rfl
  have b36 := F36.binds (ps := ["self"]) fun _ _ _ _ _ _ us hl => match us, hl with | [_], _ => rfl
  have b37 := F37.binds (ps := ["_law_script", "_law_k"]) fun _ _ _ _ _ _ us hl => match us, hl with | [_, _], _ => rfl
  have b38 := F38.binds (ps := ["_law_pot_here", "_law_size"]) fun _ _ _ _ _ _ us hl => match us, hl with | [_, _], _ => rfl
  have b39 := F39.binds (ps := ["_law_pot_here", "_law_some"]) fun _ _ _ _ _ _ us hl => match us, hl with | [_, _], _ => rfl
  have b40 := F40.binds (ps := ["_law_pot_here", "_law_many", "_law_deep"]) fun _ _ _ _ _ _ us hl => match us, hl with | [_, _, _], _ => rfl
  have b41 := F41.binds (ps := ["_law_pot_here", "_law_many"]) fun _ _ _ _ _ _ us hl => match us, hl with | [_, _], _ => rfl
  have b42 := F42.binds (ps := ["_law_shape_here", "_law_some"]) fun _ _ _ _ _ _ us hl => match us, hl with | [_, _], _ => rfl
  have b43 := F43.binds (ps := ["_law_shape_here", "_law_many"]) fun _ _ _ _ _ _ us hl => match us, hl with | [_, _], _ => rfl
  have b44 := F44.binds (ps := ["_law_one", "_law_other"]) fun _ _ _ _ _ _ us hl => match us, hl with | [_, _], _ => rfl
  have b45 := F45.binds (ps := ["_law_pot_here", "_law_most"]) fun _ _ _ _ _ _ us hl => match us, hl with | [_, _], _ => rfl
  have b46 := F46.binds (ps := ["_law_many", "_law_reading", "_law_writing", "_law_writers", "_law_back"]) fun _ _ _ _ _ _ us hl => match us, hl with | [_, _, _, _, _], _ => rfl
  have b47 := F47.binds (ps := ["_law_model_here"]) fun _ _ _ _ _ _ us hl => match us, hl with | [_], _ => rfl
  have b48 := F48.binds (ps := ["_law_model_here", "_law_rule_here"]) fun _ _ _ _ _ _ us hl => match us, hl with | [_, _], _ => rfl
  have b49 := F49.binds (ps := ["_law_pot_here", "_law_model_here"]) fun _ _ _ _ _ _ us hl => match us, hl with | [_, _], _ => rfl
  have b50 := F50.binds (ps := ["_law_model_here", "_law_other"]) fun _ _ _ _ _ _ us hl => match us, hl with | [_, _], _ => rfl
  have b51 := F51.binds (ps := ["_law_pot_here"]) fun _ _ _ _ _ _ us hl => match us, hl with | [_], _ => rfl
  have b52 := F52.binds (ps := ["_law_script"]) fun _ _ _ _ _ _ us hl => match us, hl with | [_], _ => rfl
  let fa_ : Nat → Addr := fun i => [f0, f1, f2, f3, f4, f5, f6, f7, f8, f9, f10, f11, f12, f13, f14, f15, f16, f17, f18, f19, f20, f21, f22, f23, f24, f25, f26, f27, f28, f29, f30, f31, f32, f33, f34, f35, f36, f37, f38, f39, f40, f41, f42, f43, f44, f45, f46, f47, f48, f49, f50, f51, f52].getD i 0
  let fd_ : Nat → FuncData := fun i => [(PySem.W.fnOf "is_integer" "is_integer" (defArgs is_integer_s) (defBody is_integer_s) (defScope is_integer_s) .none kV0 dc0 pm0 an0 cd0 ct0),
    (PySem.W.fnOf "is_count" "is_count" (defArgs is_count_s) (defBody is_count_s) (defScope is_count_s) .none kV1 dc1 pm1 an1 cd1 ct1),
    (PySem.W.fnOf "is_list" "is_list" (defArgs is_list_s) (defBody is_list_s) (defScope is_list_s) .none kV2 dc2 pm2 an2 cd2 ct2),
    (PySem.W.fnOf "is_number_below" "is_number_below" (defArgs is_number_below_s) (defBody is_number_below_s) (defScope is_number_below_s) .none kV3 dc3 pm3 an3 cd3 ct3),
    (PySem.W.fnOf "is_gate" "is_gate" (defArgs is_gate_s) (defBody is_gate_s) (defScope is_gate_s) .none kV4 dc4 pm4 an4 cd4 ct4),
    (PySem.W.fnOf "is_tree" "is_tree" (defArgs is_tree_s) (defBody is_tree_s) (defScope is_tree_s) .none kV5 dc5 pm5 an5 cd5 ct5),
    (PySem.W.fnOf "firm" "firm" (defArgs firm_s) (defBody firm_s) (defScope firm_s) .none kV6 dc6 pm6 an6 cd6 ct6),
    (PySem.W.fnOf "listed" "listed" (defArgs listed_s) (defBody listed_s) (defScope listed_s) .none kV7 dc7 pm7 an7 cd7 ct7),
    (PySem.W.fnOf "leaves" "leaves" (defArgs leaves_s) (defBody leaves_s) (defScope leaves_s) .none kV8 dc8 pm8 an8 cd8 ct8),
    (PySem.W.fnOf "depth" "depth" (defArgs depth_s) (defBody depth_s) (defScope depth_s) .none kV9 dc9 pm9 an9 cd9 ct9),
    (PySem.W.fnOf "stands_in" "stands_in" (defArgs stands_in_s) (defBody stands_in_s) (defScope stands_in_s) .none kV10 dc10 pm10 an10 cd10 ct10),
    (PySem.W.fnOf "__init__" "Tree.__init__" (defArgs Tree_init_s) (defBody Tree_init_s) (defScope Tree_init_s) .none kV11 dc11 pm11 an11 cd11 ct11),
    (PySem.W.fnOf "shape" "Tree.shape" (defArgs Tree_shape_s) (defBody Tree_shape_s) (defScope Tree_shape_s) .none kV12 dc12 pm12 an12 cd12 ct12),
    (PySem.W.fnOf "is_plain" "Tree.is_plain" (defArgs Tree_is_plain_s) (defBody Tree_is_plain_s) (defScope Tree_is_plain_s) .none kV13 dc13 pm13 an13 cd13 ct13),
    (PySem.W.fnOf "members" "Tree.members" (defArgs Tree_members_s) (defBody Tree_members_s) (defScope Tree_members_s) .none kV14 dc14 pm14 an14 cd14 ct14),
    (PySem.W.fnOf "__eq__" "Tree.__eq__" (defArgs Tree_eq_s) (defBody Tree_eq_s) (defScope Tree_eq_s) .none kV15 dc15 pm15 an15 cd15 ct15),
    (PySem.W.fnOf "__repr__" "Tree.__repr__" (defArgs Tree_repr_s) (defBody Tree_repr_s) (defScope Tree_repr_s) .none kV16 dc16 pm16 an16 cd16 ct16),
    (PySem.W.fnOf "lists_of" "lists_of" (defArgs lists_of_s) (defBody lists_of_s) (defScope lists_of_s) .none kV17 dc17 pm17 an17 cd17 ct17),
    (PySem.W.fnOf "stands_barely" "stands_barely" (defArgs stands_barely_s) (defBody stands_barely_s) (defScope stands_barely_s) .none kV18 dc18 pm18 an18 cd18 ct18),
    (PySem.W.fnOf "mixed_meetings" "mixed_meetings" (defArgs mixed_meetings_s) (defBody mixed_meetings_s) (defScope mixed_meetings_s) .none kV19 dc19 pm19 an19 cd19 ct19),
    (PySem.W.fnOf "plain_count" "plain_count" (defArgs plain_count_s) (defBody plain_count_s) (defScope plain_count_s) .none kV20 dc20 pm20 an20 cd20 ct20),
    (PySem.W.fnOf "how_many" "how_many" (defArgs how_many_s) (defBody how_many_s) (defScope how_many_s) .none kV21 dc21 pm21 an21 cd21 ct21),
    (PySem.W.fnOf "unions" "unions" (defArgs unions_s) (defBody unions_s) (defScope unions_s) .none kV22 dc22 pm22 an22 cd22 ct22),
    (PySem.W.fnOf "plain_meetings" "plain_meetings" (defArgs plain_meetings_s) (defBody plain_meetings_s) (defScope plain_meetings_s) .none kV23 dc23 pm23 an23 cd23 ct23),
    (PySem.W.fnOf "meetings_within" "meetings_within" (defArgs meetings_within_s) (defBody meetings_within_s) (defScope meetings_within_s) .none kV24 dc24 pm24 an24 cd24 ct24),
    (PySem.W.fnOf "meetings" "meetings" (defArgs meetings_s) (defBody meetings_s) (defScope meetings_s) .none kV25 dc25 pm25 an25 cd25 ct25),
    (PySem.W.fnOf "__init__" "Rule.__init__" (defArgs Rule_init_s) (defBody Rule_init_s) (defScope Rule_init_s) (.ref fT) kV26 dc26 pm26 an26 cd26 ct26),
    (PySem.W.fnOf "houses" "Rule.houses" (defArgs Rule_houses_s) (defBody Rule_houses_s) (defScope Rule_houses_s) .none kV27 dc27 pm27 an27 cd27 ct27),
    (PySem.W.fnOf "reading" "Rule.reading" (defArgs Rule_reading_s) (defBody Rule_reading_s) (defScope Rule_reading_s) .none kV28 dc28 pm28 an28 cd28 ct28),
    (PySem.W.fnOf "writing" "Rule.writing" (defArgs Rule_writing_s) (defBody Rule_writing_s) (defScope Rule_writing_s) .none kV29 dc29 pm29 an29 cd29 ct29),
    (PySem.W.fnOf "writers" "Rule.writers" (defArgs Rule_writers_s) (defBody Rule_writers_s) (defScope Rule_writers_s) .none kV30 dc30 pm30 an30 cd30 ct30),
    (PySem.W.fnOf "back" "Rule.back" (defArgs Rule_back_s) (defBody Rule_back_s) (defScope Rule_back_s) .none kV31 dc31 pm31 an31 cd31 ct31),
    (PySem.W.fnOf "reading_meetings" "Rule.reading_meetings" (defArgs Rule_reading_meetings_s) (defBody Rule_reading_meetings_s) (defScope Rule_reading_meetings_s) .none kV32 dc32 pm32 an32 cd32 ct32),
    (PySem.W.fnOf "writing_meetings" "Rule.writing_meetings" (defArgs Rule_writing_meetings_s) (defBody Rule_writing_meetings_s) (defScope Rule_writing_meetings_s) .none kV33 dc33 pm33 an33 cd33 ct33),
    (PySem.W.fnOf "written" "Rule.written" (defArgs Rule_written_s) (defBody Rule_written_s) (defScope Rule_written_s) .none kV34 dc34 pm34 an34 cd34 ct34),
    (PySem.W.fnOf "__eq__" "Rule.__eq__" (defArgs Rule_eq_s) (defBody Rule_eq_s) (defScope Rule_eq_s) .none kV35 dc35 pm35 an35 cd35 ct35),
    (PySem.W.fnOf "__repr__" "Rule.__repr__" (defArgs Rule_repr_s) (defBody Rule_repr_s) (defScope Rule_repr_s) .none kV36 dc36 pm36 an36 cd36 ct36),
    (PySem.W.fnOf "_law_pot" "_law_pot" (defArgs _law_pot_s) (defBody _law_pot_s) (defScope _law_pot_s) .none kV37 dc37 pm37 an37 cd37 ct37),
    (PySem.W.fnOf "_law_draw" "_law_draw" (defArgs _law_draw_s) (defBody _law_draw_s) (defScope _law_draw_s) .none kV38 dc38 pm38 an38 cd38 ct38),
    (PySem.W.fnOf "_law_pick" "_law_pick" (defArgs _law_pick_s) (defBody _law_pick_s) (defScope _law_pick_s) .none kV39 dc39 pm39 an39 cd39 ct39),
    (PySem.W.fnOf "_law_shape" "_law_shape" (defArgs _law_shape_s) (defBody _law_shape_s) (defScope _law_shape_s) .none kV40 dc40 pm40 an40 cd40 ct40),
    (PySem.W.fnOf "_law_tree" "_law_tree" (defArgs _law_tree_s) (defBody _law_tree_s) (defScope _law_tree_s) .none kV41 dc41 pm41 an41 cd41 ct41),
    (PySem.W.fnOf "_law_stands" "_law_stands" (defArgs _law_stands_s) (defBody _law_stands_s) (defScope _law_stands_s) .none kV42 dc42 pm42 an42 cd42 ct42),
    (PySem.W.fnOf "_law_meetings" "_law_meetings" (defArgs _law_meetings_s) (defBody _law_meetings_s) (defScope _law_meetings_s) .none kV43 dc43 pm43 an43 cd43 ct43),
    (PySem.W.fnOf "_law_is_within" "_law_is_within" (defArgs _law_is_within_s) (defBody _law_is_within_s) (defScope _law_is_within_s) .none kV44 dc44 pm44 an44 cd44 ct44),
    (PySem.W.fnOf "_law_model" "_law_model" (defArgs _law_model_s) (defBody _law_model_s) (defScope _law_model_s) .none kV45 dc45 pm45 an45 cd45 ct45),
    (PySem.W.fnOf "_law_rule_of" "_law_rule_of" (defArgs _law_rule_of_s) (defBody _law_rule_of_s) (defScope _law_rule_of_s) .none kV46 dc46 pm46 an46 cd46 ct46),
    (PySem.W.fnOf "_law_rule" "_law_rule" (defArgs _law_rule_s) (defBody _law_rule_s) (defScope _law_rule_s) .none kV47 dc47 pm47 an47 cd47 ct47),
    (PySem.W.fnOf "_law_told_right" "_law_told_right" (defArgs _law_told_right_s) (defBody _law_told_right_s) (defScope _law_told_right_s) .none kV48 dc48 pm48 an48 cd48 ct48),
    (PySem.W.fnOf "_law_others" "_law_others" (defArgs _law_others_s) (defBody _law_others_s) (defScope _law_others_s) .none kV49 dc49 pm49 an49 cd49 ct49),
    (PySem.W.fnOf "_law_is_same" "_law_is_same" (defArgs _law_is_same_s) (defBody _law_is_same_s) (defScope _law_is_same_s) .none kV50 dc50 pm50 an50 cd50 ct50),
    (PySem.W.fnOf "_law_right" "_law_right" (defArgs _law_right_s) (defBody _law_right_s) (defScope _law_right_s) .none kV51 dc51 pm51 an51 cd51 ct51),
    (PySem.W.fnOf "law" "law" (defArgs law_s) (defBody law_s) (defScope law_s) .none kV52 dc52 pm52 an52 cd52 ct52)].getD i (PySem.W.fnOf "law" "law" (defArgs law_s) (defBody law_s) (defScope law_s) .none kV52 dc52 pm52 an52 cd52 ct52)
  have T : Txt K mg fa_ fd_ C (fun i => [tk0, tk1, tk2, tk3, tk4, tk5].getD i tk0) := ⟨F0, PySem.W.mg_of X G a0, b0, F1, PySem.W.mg_of X G a1, b1, F2, PySem.W.mg_of X G a2, b2, F3, PySem.W.mg_of X G a3, b3, F4, PySem.W.mg_of X G a4, b4, F5, PySem.W.mg_of X G a5, b5, F6, PySem.W.mg_of X G a6, b6, F7, PySem.W.mg_of X G a7, b7, F8, PySem.W.mg_of X G a8, b8, F9, PySem.W.mg_of X G a9, b9, F10, PySem.W.mg_of X G a10, b10, F11, b11, F12, b12, F13, b13, F14, b14, F15, b15, F16, b16, F17, PySem.W.mg_of X G a17, b17, F18, PySem.W.mg_of X G a18, b18, F19, PySem.W.mg_of X G a19, b19, F20, PySem.W.mg_of X G a20, b20, F21, PySem.W.mg_of X G a21, b21, F22, PySem.W.mg_of X G a22, b22, F23, PySem.W.mg_of X G a23, b23, F24, PySem.W.mg_of X G a24, b24, F25, PySem.W.mg_of X G a25, b25, F26, b26, F27, b27, F28, b28, F29, b29, F30, b30, F31, b31, F32, b32, F33, b33, F34, b34, F35, b35, F36, b36, F37, PySem.W.mg_of X G a37, b37, F38, PySem.W.mg_of X G a38, b38, F39, PySem.W.mg_of X G a39, b39, F40, PySem.W.mg_of X G a40, b40, F41, PySem.W.mg_of X G a41, b41, F42, PySem.W.mg_of X G a42, b42, F43, PySem.W.mg_of X G a43, b43, F44, PySem.W.mg_of X G a44, b44, F45, PySem.W.mg_of X G a45, b45, F46, PySem.W.mg_of X G a46, b46, F47, PySem.W.mg_of X G a47, b47, F48, PySem.W.mg_of X G a48, b48, F49, PySem.W.mg_of X G a49, b49, F50, PySem.W.mg_of X G a50, b50, F51, PySem.W.mg_of X G a51, b51, F52, PySem.W.mg_of X G a52, b52, PySem.W.mg_of X G vHOUSES, PySem.W.mg_of X G vMOST_LEAVES, PySem.W.mg_of X G vMOST_DEPTH, PySem.W.mg_of X G vMOST_MIXED, PySem.W.mg_of X G vMOST_MEETINGS, PySem.W.mg_of X G vMOST_HOUSES, PySem.W.mg_none_of X G zisinstance, PySem.W.mg_none_of X G zint, PySem.W.mg_none_of X G zbool, PySem.W.mg_none_of X G zlist, PySem.W.mg_none_of X G ztuple, PySem.W.mg_none_of X G zlen, PySem.W.mg_none_of X G zstr, PySem.W.mg_none_of X G zmax, PySem.W.mg_none_of X G zrange, PySem.W.mg_none_of X G zproperty, PySem.W.mg_none_of X G zany, PySem.W.mg_none_of X G zsorted, PySem.W.mg_none_of X G zzip, PySem.W.mg_none_of X G zall, PySem.W.mg_none_of X G zabs, PySem.W.mg_none_of X G zdivmod, PySem.W.mg_none_of X G zrepr, PySem.W.mg_none_of X G zdict, PySem.W.mg_none_of X G zmin⟩
  have U : TxC K mg fa_ C := ⟨⟨pg, hd, po, sa⟩, n0, n1, n2, ⟨mk, a11, i11, kc⟩, PySem.W.mg_of X G aC, ⟨a14, i14, k14⟩, ⟨p12, a12, g12, t12, _, r12⟩, ⟨p13, a13, g13, t13, _, r13⟩, ⟨a15, i15, k15⟩⟩
  have D : TxD K C := ⟨dha, dhn, dht, dhm, dow, (fun n hn => by
    rcases List.mem_cons.mp hn with rfl | hn
    · exact oNoneType
    rcases List.mem_cons.mp hn with rfl | hn
    · exact obool
    rcases List.mem_cons.mp hn with rfl | hn
    · exact oint
    rcases List.mem_cons.mp hn with rfl | hn
    · exact ostr
    rcases List.mem_cons.mp hn with rfl | hn
    · exact olist
    rcases List.mem_cons.mp hn with rfl | hn
    · exact otuple
    cases hn),
    (fun n hn => by
    rcases List.mem_cons.mp hn with rfl | hn
    · exact qNoneType
    rcases List.mem_cons.mp hn with rfl | hn
    · exact qbool
    rcases List.mem_cons.mp hn with rfl | hn
    · exact qint
    rcases List.mem_cons.mp hn with rfl | hn
    · exact qstr
    rcases List.mem_cons.mp hn with rfl | hn
    · exact qlist
    rcases List.mem_cons.mp hn with rfl | hn
    · exact qtuple
    cases hn), dsf, dne, dob⟩
  have DR : TxD K R := ⟨Rdha, Rdhn, Rdht, Rdhm, Rdow, (fun n hn => by
    rcases List.mem_cons.mp hn with rfl | hn
    · exact RoNoneType
    rcases List.mem_cons.mp hn with rfl | hn
    · exact Robool
    rcases List.mem_cons.mp hn with rfl | hn
    · exact Roint
    rcases List.mem_cons.mp hn with rfl | hn
    · exact Rostr
    rcases List.mem_cons.mp hn with rfl | hn
    · exact Rolist
    rcases List.mem_cons.mp hn with rfl | hn
    · exact Rotuple
    cases hn),
    (fun n hn => by
    rcases List.mem_cons.mp hn with rfl | hn
    · exact RqNoneType
    rcases List.mem_cons.mp hn with rfl | hn
    · exact Rqbool
    rcases List.mem_cons.mp hn with rfl | hn
    · exact Rqint
    rcases List.mem_cons.mp hn with rfl | hn
    · exact Rqstr
    rcases List.mem_cons.mp hn with rfl | hn
    · exact Rqlist
    rcases List.mem_cons.mp hn with rfl | hn
    · exact Rqtuple
    cases hn), Rdsf, Rdne, Rdob⟩
  have W : TxR K mg fa_ C R := ⟨⟨Rpg, Rhd, Rpo, Rsa⟩, Rn0, Rn1, Rn2, Rn3, Rn4, ⟨Rmk, a26, i26, Rkc⟩, PySem.W.mg_of X G aR, ⟨p27, a27, g27, t27, _, r27⟩, ⟨p28, a28, g28, t28, _, r28⟩, ⟨p29, a29, g29, t29, _, r29⟩, ⟨p30, a30, g30, t30, _, r30⟩, ⟨p31, a31, g31, t31, _, r31⟩, ⟨a32, i32, k32⟩, ⟨a33, i33, k33⟩, ⟨a34, i34, k34⟩, ⟨a35, i35, k35⟩, ⟨a36, i36, k36⟩, ⟨a16, i16, k16⟩, DR, kit_two neCR ciR tyR sbCR, nf_two sbCR⟩
  have Y : TxV K mg wA bA := ⟨PySem.W.mg_of X G aW, PySem.W.mg_of X G aB, fun H => sq_const lW rfl rfl (show 3 ≤ sizeLine by decide) (show Vals [V.str "one", V.str "many", V.str "blind"] [Value.str "one" u2, Value.str "many" u3, Value.str "blind" u4] from .cons ⟨_, rfl⟩ (.cons ⟨_, rfl⟩ (.cons ⟨_, rfl⟩ .nil))) H, fun H => sq_const lB rfl rfl (show 3 ≤ sizeLine by decide) (show Vals [V.str "never", V.str "always", V.str "if unlike"] [Value.str "never" u5, Value.str "always" u6, Value.str "if unlike" u7] from .cons ⟨_, rfl⟩ (.cons ⟨_, rfl⟩ (.cons ⟨_, rfl⟩ .nil))) H⟩
  exact ⟨fd_ 52, fun s v => .of_eq rfl, fun base _ _ => ok_law T U D W Y KB B2⟩
end K31

set_option maxRecDepth 100000
set_option maxHeartbeats 4000000
namespace Kh
open PySem PySem.Spec PyProof.Rows L2
/-! the law's promise where the guards are told -/
section
variable {P : Program} {w : World} {K : PySem.W.Frag} {mg mb : Str → Option Value} {s : Shared} {H : Hp} {a b : Addr} {o : Obj}
/-- what stands behind the top -/
structure Top (K : PySem.W.Frag) (mg mb : Str → Option Value) (s : Shared) : Prop where
  kin : K.In s.heap
  own : s.heap.Ns mainGlobals mg
  bui : s.heap.Ns builtinsNs mb
  boot : ∀ y : Str, y ≠ "__name__" → mb y = bootBuiltins y
  lim : s.heap.NoLimit
  gen : s.gens = #[]
/-- H knows frozen lists alone, none of them of K -/
def Thin (K : PySem.W.Frag) (s : Shared) (H : Hp) : Prop := ∀ c u, H c = some u → K.lookup c = none ∧ ∃ p xs v n, u = .frz p (.lst xs) ∧ s.heap.get? c = some p ∧ p.data = .seq v n
theorem Thin.get (t : Thin K s H) (g : s.heap.get? b = some o) (n : K.lookup b ≠ none ∨ ∃ es ep, o.data = .dict es ep) : (hidT s.heap H).get? b = some o := by
  refine hidT_get g (Classical.byContradiction fun z => ?_)
  obtain ⟨u, hu⟩ := Option.ne_none_iff_exists'.mp z
  obtain ⟨k, p, xs, v, m, _, g2, d⟩ := t b u hu
  rcases n with n | ⟨es, ep, n⟩
  · exact n k
  · rw [Option.some.inj (g.symm.trans g2), d] at n
    cases n
theorem Thin.ns {m : Str → Option Value} (t : Thin K s H) (h : s.heap.Ns b m) : (hidT s.heap H).Ns b m := by
  obtain ⟨p, es, ep, g, d, r⟩ := h
  exact ⟨p, es, ep, t.get g (.inr ⟨es, ep, d⟩), d, r⟩
theorem Thin.kin (t : Thin K s H) (h : K.In s.heap) : K.In (hidT s.heap H) := fun c p l => t.get (h c p l) (.inl (by rw [l]; exact fun z => nomatch z))
theorem Top.env (T : Top K mg mb s) (t : Thin K s H) (ok : HOk P w H s.heap) : Env0 P w K mg (hidT s.heap H) callerA [] s H where
  frames := rfl
  mod := ⟨t.kin T.kin, t.ns T.own, ⟨mb, t.ns T.bui, T.boot⟩, by
    obtain ⟨mc, l1, l2⟩ := T.lim
    exact ⟨mc, t.ns l1, l2⟩⟩
  bs := fun _ _ g => of_hidT g
  bsz := Nat.le_of_eq (hidT_size _ _)
  funs := trivial
  frf := fun _ z => nomatch z
  hok := ok
  bare := .of_eq T.gen
/-- a call of the law has ended so -/
theorem Thin.done (t : Thin K s H) (ok : HOk P w H s.heap) {r : Result} {s' : Shared} (h : CR CX0 [] P w H s (fun v _ => v = .bl true) (fun _ _ _ => False) r s') : r = .ok (.ret (.bool true)) ∧ OldK s.heap s'.heap ∧ s'.os = s.os ∧ AllBare s'.gens := by
  match r, h with
  | .ok (.ret u), ⟨v, H', eo, ab, n, ok', rv, q⟩ =>
    have q : v = .bl true := q
    rw [q] at rv
    have rv : u = Value.bool true := rv
    refine ⟨by rw [rv], OldK.of_keep fun c p g => ?_, eo, ab⟩
    cases e : H c with
    | none => exact n.keep c p g e (fun z => nomatch z) (fun z => nomatch z)
    | some x =>
      obtain ⟨_, p', xs, _, _, rfl, _⟩ := t c x e
      rw [(ok c _ e).1] at g
      rw [← g]
      exact (ok' c _ (n.frzs c p' _ e)).1
/-- the script, known -/
theorem thin_of {vs : List Value} {ns : List Int} (T : Top K mg mb s) (g : s.heap.get? a = some { cls := .type "list", data := .seq vs.toArray }) (r : IntsAre vs ns) (l : ns.length ≤ sizeLine) : ∃ H, Thin K s H ∧ HOk P w H s.heap ∧ SqL K H a (ns.map V.int) := by
  by_cases k : K.lookup a = none
  · refine ⟨upd (fun _ => none) a (.frz { cls := .type "list", data := .seq vs.toArray } (.lst (ns.map V.int))), ?_, ?_, .inl (.inr ⟨_, upd_same⟩)⟩
    all_goals
      intro c u hu
      by_cases e : c = a
      · rw [e, upd_same] at hu
        obtain rfl := Option.some.inj hu
        rw [e]
        first
          | exact ⟨k, _, _, _, _, rfl, g, rfl⟩
          | exact ⟨g, by rw [List.length_map]; exact l, vs, _, vals_ints r, g⟩
      · rw [upd_ne e] at hu
        cases hu
  · obtain ⟨p, hp⟩ := Option.ne_none_iff_exists'.mp k
    obtain rfl := Option.some.inj (g.symm.trans (T.kin a p hp))
    exact ⟨fun _ => none, fun _ _ z => (nomatch z), fun _ _ z => (nomatch z), .inr ⟨_, vs.toArray, _, hp, rfl, rfl, rfl, by rw [List.size_toArray, r.length]; exact l, by simpa using vals_ints r⟩⟩
end
/-- from the promise of the law's def to the walk of the law -/
theorem walk_g {l : PySem.W.OpenLaw} {n k : Nat} {q : Program} {loose : List Str} {XP : (Str → Option Value) → Heap → Prop} {YP : World → Heap → Prop} {d : DefRec} {K : Params → PySem.W.Frag} {sp : World → Sp} {x : Str} (most : l.most = some n) (le : n ≤ sizeLine) (df : d.params.defaults = []) (room : Room k callerA)
    (kin : ∀ (w : World) (h : Heap), YP w h → (K w.params).In h)
    (F : ∀ (w : World) (mg : Str → Option Value) (fa : Addr) (h : Heap), (K w.params).In h → h.Ns mainGlobals mg → mg d.name = some (.ref fa) → ∃ fd : FuncData, (∀ (s : Shared) (u : Value), BindsTo s fd ⟨[u], []⟩ [(x, u)]) ∧ ∀ base : Heap, (K w.params).In base → base.Ns mainGlobals mg → FnG l.prog w (K w.params) mg base k fa fd [x] (sp w))
    (holds : ∀ (w : World) (H : Hp) (a : Addr) (ns : List Int), ns.length ≤ n → SqL (K w.params) H a (ns.map V.int) → sp w [.ref a] H (fun v _ => v = .bl true) fun _ _ _ => False) : PySem.W.WalkO q loose XP YP l.row.toRowW d [] (fun f vs => PySem.call f vs) :=
  Att.attach_call most df fun w _ s mg mb fa _ _ _ _ a vs ns G Y _ _ _ hf hs hi hl hg => by
    have T : Top (K w.params) mg mb s := ⟨kin w _ Y, G.T.g, G.T.b, G.T.builtins, G.T.nolimit, hg⟩
    obtain ⟨fd, bd, R⟩ := F w mg fa _ T.kin T.own hf
    obtain ⟨H, t, ok, sq⟩ := thin_of (P := l.prog) (w := w) T hs hi (Nat.le_trans hl le)
    exact codeAny_mono ((R _ (t.kin T.kin) (t.ns T.own)).run callerA [] s H ⟨[.ref a], []⟩ [.ref a] [.ref a] _ _ rfl room (T.env t ok) (bd s (.ref a)) (.cons rfl .nil) (holds w H a ns hl sq)) fun r s' h => t.done ok h
end Kh

set_option maxRecDepth 100000
namespace K31
open PySem PySem.Spec PyProof.Rows L2 Kh
theorem walk {l : PySem.W.OpenLaw} {q : Program} {loose : List Str} {XP : (Str → Option Value) → Heap → Prop} {YP : World → Heap → Prop} {d : DefRec} {K : Params → PySem.W.Frag} (m1 : l.most = some 63) (m2 : d.params.defaults = [])
    (m3 : ∀ (w : World) (h : Heap), YP w h → (K w.params).In h)
    (Fl : ∀ (w : World) (mg : Str → Option Value) (fa : Addr) (h : Heap), (K w.params).In h → h.Ns mainGlobals mg → mg d.name = some (.ref fa) → ∃ fd : FuncData, (∀ (s : Shared) (u : Value), BindsTo s fd ⟨[u], []⟩ [("_law_script", u)]) ∧ ∀ base : Heap, (K w.params).In base → base.Ns mainGlobals mg → FnG l.prog w (K w.params) mg base 46 fa fd ["_law_script"] (spLaw (K w.params))) :
    PySem.W.WalkO q loose XP YP l.row.toRowW d [] (fun f vs => PySem.call f vs) :=
  walk_g (n := 63) (k := 46) (x := "_law_script") (sp := fun w => spLaw (K w.params)) m1 (by decide) m2 ⟨rfl, by decide, by decide⟩ m3 Fl fun _ _ a ns hl hS => ⟨a, ns, rfl, hS, Nat.le_trans hl (by decide), fun _ => rfl⟩
end K31

open PySem PySem.W PyProof.Rows in
set_option maxRecDepth 100000 in
set_option maxHeartbeats 0 in
theorem PySem.Challenge.cw_oneshelf_k61_rules_as_values_holds : PySem.Challenge.rw_oneshelf_k61_rules_as_values.Holds := by
  w_on; o_law; k_head; (case hw => w_witness2)
  k_fill
  refine K31.walk (l := PySem.Challenge.rw_oneshelf_k61_rules_as_values) rfl rfl (fun w h Y => PySem.W.kIn_of Y) ?F
  case F =>
    intro w mg fa h KX G hmg
    refine' K31.all_mk KX G hmg ?a0 ?l0 ?c0 ?k0 ?a1 ?l1 ?c1 ?k1 ?a2 ?l2 ?c2 ?k2 ?a3 ?l3 ?c3 ?k3 ?a4 ?l4 ?c4 ?k4 ?a5 ?l5 ?c5 ?k5 ?a6 ?l6 ?c6 ?k6 ?a7 ?l7 ?c7 ?k7 ?a8 ?l8 ?c8 ?k8 ?a9 ?l9 ?c9 ?k9 ?a10 ?l10 ?c10 ?k10 ?a11 ?i11 ?l11 ?c11 ?k11 ?a12 ?g12 ?t12 ?r12 ?l12 ?c12 ?k12 ?a13 ?g13 ?t13 ?r13 ?l13 ?c13 ?k13 ?a14 ?i14 ?l14 ?c14 ?k14 ?a15 ?i15 ?l15 ?c15 ?k15 ?a16 ?i16 ?l16 ?c16 ?k16 ?a17 ?l17 ?c17 ?k17 ?a18 ?l18 ?c18 ?k18 ?a19 ?l19 ?c19 ?k19 ?a20 ?l20 ?c20 ?k20 ?a21 ?l21 ?c21 ?k21 ?a22 ?l22 ?c22 ?k22 ?a23 ?l23 ?c23 ?k23 ?a24 ?l24 ?c24 ?k24 ?a25 ?l25 ?c25 ?k25 ?a26 ?i26 ?l26 ?c26 ?k26 ?a27 ?g27 ?t27 ?r27 ?l27 ?c27 ?k27 ?a28 ?g28 ?t28 ?r28 ?l28 ?c28 ?k28 ?a29 ?g29 ?t29 ?r29 ?l29 ?c29 ?k29 ?a30 ?g30 ?t30 ?r30 ?l30 ?c30 ?k30 ?a31 ?g31 ?t31 ?r31 ?l31 ?c31 ?k31 ?a32 ?i32 ?l32 ?c32 ?k32 ?a33 ?i33 ?l33 ?c33 ?k33 ?a34 ?i34 ?l34 ?c34 ?k34 ?a35 ?i35 ?l35 ?c35 ?k35 ?a36 ?i36 ?l36 ?c36 ?k36 ?a37 ?l37 ?c37 ?k37 ?a38 ?l38 ?c38 ?k38 ?a39 ?l39 ?c39 ?k39 ?a40 ?l40 ?c40 ?k40 ?a41 ?l41 ?c41 ?k41 ?a42 ?l42 ?c42 ?k42 ?a43 ?l43 ?c43 ?k43 ?a44 ?l44 ?c44 ?k44 ?a45 ?l45 ?c45 ?k45 ?a46 ?l46 ?c46 ?k46 ?a47 ?l47 ?c47 ?k47 ?a48 ?l48 ?c48 ?k48 ?a49 ?l49 ?c49 ?k49 ?a50 ?l50 ?c50 ?k50 ?a51 ?l51 ?c51 ?k51 ?a52 ?l52 ?c52 ?k52 ?lT ?aW ?lW ?aB ?lB ?aC ?pg ?hd ?po ?sa ?mk ?kc ?n0 ?n1 ?n2 ?dha ?dhn ?dht ?dhm ?dow ?dsf ?dne ?dob ?oNoneType ?qNoneType ?obool ?qbool ?oint ?qint ?ostr ?qstr ?olist ?qlist ?otuple ?qtuple ?aR ?Rpg ?Rhd ?Rpo ?Rsa ?Rmk ?Rkc ?Rn0 ?Rn1 ?Rn2 ?Rn3 ?Rn4 ?Rdha ?Rdhn ?Rdht ?Rdhm ?Rdow ?Rdsf ?Rdne ?Rdob ?RoNoneType ?RqNoneType ?Robool ?Rqbool ?Roint ?Rqint ?Rostr ?Rqstr ?Rolist ?Rqlist ?Rotuple ?Rqtuple ?neCR ?ciR ?tyR ?sbCR ?vHOUSES ?vMOST_LEAVES ?vMOST_DEPTH ?vMOST_MIXED ?vMOST_MEETINGS ?vMOST_HOUSES ?zisinstance ?zint ?zbool ?zlist ?ztuple ?zlen ?zstr ?zmax ?zrange ?zproperty ?zany ?zsorted ?zzip ?zall ?zabs ?zdivmod ?zrepr ?zdict ?zmin
    (case aC => k_is)
    (case aR => k_is)
    (case a0 => k_is)
    (case l0 => k_is)
    (case c0 => k_is)
    (case k0 => k_is)
    (case a1 => k_is)
    (case l1 => k_is)
    (case c1 => k_is)
    (case k1 => k_is)
    (case a2 => k_is)
    (case l2 => k_is)
    (case c2 => k_is)
    (case k2 => k_is)
    (case a3 => k_is)
    (case l3 => k_is)
    (case c3 => k_is)
    (case k3 => k_is)
    (case a4 => k_is)
    (case l4 => k_is)
    (case c4 => k_is)
    (case k4 => k_is)
    (case a5 => k_is)
    (case l5 => k_is)
    (case c5 => k_is)
    (case k5 => k_is)
    (case a6 => k_is)
    (case l6 => k_is)
    (case c6 => k_is)
    (case k6 => k_is)
    (case a7 => k_is)
    (case l7 => k_is)
    (case c7 => k_is)
    (case k7 => k_is)
    (case a8 => k_is)
    (case l8 => k_is)
    (case c8 => k_is)
    (case k8 => k_is)
    (case a9 => k_is)
    (case l9 => k_is)
    (case c9 => k_is)
    (case k9 => k_is)
    (case a10 => k_is)
    (case l10 => k_is)
    (case c10 => k_is)
    (case k10 => k_is)
    (case a11 => k_is)
    (case i11 => k_is)
    (case l11 => k_is)
    (case c11 => k_is)
    (case k11 => k_is)
    (case a12 => k_is)
    (case g12 => k_is)
    (case t12 => k_is)
    (case r12 => k_is)
    (case l12 => k_is)
    (case c12 => k_is)
    (case k12 => k_is)
    (case a13 => k_is)
    (case g13 => k_is)
    (case t13 => k_is)
    (case r13 => k_is)
    (case l13 => k_is)
    (case c13 => k_is)
    (case k13 => k_is)
    (case a14 => k_is)
    (case i14 => k_is)
    (case l14 => k_is)
    (case c14 => k_is)
    (case k14 => k_is)
    (case a15 => k_is)
    (case i15 => k_is)
    (case l15 => k_is)
    (case c15 => k_is)
    (case k15 => k_is)
    (case a16 => k_is)
    (case i16 => k_is)
    (case l16 => k_is)
    (case c16 => k_is)
    (case k16 => k_is)
    (case a17 => k_is)
    (case l17 => k_is)
    (case c17 => k_is)
    (case k17 => k_is)
    (case a18 => k_is)
    (case l18 => k_is)
    (case c18 => k_is)
    (case k18 => k_is)
    (case a19 => k_is)
    (case l19 => k_is)
    (case c19 => k_is)
    (case k19 => k_is)
    (case a20 => k_is)
    (case l20 => k_is)
    (case c20 => k_is)
    (case k20 => k_is)
    (case a21 => k_is)
    (case l21 => k_is)
    (case c21 => k_is)
    (case k21 => k_is)
    (case a22 => k_is)
    (case l22 => k_is)
    (case c22 => k_is)
    (case k22 => k_is)
    (case a23 => k_is)
    (case l23 => k_is)
    (case c23 => k_is)
    (case k23 => k_is)
    (case a24 => k_is)
    (case l24 => k_is)
    (case c24 => k_is)
    (case k24 => k_is)
    (case a25 => k_is)
    (case l25 => k_is)
    (case c25 => k_is)
    (case k25 => k_is)
    (case a26 => k_is)
    (case i26 => k_is)
    (case l26 => k_is)
    (case c26 => k_is)
    (case k26 => k_is)
    (case a27 => k_is)
    (case g27 => k_is)
    (case t27 => k_is)
    (case r27 => k_is)
    (case l27 => k_is)
    (case c27 => k_is)
    (case k27 => k_is)
    (case a28 => k_is)
    (case g28 => k_is)
    (case t28 => k_is)
    (case r28 => k_is)
    (case l28 => k_is)
    (case c28 => k_is)
    (case k28 => k_is)
    (case a29 => k_is)
    (case g29 => k_is)
    (case t29 => k_is)
    (case r29 => k_is)
    (case l29 => k_is)
    (case c29 => k_is)
    (case k29 => k_is)
    (case a30 => k_is)
    (case g30 => k_is)
    (case t30 => k_is)
    (case r30 => k_is)
    (case l30 => k_is)
    (case c30 => k_is)
    (case k30 => k_is)
    (case a31 => k_is)
    (case g31 => k_is)
    (case t31 => k_is)
    (case r31 => k_is)
    (case l31 => k_is)
    (case c31 => k_is)
    (case k31 => k_is)
    (case a32 => k_is)
    (case i32 => k_is)
    (case l32 => k_is)
    (case c32 => k_is)
    (case k32 => k_is)
    (case a33 => k_is)
    (case i33 => k_is)
    (case l33 => k_is)
    (case c33 => k_is)
    (case k33 => k_is)
    (case a34 => k_is)
    (case i34 => k_is)
    (case l34 => k_is)
    (case c34 => k_is)
    (case k34 => k_is)
    (case a35 => k_is)
    (case i35 => k_is)
    (case l35 => k_is)
    (case c35 => k_is)
    (case k35 => k_is)
    (case a36 => k_is)
    (case i36 => k_is)
    (case l36 => k_is)
    (case c36 => k_is)
    (case k36 => k_is)
    (case a37 => k_is)
    (case l37 => k_is)
    (case c37 => k_is)
    (case k37 => k_is)
    (case a38 => k_is)
    (case l38 => k_is)
    (case c38 => k_is)
    (case k38 => k_is)
    (case a39 => k_is)
    (case l39 => k_is)
    (case c39 => k_is)
    (case k39 => k_is)
    (case a40 => k_is)
    (case l40 => k_is)
    (case c40 => k_is)
    (case k40 => k_is)
    (case a41 => k_is)
    (case l41 => k_is)
    (case c41 => k_is)
    (case k41 => k_is)
    (case a42 => k_is)
    (case l42 => k_is)
    (case c42 => k_is)
    (case k42 => k_is)
    (case a43 => k_is)
    (case l43 => k_is)
    (case c43 => k_is)
    (case k43 => k_is)
    (case a44 => k_is)
    (case l44 => k_is)
    (case c44 => k_is)
    (case k44 => k_is)
    (case a45 => k_is)
    (case l45 => k_is)
    (case c45 => k_is)
    (case k45 => k_is)
    (case a46 => k_is)
    (case l46 => k_is)
    (case c46 => k_is)
    (case k46 => k_is)
    (case a47 => k_is)
    (case l47 => k_is)
    (case c47 => k_is)
    (case k47 => k_is)
    (case a48 => k_is)
    (case l48 => k_is)
    (case c48 => k_is)
    (case k48 => k_is)
    (case a49 => k_is)
    (case l49 => k_is)
    (case c49 => k_is)
    (case k49 => k_is)
    (case a50 => k_is)
    (case l50 => k_is)
    (case c50 => k_is)
    (case k50 => k_is)
    (case a51 => k_is)
    (case l51 => k_is)
    (case c51 => k_is)
    (case k51 => k_is)
    (case a52 => k_is)
    (case l52 => k_is)
    (case c52 => k_is)
    (case k52 => k_is)
    (case lT => k_is)
    (case aW => k_is)
    (case lW => k_is)
    (case aB => k_is)
    (case lB => k_is)
    (case pg => k_is)
    (case hd => k_is)
    (case po => k_is)
    (case sa => k_is)
    (case mk => k_is)
    (case kc => k_is)
    (case n0 => k_is)
    (case n1 => k_is)
    (case n2 => k_is)
    (case dha => k_is)
    (case dhn => k_is)
    (case dht => k_is)
    (case dhm => k_is)
    (case dow => exact if_pos (beq_self_eq_true _))
    (case dsf => k_is)
    (case dne => k_is)
    (case dob => k_is)
    (case oNoneType => (refine' K31.kit_oth ?ci ?ty ?m6; (case ci => k_is); (case ty => k_is); (case m6 => exact K31.mro6 _ (by simp))))
    (case qNoneType => k_is)
    (case obool => (refine' K31.kit_oth ?ci ?ty ?m6; (case ci => k_is); (case ty => k_is); (case m6 => exact K31.mro6 _ (by simp))))
    (case qbool => k_is)
    (case oint => (refine' K31.kit_oth ?ci ?ty ?m6; (case ci => k_is); (case ty => k_is); (case m6 => exact K31.mro6 _ (by simp))))
    (case qint => k_is)
    (case ostr => (refine' K31.kit_oth ?ci ?ty ?m6; (case ci => k_is); (case ty => k_is); (case m6 => exact K31.mro6 _ (by simp))))
    (case qstr => k_is)
    (case olist => (refine' K31.kit_oth ?ci ?ty ?m6; (case ci => k_is); (case ty => k_is); (case m6 => exact K31.mro6 _ (by simp))))
    (case qlist => k_is)
    (case otuple => (refine' K31.kit_oth ?ci ?ty ?m6; (case ci => k_is); (case ty => k_is); (case m6 => exact K31.mro6 _ (by simp))))
    (case qtuple => k_is)
    (case Rpg => k_is)
    (case Rhd => k_is)
    (case Rpo => k_is)
    (case Rsa => k_is)
    (case Rmk => k_is)
    (case Rkc => k_is)
    (case Rn0 => k_is)
    (case Rn1 => k_is)
    (case Rn2 => k_is)
    (case Rn3 => k_is)
    (case Rn4 => k_is)
    (case Rdha => k_is)
    (case Rdhn => k_is)
    (case Rdht => k_is)
    (case Rdhm => k_is)
    (case Rdow => exact if_pos (beq_self_eq_true _))
    (case Rdsf => k_is)
    (case Rdne => k_is)
    (case Rdob => k_is)
    (case RoNoneType => (refine' K31.kit_oth ?ci ?ty ?m6; (case ci => k_is); (case ty => k_is); (case m6 => exact K31.mro6 _ (by simp))))
    (case RqNoneType => k_is)
    (case Robool => (refine' K31.kit_oth ?ci ?ty ?m6; (case ci => k_is); (case ty => k_is); (case m6 => exact K31.mro6 _ (by simp))))
    (case Rqbool => k_is)
    (case Roint => (refine' K31.kit_oth ?ci ?ty ?m6; (case ci => k_is); (case ty => k_is); (case m6 => exact K31.mro6 _ (by simp))))
    (case Rqint => k_is)
    (case Rostr => (refine' K31.kit_oth ?ci ?ty ?m6; (case ci => k_is); (case ty => k_is); (case m6 => exact K31.mro6 _ (by simp))))
    (case Rqstr => k_is)
    (case Rolist => (refine' K31.kit_oth ?ci ?ty ?m6; (case ci => k_is); (case ty => k_is); (case m6 => exact K31.mro6 _ (by simp))))
    (case Rqlist => k_is)
    (case Rotuple => (refine' K31.kit_oth ?ci ?ty ?m6; (case ci => k_is); (case ty => k_is); (case m6 => exact K31.mro6 _ (by simp))))
    (case Rqtuple => k_is)
    (case neCR => first | rfl | decide | simp | k_is)
    (case ciR => k_is)
    (case tyR => k_is)
    (case sbCR => k_is)
    (case vHOUSES => k_is)
    (case vMOST_LEAVES => k_is)
    (case vMOST_DEPTH => k_is)
    (case vMOST_MIXED => k_is)
    (case vMOST_MEETINGS => k_is)
    (case vMOST_HOUSES => k_is)
    (case zisinstance => k_is)
    (case zint => k_is)
    (case zbool => k_is)
    (case zlist => k_is)
    (case ztuple => k_is)
    (case zlen => k_is)
    (case zstr => k_is)
    (case zmax => k_is)
    (case zrange => k_is)
    (case zproperty => k_is)
    (case zany => k_is)
    (case zsorted => k_is)
    (case zzip => k_is)
    (case zall => k_is)
    (case zabs => k_is)
    (case zdivmod => k_is)
    (case zrepr => k_is)
    (case zdict => k_is)
    (case zmin => k_is)
#print axioms PySem.Challenge.cw_oneshelf_k61_rules_as_values_holds

